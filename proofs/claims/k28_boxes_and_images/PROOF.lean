import PyProof.Rows.All
import Wide.All
import OpenK.AllK
import Wide.FinOn
import Lean
import PyProof.EqAt
import PyProof.EqKinds
import PyProof.TupleCall
import PyProof.NeKinds
import PyProof.NsDelKeeps
import PyProof.ExcArgs
import PyProof.ExcAttrAll.ValueError
import PySem.Challenge.RW_selfsight_k28_boxes_and_images
set_option Elab.async false
set_option linter.all false
set_option maxRecDepth 100000
namespace L2
open PySem PySem.Spec PyProof.Rows

/-- a key: an int or a str -/
abbrev Key := Sum Int Str
def keyIs : Key → Value → Bool
  | .inl k, v => Value.isInt k v
  | .inr x, v => Value.isStrOf x v
def keyH (w : World) : Key → Int
  | .inl k => hashInt k
  | .inr x => hashStr w x
theorem keyIs_shape : ∀ {k : Key} {v : Value}, keyIs k v = true → (∃ i t, k = Sum.inl i ∧ v = Value.int i t) ∨ (∃ x t, k = Sum.inr x ∧ v = Value.str x t)
  | .inl i, v, h => by
    obtain ⟨t, e⟩ := Value.isInt_shape (k := i) (v := v) h
    exact .inl ⟨i, t, rfl, e⟩
  | .inr x, v, h => by
    obtain ⟨t, e⟩ := Value.isStrOf_shape (x := x) (v := v) h
    exact .inr ⟨x, t, rfl, e⟩
theorem keyIs_int (i : Int) (t : Tok) : keyIs (.inl i) (.int i t) = true := by simp [keyIs, Value.isInt]
theorem keyIs_str (x : Str) (t : Tok) : keyIs (.inr x) (.str x t) = true := by simp [keyIs, Value.isStrOf]
theorem key_ll (a b : Int) : decide ((Sum.inl a : Key) = Sum.inl b) = (a == b) := by
  by_cases e : a = b
  · subst e; simp
  · have h : ¬ (Sum.inl a : Key) = Sum.inl b := fun q => e (Sum.inl.inj q)
    rw [decide_eq_false h]
    exact (beq_eq_false_iff_ne.mpr e).symm
theorem key_rr (a b : Str) : decide ((Sum.inr a : Key) = Sum.inr b) = decide (a = b) := by
  by_cases e : a = b
  · subst e; simp
  · have h : ¬ (Sum.inr a : Key) = Sum.inr b := fun q => e (Sum.inr.inj q)
    rw [decide_eq_false h, decide_eq_false e]
theorem key_lr (a : Int) (b : Str) : decide ((Sum.inl a : Key) = Sum.inr b) = false := decide_eq_false (fun q => nomatch q)
theorem key_rl (a : Str) (b : Int) : decide ((Sum.inr a : Key) = Sum.inl b) = false := decide_eq_false (fun q => nomatch q)

def mixKind (prog : Program) (w : World) : PySem.KeyKind prog w Key where
  is := keyIs
  hash := keyH w
  inj := fun v a b ha hb => by
    rcases keyIs_shape ha with ⟨i, t, rfl, rfl⟩ | ⟨x, t, rfl, rfl⟩
    · rcases keyIs_shape hb with ⟨j, u, rfl, e⟩ | ⟨y, u, rfl, e⟩
      · injection e with e1 _; rw [e1]
      · exact nomatch e
    · rcases keyIs_shape hb with ⟨j, u, rfl, e⟩ | ⟨y, u, rfl, e⟩
      · exact nomatch e
      · injection e with e1 _; rw [e1]
  byValue := fun k v h => by
    rcases keyIs_shape h with ⟨i, t, rfl, rfl⟩ | ⟨x, t, rfl, rfl⟩ <;> rfl
  pyHash := fun hv h => by
    rcases keyIs_shape hv with ⟨i, t, rfl, rfl⟩ | ⟨x, t, rfl, rfl⟩
    · exact wpAny_pyHash_int h
    · exact wpAny_pyHash_str h
  eqBool := fun hu hv h => by
    rcases keyIs_shape hu with ⟨i, t, rfl, rfl⟩ | ⟨x, t, rfl, rfl⟩
    · rcases keyIs_shape hv with ⟨j, u, rfl, rfl⟩ | ⟨y, u, rfl, rfl⟩
      · rw [key_ll] at h; exact wpAny_eqBool_int h
      · rw [key_lr] at h; exact SeqAt.EqAt.int_str i t y u _ _ _ _ h
    · rcases keyIs_shape hv with ⟨j, u, rfl, rfl⟩ | ⟨y, u, rfl, rfl⟩
      · rw [key_rl] at h; exact SeqAt.EqAt.str_int x t j u _ _ _ _ h
      · rw [key_rr] at h; exact wpAny_eqBool_str h
  «strs» := fun k x t v h => by
    rcases keyIs_shape h with ⟨i, u, rfl, e⟩ | ⟨y, u, rfl, e⟩
    · exact nomatch e
    · injection e with e1 _
      subst e1
      cases v <;> rfl

theorem mixKind_int (prog : Program) (w : World) (i : Int) (t : Tok) : (mixKind prog w).is (.inl i) (.int i t) = true := keyIs_int i t
theorem mixKind_str (prog : Program) (w : World) (x : Str) (t : Tok) : (mixKind prog w).is (.inr x) (.str x t) = true := keyIs_str x t
end L2

namespace L2
open PySem PySem.Spec PyProof.Rows

/-- a value, without the heap -/
inductive V where
  | non | bl (b : Bool) | int (i : Int) | str (x : Str) | byt (b : Array UInt8) | flt (b : UInt64) | ref (a : Addr) | ty (n : String)
  deriving DecidableEq

def RelV : V → Value → Prop
  | .non, u => u = Value.none
  | .bl b, u => u = Value.bool b
  | .int i, u => ∃ t, u = Value.int i t
  | .str x, u => ∃ t, u = Value.str x t
  | .byt b, u => ∃ t, u = Value.bytes b t
  | .flt b, u => ∃ t, u = Value.float b t
  | .ref a, u => u = Value.ref a
  | .ty n, u => u = Value.type n

abbrev Vals : List V → List Value → Prop := Paired RelV
theorem Vals.length {xs : List V} {us : List Value} (r : Vals xs us) : xs.length = us.length := Paired.length r
theorem Vals.get : ∀ {xs : List V} {us : List Value} {i : Nat} {x : V}, Vals xs us → xs[i]? = some x → ∃ u, us[i]? = some u ∧ RelV x u
  | _, _, _, _, .nil, e => by simp at e
  | _, _, 0, _, .cons r _, e => by simp at e; subst e; exact ⟨_, rfl, r⟩
  | _, _, i + 1, x, .cons _ t, e => by
    obtain ⟨u, h1, h2⟩ := Vals.get (i := i) (x := x) t (by simpa using e)
    exact ⟨u, by simpa using h1, h2⟩
theorem Vals.set {x : V} {u : Value} (r : RelV x u) : ∀ {xs : List V} {us : List Value} (i : Nat), Vals xs us → Vals (xs.set i x) (us.set i u)
  | _, _, _, .nil => .nil
  | _, _, 0, .cons _ t => .cons r t
  | _, _, i + 1, .cons q t => .cons q (Vals.set r i t)
theorem Vals.append : ∀ {xs ys : List V} {us ws : List Value}, Vals xs us → Vals ys ws → Vals (xs ++ ys) (us ++ ws)
  | _, _, _, _, .nil, s => s
  | _, _, _, _, .cons r t, s => .cons r (Vals.append t s)
theorem Vals.take : ∀ {xs : List V} {us : List Value} (n : Nat), Vals xs us → Vals (xs.take n) (us.take n)
  | _, _, 0, _ => .nil
  | _, _, _ + 1, .nil => .nil
  | _, _, n + 1, .cons r t => .cons r (Vals.take n t)
theorem Vals.drop : ∀ {xs : List V} {us : List Value} (n : Nat), Vals xs us → Vals (xs.drop n) (us.drop n)
  | _, _, 0, r => r
  | _, _, _ + 1, .nil => .nil
  | _, _, n + 1, .cons _ t => Vals.drop n t
theorem Vals.none_of : ∀ {xs : List V} {us : List Value} {i : Nat}, Vals xs us → xs[i]? = none → us[i]? = none := fun {xs us i} r e => by
  have h1 := r.length
  have h2 : xs.length ≤ i := List.getElem?_eq_none_iff.mp e
  exact List.getElem?_eq_none_iff.mpr (by omega)

def RelO : Option V → Option Value → Prop
  | some v, some u => RelV v u
  | none, none => True
  | _, _ => False
def KV {κ : Type} : List (κ × V) → List (κ × Value) → Prop := Paired fun (p : κ × V) (q : κ × Value) => p.1 = q.1 ∧ RelV p.2 q.2

/-- a key of a dict (00_mix): an int or a text -/
def kV : Key → V
  | .inl i => .int i
  | .inr x => .str x

/-- what stands at a tracked address -/
inductive HO where
  /-- a list -/
  | lst (xs : List V)
  /-- a tuple (never changes) -/
  | tup (xs : List V)
  /-- a dict whose keys are ints and texts; one whose keys are tuples of ints and texts (the empty one is both) -/
  | dK (kvs : List (Key × V)) | dT (kvs : List (List Key × V))
  /-- a set of ints: its members, its size -/
  | set (S : Int → Bool) (n : Nat)
  /-- an instance of the class at C, its dict at dx, its attributes -/
  | ins (C dx : Addr) (fs : List (Str × V))
  /-- the dict of the instance at x -/
  | own (x : Addr)
  /-- the dict of an exception -/
  | xd (fs : List (Str × V))
  /-- a bound method, f of x -/
  | met (f x : Addr)
  /-- a range object lo, lo + 1, .. below hi -/
  | rng (lo hi : Int)
  /-- a thing that is known to the object (the script; a dict while a loop walks it): read, never written while it is so -/
  | frz (o : Obj) (u : HO)
  /-- a code object's table -/
  | tbl (ps : Array Value)
  /-- any other thing, by what is true of its one object (a def of one's own: SetO a S n := HO.ext fun h => ..) -/
  | ext (φ : Heap → Prop)

abbrev Hp := Addr → Option HO
def upd (H : Hp) (a : Addr) (o : HO) : Hp := fun b => if b = a then some o else H b
theorem upd_same {H : Hp} {a : Addr} {o : HO} : upd H a o a = some o := by unfold upd; rw [if_pos rfl]
theorem upd_ne {H : Hp} {a b : Addr} {o : HO} (h : b ≠ a) : upd H a o b = H b := by unfold upd; rw [if_neg h]
/-- two objects of different content stand apart -/
theorem ne_of {H : Hp} {a b : Addr} {o u : HO} (h : H a = some o) (h' : H b = some u) (d : o ≠ u) : a ≠ b := by
  intro e; subst e; rw [h] at h'; exact d (Option.some.inj h')
theorem ne_of_none {H : Hp} {a b : Addr} {o : HO} (h : H a = some o) (h' : H b = none) : a ≠ b := by
  intro e; subst e; rw [h] at h'; cases h'

section
variable (P : Program) (w : World)
def ObjOk (H : Hp) (h : Heap) (a : Addr) : HO → Prop
  | .lst xs => xs.length ≤ sizeLine ∧ ∃ (its : List Value) (n : Nat), Vals xs its ∧ h.get? a = some { cls := .type "list", data := .seq its.toArray n }
  | .tup xs => xs.length ≤ sizeLine ∧ ∃ its : List Value, Vals xs its ∧ IsTup h a its.toArray
  | .dK kvs => kvs.length ≤ sizeLine ∧ (a == sysModules) = false ∧ ∃ vs, KV kvs vs ∧ h.DictOf (mixKind P w) a vs
  | .dT kvs => kvs.length ≤ sizeLine ∧ (a == sysModules) = false ∧ ∃ xs : List (List Key × Addr × Value),
      Paired (fun (p : List Key × V) (q : List Key × Addr × Value) => p.1 = q.1 ∧ H q.2.1 = some (.tup (p.1.map kV)) ∧ RelV p.2 q.2.2) kvs xs ∧
      ∃ o es ep, h.get? a = some o ∧ o.ExactDict ∧ o.data = .dict es ep ∧ es.toList = xs.map (entryOfKey (tupleKind (mixKind P w))) ∧ (xs.map (·.1)).Nodup
  | .set S n => h.SetOf (intKind P w) a S n
  | .ins C dx fs => H dx = some (.own a) ∧ fs.length ≤ 1000 ∧ dx ≠ a ∧ h.get? a = some (PySem.W.instObj C dx) ∧
      ∃ mA, h.Ns1 dx mA ∧ (∀ f, RelO (fs.lookup f) (mA f)) ∧ PySem.Within mA (fs.map (·.1))
  | .own _ => ∃ o, h.get? a = some o
  | .xd fs => ∃ mA, h.Ns1 a mA ∧ ∀ f, RelO (fs.lookup f) (mA f)
  | .rng lo hi => ∃ t u v, h.get? a = some { cls := .type "range", data := .fields #[.int lo t, .int hi u, .int 1 v] }
  | .frz o u => h.get? a = some o ∧ ObjOk H h a u
  | .tbl ps => h.get? a = some { cls := .none, data := .fields ps }
  | .met f x => h.get? a = some (PySem.W.methodObj (.ref f) (.ref x))
  | .ext φ => φ h ∧ (∃ o, h.get? a = some o) ∧ ∀ h1 h2 : Heap, φ h1 → (∀ o, h1.get? a = some o → h2.get? a = some o) → φ h2
/-- the abstract heap is held -/
def HOk (H : Hp) (h : Heap) : Prop := ∀ a o, H a = some o → ObjOk P w H h a o
end

section
variable {P : Program} {w : World} {H H' : Hp} {h h' : Heap} {a : Addr} {o : HO}
theorem ObjOk.lt (x : ObjOk P w H h a o) : a < h.objs.size := by
  cases o with
  | lst xs => obtain ⟨_, _, _, _, e⟩ := x; exact Heap.lt_size e
  | tup xs => obtain ⟨_, _, _, p⟩ := x; exact p.lt
  | dK kvs => obtain ⟨_, _, _, _, o, _, _, e, _⟩ := x; exact Heap.lt_size e
  | dT kvs => obtain ⟨_, _, _, _, o, _, _, e, _⟩ := x; exact Heap.lt_size e
  | set S n => obtain ⟨o, _, _, _, e, _⟩ := x; exact Heap.lt_size e
  | ins C dx fs => obtain ⟨_, _, _, e, _⟩ := x; exact Heap.lt_size e
  | own y => obtain ⟨_, e⟩ := x; exact Heap.lt_size e
  | xd fs => obtain ⟨_, ⟨_, _, _, e, _⟩, _⟩ := x; exact Heap.lt_size e
  | rng lo hi => obtain ⟨_, _, _, e⟩ := x; exact Heap.lt_size e
  | frz ob u => obtain ⟨e, _⟩ := x; exact Heap.lt_size e
  | tbl ps => exact Heap.lt_size (show h.get? a = some _ from x)
  | met f y => exact Heap.lt_size (show h.get? a = some _ from x)
  | ext φ => obtain ⟨_, ⟨_, e⟩, _⟩ := x; exact Heap.lt_size e
theorem Paired.mapP {α β : Type} {F G : α → β → Prop} : ∀ {l₁ : List α} {l₂ : List β}, Paired F l₁ l₂ → (∀ a b, F a b → G a b) → Paired G l₁ l₂
  | _, _, .nil, _ => .nil
  | _, _, .cons r t, f => .cons (f _ _ r) (Paired.mapP t f)
/-- what an object's description leans on: its own object, its own dict, the tuples -/
theorem ObjOk.stay (x : ObjOk P w H h a o) (k : ∀ b u, (b = a ∨ H b = some (.own a)) → h.get? b = some u → h'.get? b = some u)
    (ho : ∀ b, H b = some (.own a) → H' b = some (.own a)) (ht : ∀ b xs, H b = some (.tup xs) → H' b = some (.tup xs)) : ObjOk P w H' h' a o := by
  induction o with
  | lst xs => obtain ⟨z, its, n, r, e⟩ := x; exact ⟨z, its, n, r, k _ _ (.inl rfl) e⟩
  | tup xs => obtain ⟨z, its, r, ob, e, c⟩ := x; exact ⟨z, its, r, ob, k _ _ (.inl rfl) e, c⟩
  | dK kvs => obtain ⟨z, y, vs, r, ob, es, ep, e, c⟩ := x; exact ⟨z, y, vs, r, ob, es, ep, k _ _ (.inl rfl) e, c⟩
  | dT kvs =>
    obtain ⟨z, y, xs, r, ob, es, ep, e, c⟩ := x
    exact ⟨z, y, xs, Paired.mapP r fun p q z => ⟨z.1, ht _ _ z.2.1, z.2.2⟩, ob, es, ep, k _ _ (.inl rfl) e, c⟩
  | set S n => obtain ⟨ob, es, ep, t, e, c⟩ := x; exact ⟨ob, es, ep, t, k _ _ (.inl rfl) e, c⟩
  | ins C dx fs =>
    obtain ⟨d, z, ne, e, mA, ⟨od, es, ep, e2, c⟩, r⟩ := x
    exact ⟨ho _ d, z, ne, k _ _ (.inl rfl) e, mA, ⟨od, es, ep, k _ _ (.inr d) e2, c⟩, r⟩
  | own y => obtain ⟨ob, e⟩ := x; exact ⟨ob, k _ _ (.inl rfl) e⟩
  | xd fs => obtain ⟨mA, ⟨od, es, ep, e, c⟩, r⟩ := x; exact ⟨mA, ⟨od, es, ep, k _ _ (.inl rfl) e, c⟩, r⟩
  | rng lo hi => obtain ⟨t, u, v, e⟩ := x; exact ⟨t, u, v, k _ _ (.inl rfl) e⟩
  | frz ob u ih => obtain ⟨e, q⟩ := x; exact ⟨k _ _ (.inl rfl) e, ih q⟩
  | tbl ps =>
    have e : h.get? a = some { cls := .none, data := .fields ps } := x
    show h'.get? a = some { cls := .none, data := .fields ps }
    exact k a _ (.inl rfl) e
  | met f y =>
    have e : h.get? a = some (PySem.W.methodObj (.ref f) (.ref y)) := x
    show h'.get? a = some (PySem.W.methodObj (.ref f) (.ref y))
    exact k a _ (.inl rfl) e
  | ext φ => obtain ⟨p, ⟨o, e⟩, st⟩ := x; exact ⟨st _ _ p fun o q => k _ _ (.inl rfl) q, ⟨o, k _ _ (.inl rfl) e⟩, st⟩
theorem HOk.lt (x : HOk P w H h) (e : H a = some o) : a < h.objs.size := (x a o e).lt
theorem HOk.fresh (x : HOk P w H h) (e : h.objs.size ≤ a) : H a = none := by
  cases q : H a with
  | none => rfl
  | some u => exact absurd (Nat.lt_of_lt_of_le (x.lt q) e) (Nat.lt_irrefl _)
/-- every object of the heap is kept -/
theorem HOk.kept (x : HOk P w H h) (k : ∀ b u, h.get? b = some u → h'.get? b = some u) : HOk P w H h' := fun a o e =>
  (x a o e).stay (fun b u _ q => k b u q) (fun _ q => q) fun _ _ q => q
/-- a new object is laid and tracked -/
theorem HOk.laid (x : HOk P w H h) (k : ∀ b u, h.get? b = some u → h'.get? b = some u) (hp : h.objs.size ≤ a) (new : ObjOk P w (upd H a o) h' a o) : HOk P w (upd H a o) h' := fun b u e => by
  have hn := x.fresh hp
  by_cases hb : b = a
  · subst hb; rw [upd_same] at e; cases e; exact new
  · rw [upd_ne hb] at e
    exact (x b u e).stay (fun c v _ q => k c v q) (fun c q => by rw [upd_ne (ne_of_none q hn)]; exact q) fun c xs q => by rw [upd_ne (ne_of_none q hn)]; exact q
end

/-- what may be read as u: it is u, or a known u -/
def Rd (H : Hp) (a : Addr) (u : HO) : Prop := H a = some u ∨ ∃ o, H a = some (.frz o u)
theorem Rd.of {H : Hp} {a : Addr} {u : HO} (h : H a = some u) : Rd H a u := .inl h
theorem Rd.ok {P : Program} {w : World} {H : Hp} {h : Heap} {a : Addr} {u : HO} (r : Rd H a u) (x : HOk P w H h) : ObjOk P w H h a u := by
  rcases r with r | ⟨o, r⟩
  · exact x a u r
  · obtain ⟨_, q⟩ := x a _ r
    exact q
/-- what may be written -/
def Mut : Option HO → Prop
  | some (.lst _) => True
  | some (.dK _) => True
  | some (.dT _) => True
  | some (.set _ _) => True
  | some (.ins _ _ _) => True
  | some (.ext _) => True
  | _ => False
section
variable {P : Program} {w : World} {H : Hp} {h h' : Heap} {x e : Addr} {o' : HO}
/-- the object at e is changed: x itself, or the dict of the instance x -/
theorem HOk.write (ok : HOk P w H h) (mu : Mut (H x)) (he : e = x ∨ H e = some (.own x)) (k : ∀ b u, b ≠ e → h.get? b = some u → h'.get? b = some u) (heo : ∃ u, h'.get? e = some u)
    (new : ObjOk P w (upd H x o') h' x o') : HOk P w (upd H x o') h' := fun b u q => by
  have nown : ∀ c y, H c = some (.own y) → c ≠ x := fun c y r z => by subst z; rw [r] at mu; exact mu
  have ntup : ∀ c xs, H c = some (.tup xs) → c ≠ x := fun c xs r z => by subst z; rw [r] at mu; exact mu
  by_cases hb : b = x
  · subst hb; rw [upd_same] at q; cases q; exact new
  · rw [upd_ne hb] at q
    by_cases hbe : b = e
    · have q' : H b = some (.own x) := by
        rcases he with z | z
        · exact absurd (hbe.trans z) hb
        · rw [hbe]; exact z
      rw [q] at q'; cases q'
      obtain ⟨v, hv⟩ := heo
      exact ⟨v, by rw [hbe]; exact hv⟩
    · refine (ok b u q).stay (fun c v hc r => k c v ?_ r) (fun c r => by rw [upd_ne (nown c b r)]; exact r) fun c xs r => by rw [upd_ne (ntup c xs r)]; exact r
      rcases hc with rfl | hc
      · exact hbe
      · rintro rfl
        rcases he with z | z
        · exact nown c b hc z
        · rw [hc] at z; cases z; exact hb rfl
end

/-! ### kept unless tracked; of the frames at fs (the callers') the slots may change (an exception that passes writes there); of the records at ex (iterators) nothing is said -/
structure Un (fs ex : List Addr) (H H' : Hp) (h h' : Heap) : Prop where
  keep : ∀ b o, h.get? b = some o → H b = none → b ∉ fs → b ∉ ex → h'.get? b = some o
  slot : ∀ b o, h.get? b = some o → H b = none → b ∈ fs → b ∉ ex → ∃ sl, h'.get? b = some { o with slots := sl }
  free : ∀ b o, h.get? b = some o → H b = none → b ∉ ex → H' b = none
  there : ∀ b o, h.get? b = some o → b ∉ ex → ∃ o', h'.get? b = some o'
  tups : ∀ b xs, H b = some (.tup xs) → H' b = some (.tup xs)
  frzs : ∀ b o u, H b = some (.frz o u) → H' b = some (.frz o u)
  tbls : ∀ b ps, H b = some (.tbl ps) → ∃ more, H' b = some (.tbl (ps ++ more))
section
variable {fs fs' ex ex' : List Addr} {H H1 H2 : Hp} {h h1 h2 h' : Heap} {a x e : Addr} {o : HO}
theorem Un.any (u : Un fs ex H H1 h h1) {b : Addr} {ob : Obj} (q : h.get? b = some ob) (n : H b = none) (hx : b ∉ ex) : ∃ sl, h1.get? b = some { ob with slots := sl } := by
  by_cases hb : b ∈ fs
  · exact u.slot b ob q n hb hx
  · exact ⟨ob.slots, u.keep b ob q n hb hx⟩
theorem Un.trans (a : Un fs ex H H1 h h1) (b : Un fs ex H1 H2 h1 h2) : Un fs ex H H2 h h2 where
  keep := fun c ob q n hc hx => b.keep c ob (a.keep c ob q n hc hx) (a.free c ob q n hx) hc hx
  slot := fun c ob q n hc hx => by
    obtain ⟨sl, e1⟩ := a.slot c ob q n hc hx
    obtain ⟨sl', e2⟩ := b.slot c _ e1 (a.free c ob q n hx) hc hx
    exact ⟨sl', e2⟩
  free := fun c ob q n hx => by
    obtain ⟨o', e1⟩ := a.there c ob q hx
    exact b.free c o' e1 (a.free c ob q n hx) hx
  there := fun c ob q hx => by
    obtain ⟨o', e1⟩ := a.there c ob q hx
    exact b.there c o' e1 hx
  tups := fun c xs q => b.tups c xs (a.tups c xs q)
  frzs := fun c ob xs q => b.frzs c ob xs (a.frzs c ob xs q)
  tbls := fun c ps q => by
    obtain ⟨m1, e1⟩ := a.tbls c ps q
    obtain ⟨m2, e2⟩ := b.tbls c _ e1
    exact ⟨m1 ++ m2, by rw [e2, Array.append_assoc]⟩
theorem Un.kept (k : ∀ b u, h.get? b = some u → h'.get? b = some u) : Un fs ex H H h h' :=
  ⟨fun b ob q _ _ _ => k b ob q, fun b ob q _ _ _ => ⟨ob.slots, k b ob q⟩, fun _ _ _ n _ => n, fun b ob q _ => ⟨ob, k b ob q⟩, fun _ _ q => q, fun _ _ _ q => q, fun _ ps q => ⟨#[], by rw [q]; simp⟩⟩
theorem Un.refl : Un fs ex H H h h := Un.kept fun _ _ q => q
theorem Un.laid (k : ∀ b u, h.get? b = some u → h'.get? b = some u) (hp : h.objs.size ≤ a) (hn : H a = none) : Un fs ex H (upd H a o) h h' where
  keep := fun b u q _ _ _ => k b u q
  slot := fun b u q _ _ _ => ⟨u.slots, k b u q⟩
  free := fun b u q n _ => by rw [upd_ne (Nat.ne_of_lt (Nat.lt_of_lt_of_le (Heap.lt_size q) hp))]; exact n
  there := fun b u q _ => ⟨u, k b u q⟩
  tups := fun b xs q => by rw [upd_ne (ne_of_none q hn)]; exact q
  frzs := fun b u xs q => by rw [upd_ne (ne_of_none q hn)]; exact q
  tbls := fun b ps q => ⟨#[], by rw [upd_ne (ne_of_none q hn), q]; simp⟩
theorem Un.write (mu : Mut (H x)) (he : e = x ∨ H e = some (.own x)) (k : ∀ b u, b ≠ e → h.get? b = some u → h'.get? b = some u) (heo : ∃ u, h'.get? e = some u) : Un fs ex H (upd H x o) h h' := by
  have hx : ∀ b, H b = none → b ≠ x := fun b n z => by subst z; rw [n] at mu; exact mu
  have hb : ∀ b, H b = none → b ≠ e := fun b n z => by
    subst z
    rcases he with r | r
    · exact hx b n r
    · rw [n] at r; cases r
  have hm : ∀ b u, H b = some u → ¬ Mut (some u) → b ≠ x := fun b u q nm z => by subst z; rw [q] at mu; exact nm mu
  refine ⟨fun b u q n _ _ => k b u (hb b n) q, fun b u q n _ _ => ⟨u.slots, k b u (hb b n) q⟩, fun b u q n _ => by rw [upd_ne (hx b n)]; exact n, fun b u q _ => ?_,
    fun b xs q => by rw [upd_ne (hm b _ q fun z => z)]; exact q, fun b u xs q => by rw [upd_ne (hm b _ q fun z => z)]; exact q, fun b ps q => ⟨#[], by rw [upd_ne (hm b _ q fun z => z), q]; simp⟩⟩
  by_cases hbe : b = e
  · subst hbe; exact heo
  · exact ⟨u, k b u hbe q⟩
theorem Un.mono (u : Un fs ex H H1 h h1) (hs : ∀ b ∈ fs, b ∈ fs') (hx : ∀ b ∈ ex, b ∈ ex') : Un fs' ex' H H1 h h1 :=
  ⟨fun b ob q n hb he => u.keep b ob q n (fun z => hb (hs b z)) fun z => he (hx b z), fun _ _ q n _ he => u.any q n fun z => he (hx _ z), fun b ob q n he => u.free b ob q n fun z => he (hx b z), fun b ob q he => u.there b ob q fun z => he (hx b z), u.tups, u.frzs, u.tbls⟩
end

/-! ### the heap without what is tracked -/
def trk (h : Heap) (H : Hp) : List Addr := (List.range h.objs.size).filter fun a => (H a).isSome
def hidT (h : Heap) (H : Hp) : Heap := PySem.W.hideAll h (trk h H)
theorem hidT_size (h : Heap) (H : Hp) : (hidT h H).objs.size = h.objs.size := PySem.W.hideAll_size _ _
theorem hidT_get {h : Heap} {H : Hp} {b : Addr} {o : Obj} (e : h.get? b = some o) (n : H b = none) : (hidT h H).get? b = some o :=
  PySem.W.hideAll_get _ e fun hm => by
    have q : (H b).isSome = true := (List.mem_filter.mp hm).2
    rw [n] at q; simp at q
theorem of_hidT {h : Heap} {H : Hp} {b : Addr} {o : Obj} (e : (hidT h H).get? b = some o) : h.get? b = some o ∧ H b = none := by
  have e' : h.get? b = some o := PySem.W.of_hideAll (trk h H) e
  refine ⟨e', ?_⟩
  cases q : H b with
  | none => rfl
  | some x =>
    have hm : b ∈ trk h H := List.mem_filter.mpr ⟨List.mem_range.mpr (Heap.lt_size e'), by simp [q]⟩
    have z : (hidT h H).get? b = none := PySem.W.hideAll_none (trk h H) hm
    rw [z] at e; cases e

/-! ### OpenK's ledger, filled with every new object but one -/
def allNews (g h : Heap) (L : Addr) : List (Addr × Obj) := (List.range h.objs.size).filterMap fun a => if a = L ∨ (g.get? a).isSome = true then none else (h.get? a).map fun o => (a, o)
def rest (g h : Heap) (L d : Addr) : List (Addr × Obj) := (allNews g h L).filter fun p => decide (p.1 ≠ d)
end L2

namespace L2
open PySem PySem.Spec PyProof.Rows

/-- the module's facts, over the base: the heap at the law's entry without what is tracked there -/
structure Mod (K : PySem.W.Frag) (mg : Str → Option Value) (base : Heap) : Prop where
  kin : K.In base
  glob : base.Ns mainGlobals mg
  blt : ∃ mb, base.Ns builtinsNs mb ∧ ∀ x : Str, x ≠ "__name__" → mb x = bootBuiltins x
  nolimit : base.NoLimit

/-- the context: a def's body (or a comprehension's block) running. base: fixed through the whole law; s₀, H₀: the entry; outer: the frames whose slots others may change (a def's callers); stack: all frames that run;
   ex: iterators that were made ahead of the entry and are walked here (a comprehension's); fn: the names whose cells were made at the entry (a def: all; a comprehension's block: its own); calm: not within an except suite; pn: pins that every state bears; xe: what is wanted of an exception that leaves the code -/
structure Cx where
  prog : Program
  w : World
  K : PySem.W.Frag
  mg : Str → Option Value
  base : Heap
  A : Around
  N : List Str
  s₀ : Shared
  H₀ : Hp
  env : Env
  outer : List Env
  stack : List Env
  ex : List Addr
  fn : Str → Bool
  calm : Bool
  pn : List (Addr × Obj)
  xe : Value → Shared → Prop
/-- the callers' frames -/
def frs (l : List Env) : List Addr := l.filterMap (·.frame)
abbrev Cx.fs (X : Cx) : List Addr := frs X.outer

def Vis (sc : Scope) (x : Str) : Prop := sc.names.lookup x = some .local ∨ sc.names.lookup x = some .cell ∨ sc.names.lookup x = some .free
def Loc (sc : Scope) (x : Str) : Prop := sc.names.lookup x = some .local ∨ sc.names.lookup x = some .cell
def Look (env : Env) (h : Heap) (m : Str → Option Value) (x : Str) (u : Value) : Prop :=
  (env.kindOf x = some .local ∧ m x = some u) ∨ ((env.kindOf x = some .cell ∨ env.kindOf x = some .free) ∧ ∃ c, env.cells.lookup x = some c ∧ h.IsCell c (some u))

structure Cx.Ok (X : Cx) : Prop where
  mod : Mod X.K X.mg X.base
  kind : X.env.scope.kind = .function
  glob : X.env.globals = mainGlobals
  blt : X.env.builtins = builtinsNs
  above : X.s₀.heap.objs.size ≤ X.env.locals
  inj : ∀ x y c, X.env.cells.lookup x = some c → X.env.cells.lookup y = some c → x = y
  has : ∀ x, (X.env.kindOf x = some .cell ∨ X.env.kindOf x = some .free) → ∃ c, X.env.cells.lookup x = some c
  cab : ∀ x c, X.fn x = true → X.env.cells.lookup x = some c → X.s₀.heap.objs.size ≤ c
  hd : X.calm = true → X.A.handled = none
  frames : X.A.frames = some X.stack
  stk : X.stack = X.outer ∨ (X.stack = X.env :: X.outer ∧ X.env.frame = some X.env.locals)
  exf : ∀ b ∈ X.ex, b ≠ X.env.locals ∧ ∀ x c, X.env.cells.lookup x = some c → c ≠ b
  bs : ∀ b o, X.base.get? b = some o → X.s₀.heap.get? b = some o ∧ X.H₀ b = none
  bsz : X.base.objs.size ≤ X.s₀.heap.objs.size
  noex : ∀ b o, X.base.get? b = some o → b ∉ X.ex
  exfs : ∀ b ∈ X.ex, b ∉ X.fs
  funs : X.s₀.heap.FunFrames X.base X.outer
  frf : ∀ b ∈ X.fs, X.H₀ b = none

structure Inv (X : Cx) (pins : List (Addr × Obj)) (σ : List (Option V)) (H : Hp) (s : Shared) : Prop where
  ok : X.Ok
  os : s.os = X.s₀.os
  bare : AllBare s.gens
  base : Un X.fs X.ex X.H₀ H X.s₀.heap s.heap
  loc : ∃ m, s.heap.Ns X.env.locals m ∧ ∀ (i : Nat) (x : Str) (v : V), X.N[i]? = some x → σ[i]? = some (some v) → Vis X.env.scope x → ∃ u, RelV v u ∧ Look X.env s.heap m x u
  cell : ∀ x c, X.env.cells.lookup x = some c → ∃ v, s.heap.IsCell c v
  free : H X.env.locals = none
  freeC : ∀ x c, X.env.cells.lookup x = some c → H c = none
  pin : ∀ p ∈ X.pn ++ pins, s.heap.get? p.1 = some p.2 ∧ H p.1 = none ∧ p.1 ≠ X.env.locals ∧ p.1 ∉ X.fs ∧ ∀ v, p.2.data ≠ .cell v
  hok : HOk X.prog X.w H s.heap
  len : σ.length = X.N.length

section
variable {X : Cx} {pins : List (Addr × Obj)} {σ : List (Option V)} {H H' : Hp} {s : Shared} {h' : Heap}

theorem Cx.Ok.nofr (ok : X.Ok) {b : Addr} {o : Obj} (e : X.base.get? b = some o) : b ∉ X.fs := fun hb => by
  have := (ok.funs.mem hb).1
  rw [e] at this; cases this
theorem Inv.bs (I : Inv X pins σ H s) : ∀ b o, X.base.get? b = some o → s.heap.get? b = some o ∧ H b = none := fun b o e =>
  ⟨I.base.keep b o (I.ok.bs b o e).1 (I.ok.bs b o e).2 (I.ok.nofr e) (I.ok.noex b o e), I.base.free b o (I.ok.bs b o e).1 (I.ok.bs b o e).2 (I.ok.noex b o e)⟩
theorem Inv.bk (I : Inv X pins σ H s) : ∀ b o, X.base.get? b = some o → s.heap.get? b = some o := fun b o e => (I.bs b o e).1
theorem Inv.mod (I : Inv X pins σ H s) : Mod X.K X.mg X.base := I.ok.mod
theorem Inv.kIn (I : Inv X pins σ H s) : X.K.In s.heap := I.ok.mod.kin.keeps I.bk
theorem Inv.nolimit (I : Inv X pins σ H s) : s.heap.NoLimit := I.ok.mod.nolimit.keeps I.bk
/-- the frame over the base: for OpenK's rules (K.In X.base is I.mod.kin) -/
theorem Inv.fr (I : Inv X pins σ H s) : ∃ m, Fr X.base X.env.locals s.heap m :=
  let ⟨m, hn, _⟩ := I.loc
  ⟨m, hn, I.bk, Nat.le_trans I.ok.bsz I.ok.above⟩
theorem Inv.lt (I : Inv X pins σ H s) : X.env.locals < s.heap.objs.size := let ⟨_, hn, _⟩ := I.loc; hn.lt
theorem Inv.sz (I : Inv X pins σ H s) : X.s₀.heap.objs.size ≤ s.heap.objs.size := Nat.le_trans I.ok.above (Nat.le_of_lt I.lt)
theorem Inv.nofs (I : Inv X pins σ H s) {a : Addr} (h : s.heap.objs.size ≤ a) : a ∉ X.fs := fun hb => by
  obtain ⟨_, o, ho, _⟩ := I.ok.funs.mem hb
  exact absurd (Nat.lt_of_lt_of_le (Heap.lt_size ho) (Nat.le_trans I.sz h)) (Nat.lt_irrefl _)
theorem Inv.cne (I : Inv X pins σ H s) : ∀ x c, X.env.cells.lookup x = some c → c ≠ X.env.locals := fun x c e z => by
  obtain ⟨v, o, ho, hd⟩ := I.cell x c e
  obtain ⟨m, ⟨o', es, ep, ho', hd', _⟩, _⟩ := I.loc
  rw [z, ho'] at ho; cases ho; rw [hd'] at hd; cases hd
theorem Inv.funs (I : Inv X pins σ H s) : s.heap.FunFrames X.base X.outer := by
  have all : ∀ (l : List Env), (∀ b ∈ frs l, b ∈ X.fs) → X.s₀.heap.FunFrames X.base l → s.heap.FunFrames X.base l := by
    intro l
    induction l with
    | nil => intro _ _; trivial
    | cons env r ih =>
      intro hs hl
      obtain ⟨hk, ⟨L, o, hf, hn, ho, hd⟩, hr⟩ := hl
      have hL : L ∈ X.fs := hs L (by unfold frs; rw [List.filterMap_cons, hf]; exact List.mem_cons_self)
      obtain ⟨sl, e⟩ := I.base.slot L o ho (I.ok.frf L hL) hL fun z => I.ok.exfs L z hL
      exact ⟨hk, ⟨L, _, hf, hn, e, hd⟩, ih (fun b hb => hs b (by unfold frs; rw [List.filterMap_cons, hf]; exact List.mem_cons_of_mem _ hb)) hr⟩
  exact all X.outer (fun _ hb => hb) I.ok.funs

/-- the frames that run, for a call -/
theorem Inv.stack (I : Inv X pins σ H s) : s.heap.FunFrames X.base X.stack := by
  rcases I.ok.stk with e | ⟨e, hf⟩
  · rw [e]; exact I.funs
  · rw [e]
    obtain ⟨m, hn, _⟩ := I.loc
    refine .cons (by rw [I.ok.kind]; decide) hf hn ?_ I.funs
    exact Heap.get?_none_of_le (Nat.le_trans I.ok.bsz I.ok.above)
theorem Inv.stkSub (I : Inv X pins σ H s) : ∀ b ∈ frs X.stack, b ∈ X.env.locals :: X.fs := fun b hb => by
  rcases I.ok.stk with e | ⟨e, hf⟩
  · rw [e] at hb; exact List.mem_cons_of_mem _ hb
  · rw [e] at hb
    unfold frs at hb
    rw [List.filterMap_cons, hf] at hb
    exact hb
theorem Inv.stkFree (I : Inv X pins σ H s) : ∀ b ∈ frs X.stack, H b = none := fun b hb => by
  rcases List.mem_cons.mp (I.stkSub b hb) with e | hb
  · rw [e]; exact I.free
  · obtain ⟨_, o, ho, _⟩ := I.ok.funs.mem hb
    exact I.base.free b o ho (I.ok.frf b hb) fun z => I.ok.exfs b z hb

/-- THE STEP: the untracked objects but the frame and the records at ch are kept (the callers' frames up to slots), the frame's map is kept, the new abstract heap is held -/
theorem Inv.step {g' : Array GenState} {t' : Nat} {d' : Drawn} {ch : List Addr} (I : Inv X pins σ H s)
    (hch : ∀ b ∈ ch, (b ∈ X.ex ∨ X.s₀.heap.objs.size ≤ b) ∧ b ≠ X.env.locals ∧ (∀ x c, X.env.cells.lookup x = some c → c ≠ b) ∧ ∀ p ∈ X.pn ++ pins, p.1 ≠ b)
    (keep : ∀ b o, b ≠ X.env.locals → b ∉ X.fs → b ∉ ch → s.heap.get? b = some o → H b = none → h'.get? b = some o)
    (slot : ∀ b o, b ≠ X.env.locals → b ∈ X.fs → b ∉ ch → s.heap.get? b = some o → H b = none → ∃ sl, h'.get? b = some { o with slots := sl }) (free : ∀ b o, b ∉ ch → s.heap.get? b = some o → H b = none → H' b = none)
    (there : ∀ b o, b ∉ ch → s.heap.get? b = some o → ∃ o', h'.get? b = some o')
    (tups : ∀ b xs, H b = some (.tup xs) → H' b = some (.tup xs)) (frzs : ∀ b o u, H b = some (.frz o u) → H' b = some (.frz o u)) (tbls : ∀ b ps, H b = some (.tbl ps) → ∃ more, H' b = some (.tbl (ps ++ more)))
    (ns : ∀ m, s.heap.Ns X.env.locals m → h'.Ns X.env.locals m) (hok : HOk X.prog X.w H' h') (hg : AllBare g') :
    Inv X pins σ H' { s with heap := h', gens := g', drawn := d', toks := t' } := by
  have neL : ∀ b o, X.s₀.heap.get? b = some o → b ≠ X.env.locals := fun b o e => Nat.ne_of_lt (Nat.lt_of_lt_of_le (Heap.lt_size e) I.ok.above)
  have neC : ∀ b o, X.s₀.heap.get? b = some o → b ∉ X.ex → b ∉ ch := fun b o e hx hb => by
    rcases (hch b hb).1 with z | z
    · exact hx z
    · exact absurd (Nat.lt_of_lt_of_le (Heap.lt_size e) z) (Nat.lt_irrefl _)
  have cellK : ∀ x c, X.env.cells.lookup x = some c → ∀ v, s.heap.IsCell c v → h'.IsCell c v := fun x c e v ⟨o, ho, hd⟩ => by
    have nch : c ∉ ch := fun z => (hch c z).2.2.1 x c e rfl
    by_cases hc : c ∈ X.fs
    · obtain ⟨sl, q⟩ := slot c o (I.cne x c e) hc nch ho (I.freeC x c e)
      exact ⟨_, q, hd⟩
    · exact ⟨o, keep c o (I.cne x c e) hc nch ho (I.freeC x c e), hd⟩
  refine ⟨I.ok, I.os, hg, ⟨fun b o e n hb hx => ?_, fun b o e n hb hx => ?_, fun b o e n hx => ?_, fun b o e hx => ?_, fun b xs e => tups b xs (I.base.tups b xs e), fun b o xs e => frzs b o xs (I.base.frzs b o xs e), fun b ps e => ?_⟩, ?_, fun x c e => ?_, ?_, fun x c e => ?_, fun p hp => ?_, hok, I.len⟩
  · exact keep b o (neL b o e) hb (neC b o e hx) (I.base.keep b o e n hb hx) (I.base.free b o e n hx)
  · obtain ⟨sl, e1⟩ := I.base.slot b o e n hb hx
    obtain ⟨sl', e2⟩ := slot b _ (neL b o e) hb (neC b o e hx) e1 (I.base.free b o e n hx)
    exact ⟨sl', e2⟩
  · obtain ⟨o', e1⟩ := I.base.there b o e hx
    exact free b o' (neC b o e hx) e1 (I.base.free b o e n hx)
  · obtain ⟨o', e1⟩ := I.base.there b o e hx
    exact there b o' (neC b o e hx) e1
  · obtain ⟨m1, e1⟩ := I.base.tbls b ps e
    obtain ⟨m2, e2⟩ := tbls b _ e1
    exact ⟨m1 ++ m2, by rw [e2, Array.append_assoc]⟩
  · obtain ⟨m, hn, hl⟩ := I.loc
    refine ⟨m, ns m hn, fun i x v e1 e2 e3 => ?_⟩
    obtain ⟨u, r, l⟩ := hl i x v e1 e2 e3
    refine ⟨u, r, ?_⟩
    rcases l with l | ⟨k, c, e, z⟩
    · exact .inl l
    · exact .inr ⟨k, c, e, cellK x c e _ z⟩
  · obtain ⟨v, z⟩ := I.cell x c e
    exact ⟨v, cellK x c e v z⟩
  · obtain ⟨m, ⟨o, _, _, ho, _⟩, _⟩ := I.loc
    exact free _ o (fun z => (hch _ z).2.1 rfl) ho I.free
  · obtain ⟨v, o, ho, hd⟩ := I.cell x c e
    exact free c o (fun z => (hch c z).2.2.1 x c e rfl) ho (I.freeC x c e)
  · obtain ⟨e, n, ne, nf, d⟩ := I.pin p hp
    have nch : p.1 ∉ ch := fun z => (hch p.1 z).2.2.2 p hp rfl
    exact ⟨keep p.1 p.2 ne nf nch e n, free p.1 p.2 nch e n, ne, nf, d⟩
/-- .. where the frame's own object is kept too -/
theorem Inv.un {t' : Nat} (I : Inv X pins σ H s) (u : Un X.fs [] H H' s.heap h') (hok : HOk X.prog X.w H' h') : Inv X pins σ H' { s with heap := h', toks := t' } := by
  obtain ⟨m, ⟨o, es, ep, ho, r⟩, _⟩ := id I.loc
  obtain ⟨sl, hL⟩ := u.any ho I.free (by simp)
  exact I.step (g' := s.gens) (d' := s.drawn) (ch := []) (fun _ z => nomatch z) (fun b o _ hb _ e n => u.keep b o e n hb (by simp)) (fun b o _ hb _ e n => u.slot b o e n hb (by simp)) (fun b o _ e n => u.free b o e n (by simp)) (fun b o _ e => u.there b o e (by simp)) u.tups u.frzs u.tbls (fun m' hm => by
    obtain ⟨o', es', ep', ho', r'⟩ := hm
    rw [ho] at ho'; cases ho'
    exact ⟨_, es', ep', hL, r'⟩) hok I.bare
/-- behind a call (or a comprehension's block): the slots of this frame may have changed too, the records at ch may have turned -/
theorem Inv.call {g' : Array GenState} {t' : Nat} {d' : Drawn} {ch : List Addr} (I : Inv X pins σ H s) (u : Un (frs X.stack) ch H H' s.heap h') (hok : HOk X.prog X.w H' h') (hg : AllBare g')
    (hch : ∀ b ∈ ch, (b ∈ X.ex ∨ X.s₀.heap.objs.size ≤ b) ∧ b ≠ X.env.locals ∧ (∀ x c, X.env.cells.lookup x = some c → c ≠ b) ∧ ∀ p ∈ X.pn ++ pins, p.1 ≠ b) :
    Inv X pins σ H' { s with heap := h', gens := g', drawn := d', toks := t' } := by
  obtain ⟨m, ⟨o, es, ep, ho, r⟩, _⟩ := id I.loc
  obtain ⟨sl, hL⟩ := u.any ho I.free fun z => (hch _ z).2.1 rfl
  exact I.step (ch := ch) hch (fun b o hL hb hc e n => u.keep b o e n (fun z => (List.mem_cons.mp (I.stkSub b z)).elim hL hb) hc) (fun b o _ _ hc e n => u.any e n hc) (fun b o hc e n => u.free b o e n hc) (fun b o hc e => u.there b o e hc) u.tups u.frzs u.tbls (fun m' hm => by
    obtain ⟨o', es', ep', ho', r'⟩ := hm
    rw [ho] at ho'; cases ho'
    exact ⟨_, es', ep', hL, r'⟩) hok hg
/-- an untracked record of ours (an iterator) has turned -/
theorem Inv.turned {t' : Nat} {it : Addr} (I : Inv X pins σ H s) (k : ∀ b o, b ≠ it → s.heap.get? b = some o → h'.get? b = some o) (hn : H it = none) (hL : it ≠ X.env.locals)
    (h1 : it ∈ X.ex ∨ X.s₀.heap.objs.size ≤ it) (h2 : ∀ x c, X.env.cells.lookup x = some c → c ≠ it) (h3 : ∀ p ∈ X.pn ++ pins, p.1 ≠ it) : Inv X pins σ H { s with heap := h', toks := t' } := by
  have nit : ∀ b u, H b = some u → b ≠ it := fun b u e z => by rw [z, hn] at e; cases e
  refine I.step (g' := s.gens) (d' := s.drawn) (ch := [it]) (fun b hb => ?_) (fun b o _ _ hc e _ => k b o (fun z => hc (by simp [z])) e) (fun b o _ _ hc e _ => ⟨o.slots, k b o (fun z => hc (by simp [z])) e⟩) (fun _ _ _ _ n => n)
    (fun b o hc e => ⟨o, k b o (fun z => hc (by simp [z])) e⟩) (fun _ _ e => e) (fun _ _ _ e => e) (fun b ps e => ⟨#[], by rw [e]; simp⟩) (fun m hm => ?_) (fun b u e => ?_) I.bare
  · have e : b = it := by simpa using hb
    subst e
    exact ⟨h1, hL, h2, h3⟩
  · obtain ⟨o, es, ep, ho, r⟩ := hm
    exact ⟨o, es, ep, k _ o (Ne.symm hL) ho, r⟩
  · refine (I.hok b u e).stay (fun c v hc q => k c v ?_ q) (fun _ q => q) fun _ _ q => q
    rcases hc with z | z
    · rw [z]; exact nit b u e
    · exact nit c _ z
theorem Inv.tok (I : Inv X pins σ H s) (t : Nat) : Inv X pins σ H { s with toks := t } := I.un (h' := s.heap) (t' := t) Un.refl I.hok
/-- all objects kept -/
theorem Inv.kept {t' : Nat} (I : Inv X pins σ H s) (k : ∀ b u, s.heap.get? b = some u → h'.get? b = some u) : Inv X pins σ H { s with heap := h', toks := t' } := I.un (Un.kept k) (I.hok.kept k)
/-- a new object laid and tracked -/
theorem Inv.laid {a : Addr} {o : HO} {t' : Nat} (I : Inv X pins σ H s) (k : ∀ b u, s.heap.get? b = some u → h'.get? b = some u) (hp : s.heap.objs.size ≤ a) (new : ObjOk X.prog X.w (upd H a o) h' a o) :
    Inv X pins σ (upd H a o) { s with heap := h', toks := t' } := I.un (Un.laid k hp (I.hok.fresh hp)) (I.hok.laid k hp new)
/-- an object written -/
theorem Inv.write {x e : Addr} {o : HO} {t' : Nat} (I : Inv X pins σ H s) (mu : Mut (H x)) (he : e = x ∨ H e = some (.own x)) (k : ∀ b u, b ≠ e → s.heap.get? b = some u → h'.get? b = some u) (heo : ∃ u, h'.get? e = some u)
    (new : ObjOk X.prog X.w (upd H x o) h' x o) : Inv X pins σ (upd H x o) { s with heap := h', toks := t' } := I.un (Un.write mu he k heo) (I.hok.write mu he k heo new)
/-- forgetting slots, pins -/
theorem Inv.weak {σ' : List (Option V)} (I : Inv X pins σ H s) (hl : σ'.length = σ.length) (w : ∀ (i : Nat) v, σ'[i]? = some (some v) → σ[i]? = some (some v)) : Inv X pins σ' H s :=
  ⟨I.ok, I.os, I.bare, I.base, let ⟨m, hn, hl'⟩ := I.loc; ⟨m, hn, fun i x v e1 e2 e3 => hl' i x v e1 (w i v e2) e3⟩, I.cell, I.free, I.freeC, I.pin, I.hok, hl.trans I.len⟩
theorem Inv.pins_of {pins' : List (Addr × Obj)} (I : Inv X pins σ H s) (h : ∀ p ∈ pins', s.heap.get? p.1 = some p.2 ∧ H p.1 = none ∧ p.1 ≠ X.env.locals ∧ p.1 ∉ X.fs ∧ ∀ v, p.2.data ≠ .cell v) : Inv X pins' σ H s :=
  ⟨I.ok, I.os, I.bare, I.base, I.loc, I.cell, I.free, I.freeC, fun p hp => (List.mem_append.mp hp).elim (fun z => I.pin p (List.mem_append_left _ z)) (h p), I.hok, I.len⟩

theorem nodup_ix {N : List Str} (hN : N.Nodup) {i j : Nat} {x : Str} (a : N[i]? = some x) (b : N[j]? = some x) : i = j := by
  obtain ⟨h1, e1⟩ := List.getElem?_eq_some_iff.mp a
  obtain ⟨h2, e2⟩ := List.getElem?_eq_some_iff.mp b
  exact (List.getElem_inj hN).mp (e1.trans e2.symm)

/-- a name is stored; what changed -/
theorem store_ok2 {M : Model} {A : Around} {E : Value → Shared → Prop} {i : Nat} {x : Str} {v : V} {u : Value} {Q : Unit → Shared → Prop} (I : Inv X pins σ H s) (hN : X.N.Nodup) (hi : X.N[i]? = some x) (hx : Loc X.env.scope x) (r : RelV v u)
    (h : ∀ s', Inv X pins (σ.set i (some v)) H s' → (∃ a, Heap.SameBut a s.heap s'.heap ∧ (a = X.env.locals ∨ X.env.cells.lookup x = some a)) → Q () s') (hf : X.fn x = true ∨ X.env.scope.names.lookup x = some .local := by first | exact .inl rfl | exact .inr rfl | assumption) : wpAny M A (storeName X.env x u) Q E s := by
  obtain ⟨m, hn, hl⟩ := id I.loc
  have hcls : (X.env.scope.kind == .class || (X.env.scope.kind == .module && X.env.locals != X.env.globals)) = false := by rw [I.ok.kind]; rfl
  have hiσ : i < σ.length := by rw [I.len]; exact (List.getElem?_eq_some_iff.mp hi).1
  have cne := I.cne
  have tracked : ∀ {a : Addr} {h' : Heap}, (∃ o, s.heap.get? a = some o ∧ H a = none) → Heap.SameBut a s.heap h' → HOk X.prog X.w H h' := fun {a h'} ha hs b ob e => by
    obtain ⟨_, _, hfree⟩ := ha
    refine (I.hok b ob e).stay (fun c w' hc q => (hs.2 c ?_).trans q) (fun _ q => q) fun _ _ q => q
    rintro rfl
    rcases hc with rfl | hc
    · rw [hfree] at e; cases e
    · rw [hfree] at hc; cases hc
  rcases hx with hk | hk
  · refine wpAny_storeName_local hk hn (fun h' hn' hs => ?_) hcls
    obtain ⟨oL, _, _, hoL, _⟩ := id hn
    refine h _ ⟨I.ok, I.os, I.bare, ⟨fun b o e n hb hx => ?_, fun b o e n hb hx => ?_, I.base.free, fun b o e hx => ?_, I.base.tups, I.base.frzs, I.base.tbls⟩, ⟨_, hn', fun j y v' e1 e2 e3 => ?_⟩, fun y c e => ?_, I.free, I.freeC, fun p hp => ?_, tracked ⟨oL, hoL, I.free⟩ hs, by simpa using I.len⟩ ⟨_, hs, .inl rfl⟩
    · exact (hs.2 b (Nat.ne_of_lt (Nat.lt_of_lt_of_le (Heap.lt_size e) I.ok.above))).trans (I.base.keep b o e n hb hx)
    · obtain ⟨sl, e1⟩ := I.base.slot b o e n hb hx
      exact ⟨sl, (hs.2 b (Nat.ne_of_lt (Nat.lt_of_lt_of_le (Heap.lt_size e) I.ok.above))).trans e1⟩
    · obtain ⟨o', e1⟩ := I.base.there b o e hx
      exact ⟨o', (hs.2 b (Nat.ne_of_lt (Nat.lt_of_lt_of_le (Heap.lt_size e) I.ok.above))).trans e1⟩
    · by_cases hj : j = i
      · subst hj
        rw [hi] at e1; cases e1
        rw [List.getElem?_set_self hiσ] at e2
        cases e2
        exact ⟨u, r, .inl ⟨hk, by simp⟩⟩
      · rw [List.getElem?_set_ne (Ne.symm hj)] at e2
        obtain ⟨u', r', q⟩ := hl j y v' e1 e2 e3
        refine ⟨u', r', ?_⟩
        rcases q with ⟨k, e⟩ | ⟨k, c, e, z⟩
        · refine .inl ⟨k, ?_⟩
          have : y ≠ x := fun e => hj (nodup_ix hN e1 (e ▸ hi))
          simp [this, e]
        · exact .inr ⟨k, c, e, z.sameBut hs (cne y c e)⟩
    · obtain ⟨w', z⟩ := I.cell y c e
      exact ⟨w', z.sameBut hs (cne y c e)⟩
    · obtain ⟨e, n, ne, nf, d⟩ := I.pin p hp
      exact ⟨(hs.2 p.1 ne).trans e, n, ne, nf, d⟩
  · have hfn : X.fn x = true := by
      rcases hf with z | z
      · exact z
      · rw [z] at hk; cases hk
    obtain ⟨c, hc⟩ := I.ok.has x (.inl hk)
    obtain ⟨w', z⟩ := I.cell x c hc
    refine wpAny_storeName_cell I.ok.kind hk hc z (fun h' hc' hs => ?_)
    obtain ⟨oc, hoc, hocd⟩ := id z
    refine h { s with heap := h' } ⟨I.ok, I.os, I.bare, ⟨fun b o e n hb hx => ?_, fun b o e n hb hx => ?_, I.base.free, fun b o e hx => ?_, I.base.tups, I.base.frzs, I.base.tbls⟩, ⟨m, hn.sameBut hs (Ne.symm (cne x c hc)), fun j y v' e1 e2 e3 => ?_⟩, fun y c' e => ?_, I.free, I.freeC, fun p hp => ?_, tracked ⟨oc, hoc, I.freeC x c hc⟩ hs, by simpa using I.len⟩ ⟨c, hs, .inr hc⟩
    · exact (hs.2 b (Nat.ne_of_lt (Nat.lt_of_lt_of_le (Heap.lt_size e) (I.ok.cab x c hfn hc)))).trans (I.base.keep b o e n hb hx)
    · obtain ⟨sl, e1⟩ := I.base.slot b o e n hb hx
      exact ⟨sl, (hs.2 b (Nat.ne_of_lt (Nat.lt_of_lt_of_le (Heap.lt_size e) (I.ok.cab x c hfn hc)))).trans e1⟩
    · obtain ⟨o', e1⟩ := I.base.there b o e hx
      exact ⟨o', (hs.2 b (Nat.ne_of_lt (Nat.lt_of_lt_of_le (Heap.lt_size e) (I.ok.cab x c hfn hc)))).trans e1⟩
    · by_cases hj : j = i
      · subst hj
        rw [hi] at e1; cases e1
        rw [List.getElem?_set_self hiσ] at e2
        cases e2
        exact ⟨u, r, .inr ⟨.inl hk, c, hc, hc'⟩⟩
      · rw [List.getElem?_set_ne (Ne.symm hj)] at e2
        obtain ⟨u', r', q⟩ := hl j y v' e1 e2 e3
        refine ⟨u', r', ?_⟩
        rcases q with q | ⟨k, c', e, z'⟩
        · exact .inl q
        · refine .inr ⟨k, c', e, z'.sameBut hs ?_⟩
          rintro rfl
          exact hj (nodup_ix hN e1 (I.ok.inj _ _ _ e hc ▸ hi))
    · by_cases hcc : c' = c
      · subst hcc; exact ⟨_, hc'⟩
      · obtain ⟨w2, z2⟩ := I.cell y c' e
        exact ⟨w2, z2.sameBut hs hcc⟩
    · obtain ⟨e, n, ne, nf, d⟩ := I.pin p hp
      refine ⟨(hs.2 p.1 ?_).trans e, n, ne, nf, d⟩
      intro q
      rw [q, hoc] at e
      have q' : oc = p.2 := Option.some.inj e
      exact d w' (by rw [← q']; exact hocd)
theorem store_ok {M : Model} {A : Around} {E : Value → Shared → Prop} {i : Nat} {x : Str} {v : V} {u : Value} {Q : Unit → Shared → Prop} (I : Inv X pins σ H s) (hN : X.N.Nodup) (hi : X.N[i]? = some x) (hx : Loc X.env.scope x) (r : RelV v u)
    (h : ∀ s', Inv X pins (σ.set i (some v)) H s' → Q () s') (hf : X.fn x = true ∨ X.env.scope.names.lookup x = some .local := by first | exact .inl rfl | exact .inr rfl | assumption) : wpAny M A (storeName X.env x u) Q E s :=
  store_ok2 I hN hi hx r (fun s' I' _ => h s' I') hf
/-- behind a call or a block, the state as it is -/
theorem Inv.call' {s' : Shared} {ch : List Addr} (I : Inv X pins σ H s) (ho : s'.os = s.os) (u : Un (frs X.stack) ch H H' s.heap s'.heap) (hok : HOk X.prog X.w H' s'.heap) (hg : AllBare s'.gens)
    (hch : ∀ b ∈ ch, (b ∈ X.ex ∨ X.s₀.heap.objs.size ≤ b) ∧ b ≠ X.env.locals ∧ (∀ x c, X.env.cells.lookup x = some c → c ≠ b) ∧ ∀ p ∈ X.pn ++ pins, p.1 ≠ b) : Inv X pins σ H' s' := by
  obtain ⟨h', g', d', t', o'⟩ := s'
  have e : o' = s.os := ho
  subst e
  exact I.call (g' := g') (t' := t') (d' := d') u hok hg hch
end

/-! ### the judgements -/
/-- an exception: its class, its own dict's address (where it has one), the abstract heap behind it -/
abbrev XK := Value → Option Addr → Hp → Prop
abbrev St := List (Option V)
abbrev VK := V → Hp → Prop
/-- an expression's reading; a test's; an argument list's -/
abbrev TE := St → Hp → VK → Prop
abbrev TT := St → Hp → (Bool → Hp → Prop) → Prop
abbrev TA := St → Hp → (List V → Hp → Prop) → Prop
/-- what is wanted behind a statement -/
structure Ends where
  nx : St → Hp → Prop
  rt : VK
  bk : St → Hp → Prop := fun _ _ => False
  ct : St → Hp → Prop := fun _ _ => False
abbrev TS := Ends → St → Hp → Prop

def EP (X : Cx) (pins : List (Addr × Obj)) (σ : St) (Q : VK) (u : Value) (s' : Shared) : Prop := ∃ v H', Inv X pins σ H' s' ∧ RelV v u ∧ Q v H'
def TP (X : Cx) (pins : List (Addr × Obj)) (σ : St) (Q : Bool → Hp → Prop) (b : Bool) (s' : Shared) : Prop := ∃ H', Inv X pins σ H' s' ∧ Q b H'
def AP (X : Cx) (pins : List (Addr × Obj)) (σ : St) (Q : List V → Hp → Prop) (us : List Value) (s' : Shared) : Prop := ∃ vs H', Inv X pins σ H' s' ∧ Vals vs us ∧ Q vs H'
def SP (X : Cx) (pins : List (Addr × Obj)) (D : Ends) (f : Flow) (s' : Shared) : Prop :=
  match f with
  | .next => ∃ σ' H', Inv X pins σ' H' s' ∧ D.nx σ' H'
  | .brk => ∃ σ' H', Inv X pins σ' H' s' ∧ D.bk σ' H'
  | .cont => ∃ σ' H', Inv X pins σ' H' s' ∧ D.ct σ' H'
  | .ret u => ∃ v σ' H', Inv X pins σ' H' s' ∧ RelV v u ∧ D.rt v H'

def PE (X : Cx) (e : Expr) (t : TE) : Prop :=
  ∀ (pins : List (Addr × Obj)) (s : Shared) (σ : St) (H : Hp) (Q : VK), Inv X pins σ H s → t σ H Q → wpAny (model X.prog X.w) X.A (eval e X.env) (EP X pins σ Q) X.xe s
def PT (X : Cx) (e : Expr) (t : TT) : Prop :=
  ∀ (pins : List (Addr × Obj)) (s : Shared) (σ : St) (H : Hp) (Q : Bool → Hp → Prop), Inv X pins σ H s → t σ H Q → wpAny (model X.prog X.w) X.A (isTrue e X.env (eval e X.env)) (TP X pins σ Q) X.xe s
/-- a test whatever its 'whole' is (and, or) -/
def PW (X : Cx) (e : Expr) (t : TT) : Prop :=
  ∀ (whole : Sem Value) (pins : List (Addr × Obj)) (s : Shared) (σ : St) (H : Hp) (Q : Bool → Hp → Prop), Inv X pins σ H s → t σ H Q → wpAny (model X.prog X.w) X.A (isTrue e X.env whole) (TP X pins σ Q) X.xe s
theorem PW.pt {X : Cx} {e : Expr} {t : TT} (h : PW X e t) : PT X e t := h _
/-- an argument list (no star), from the left -/
def PA (X : Cx) (es : List Expr) (t : TA) : Prop :=
  ∀ (pos : Pos) (pins : List (Addr × Obj)) (s : Shared) (σ : St) (H : Hp) (Q : List V → Hp → Prop), Inv X pins σ H s → t σ H Q → wpAny (model X.prog X.w) X.A (spliced (backTo pos (starEach es X.env))) (AP X pins σ Q) X.xe s
def PS (X : Cx) (st : Stmt) (t : TS) : Prop :=
  ∀ (pins : List (Addr × Obj)) (s : Shared) (σ : St) (H : Hp) (D : Ends), Inv X pins σ H s → t D σ H → wpAny (model X.prog X.w) X.A (exec st X.env) (SP X pins D) X.xe s
def PSs (X : Cx) (st : List Stmt) (t : TS) : Prop :=
  ∀ (pins : List (Addr × Obj)) (s : Shared) (σ : St) (H : Hp) (D : Ends), Inv X pins σ H s → t D σ H → wpAny (model X.prog X.w) X.A (execs st X.env) (SP X pins D) X.xe s
/-- weaken the end -/
theorem thn {α : Type} {t : Sem α} {Q Q' : α → Shared → Prop} {M : Model} {A : Around} {E : Value → Shared → Prop} {s : Shared} (h : wpAny M A t Q E s) (hQ : ∀ a s, Q a s → Q' a s) : wpAny M A t Q' E s := wpAny_mono h hQ fun _ _ x => x
end L2

namespace L2
open PySem PySem.Spec PyProof.Rows
section
variable {X : Cx}

/-! ### names and constants -/
def tVar (i : Nat) : TE := fun σ H Q => ∃ v, σ[i]? = some (some v) ∧ Q v H
def tC (v : V) : TE := fun _ H Q => Q v H
theorem pe_var {i : Nat} {x : Str} {pos : Pos} (hN : X.N[i]? = some x) (hv : Vis X.env.scope x) (hd : (x == ("__debug__" : Str)) = false := by decide) (hcd : (x == ("__classdict__" : Str)) = false := by decide) : PE X (.Name x pos) (tVar i) := by
  intro pins s σ H Q I h
  obtain ⟨v, e, h⟩ := h
  obtain ⟨m, hn, hl⟩ := I.loc
  obtain ⟨u, r, l⟩ := hl i x v hN e hv
  have fin : EP X pins σ Q u s := ⟨v, H, I, r, h⟩
  rcases l with ⟨hk, hm⟩ | ⟨hk, c, hc, hcell⟩
  · exact wpAny_Name (wpAny_loadName_local I.ok.kind hk hn hm fin) hd
  · rcases hk with hk | hk
    · exact wpAny_Name (wpAny_loadName_cell I.ok.kind hk hc hcell fin) hd
    · exact wpAny_Name (wpAny_loadName_free I.ok.kind hk hc hcell fin hcd) hd
theorem pe_int {i j pos} : PE X (.Constant (.int i) j pos) (tC (.int i)) := fun _ _ _ H _ I h => wpAny_Constant_int ⟨.int i, H, I.tok _, ⟨_, rfl⟩, h⟩
theorem pe_bl {b j pos} : PE X (.Constant (.bool b) j pos) (tC (.bl b)) := fun _ _ _ H _ I h => Constant_bool ⟨.bl b, H, I, rfl, h⟩
theorem pe_non {j pos} : PE X (.Constant .none j pos) (tC .non) := fun _ _ _ H _ I h => Constant_none ⟨.non, H, I, rfl, h⟩
theorem pe_str {x j pos} : PE X (.Constant (.str x) j pos) (tC (.str x)) := fun _ _ _ H _ I h => Calls.Constant_str ⟨.str x, H, I.tok _, ⟨_, rfl⟩, h⟩

/-- a global name of the def -/
def Gl (X : Cx) (x : Str) : Prop := X.env.kindOf x = some .globalImplicit
theorem ld_glob {E : Value → Shared → Prop} {pins : List (Addr × Obj)} {s : Shared} {σ : St} {H : Hp} {x : Str} {u : Value} {pos : Pos} {Q : Value → Shared → Prop} (I : Inv X pins σ H s) (hg : Gl X x) (hm : X.mg x = some u) (h : Q u s)
    (hd : (x == ("__debug__" : Str)) = false := by decide) : wpAny (model X.prog X.w) X.A (eval (.Name x pos) X.env) Q E s :=
  Calls.Name_function_global I.ok.kind hg (Calls.loadGlobal_global (by rw [I.ok.glob]; exact I.mod.glob.keeps I.bk) hm h) hd
theorem ld_blt {E : Value → Shared → Prop} {pins : List (Addr × Obj)} {s : Shared} {σ : St} {H : Hp} {x : Str} {u : Value} {pos : Pos} {Q : Value → Shared → Prop} (I : Inv X pins σ H s) (hg : Gl X x) (hm : X.mg x = none) (hv : bootBuiltins x = some u) (h : Q u s)
    (hn : x ≠ "__name__" := by decide) (hd : (x == ("__debug__" : Str)) = false := by decide) : wpAny (model X.prog X.w) X.A (eval (.Name x pos) X.env) Q E s := by
  obtain ⟨mb, h1, h2⟩ := I.mod.blt
  exact Calls.Name_function_global I.ok.kind hg (Calls.loadGlobal_builtin (by rw [I.ok.glob]; exact I.mod.glob.keeps I.bk) hm (by rw [I.ok.blt]; exact h1.keeps I.bk) ((h2 x hn).trans hv) h) hd
/-- a module's constant, a class, a function, as a value -/
theorem pe_glob {x : Str} {v : V} {u : Value} {pos : Pos} (hg : Gl X x) (hm : X.mg x = some u) (r : RelV v u) (hd : (x == ("__debug__" : Str)) = false := by decide) : PE X (.Name x pos) (tC v) :=
  fun _ _ _ H _ I h => ld_glob I hg hm ⟨v, H, I, r, h⟩ hd
theorem pe_bltn {x : Str} {v : V} {u : Value} {pos : Pos} (hg : Gl X x) (hm : X.mg x = none) (hv : bootBuiltins x = some u) (r : RelV v u) (hn : x ≠ "__name__" := by decide) (hd : (x == ("__debug__" : Str)) = false := by decide) : PE X (.Name x pos) (tC v) :=
  fun _ _ _ H _ I h => ld_blt I hg hm hv ⟨v, H, I, r, h⟩ hn hd

/-! ### arithmetic -/
variable {a b : Expr} {ta tb : TE} {pos : Pos}
/-! ### comparisons -/
def PC (X : Cx) (op : CmpOp) (a b : Expr) (t : TE) : Prop :=
  ∀ (pins : List (Addr × Obj)) (s : Shared) (σ : St) (H : Hp) (Q : VK), Inv X pins σ H s → t σ H Q →
    wpAny (model X.prog X.w) X.A (eval a X.env) (fun v s₁ => wpAny (model X.prog X.w) X.A (eval b X.env) (fun u s₂ => wpAny (model X.prog X.w) X.A (compareOp op v u) (EP X pins σ Q) X.xe s₂) X.xe s₁) X.xe s
theorem nobehind (b : Expr) {op : CmpOp} (h : op ≠ .In) (h2 : op ≠ .NotIn) : behindInMarks op b = false := by
  have e1 : (op == CmpOp.In) = false := by cases op <;> first | rfl | exact absurd rfl h
  have e2 : (op == CmpOp.NotIn) = false := by cases op <;> first | rfl | exact absurd rfl h2
  cases b <;> simp [behindInMarks, e1, e2]
/-- a comparison as a value, as a test -/
def tB (t : TE) : TT := fun σ H Q => t σ H fun x H1 => ∃ c, x = .bl c ∧ Q c H1
theorem pt_cmp {op : CmpOp} {t : TE} (h : PC X op a b t) (h1 : behindInMarks op b = false := by first | exact nobehind _ (by decide) (by decide) | rfl) : PT X (.Compare a [op] [b] pos) (tB t) := by
  intro pins s σ H Q I hw
  refine wpAny_isTrue_Compare1 (thn (h pins s σ H _ I hw) fun v s1 h1 => thn h1 fun u s2 h2 => thn h2 fun c s3 ⟨x, H1, I1, r1, q1⟩ => ?_) h1
  obtain ⟨d, rfl, q⟩ := q1
  cases r1
  exact wpAny_truthy_bool ⟨H1, I1, q⟩
/-- an expression whose value is a bool, as a test -/
theorem pt_val {e : Expr} {t : TE} (h : PE X e t) (he : ∀ whole, isTrue e X.env whole = (do let v ← whole; standAt e.pos; holding [v] (truthy v)) := by intro _; rfl) : PT X e (tB t) := by
  intro pins s σ H Q I hw
  refine isTrue_plain (thn (h pins s σ H _ I hw) fun v s1 ⟨x, H1, I1, r1, q1⟩ => ?_) (he _)
  obtain ⟨d, rfl, q⟩ := q1
  cases r1
  exact wpAny_truthy_bool ⟨H1, I1, q⟩

/-! ### and, or, not -/
variable {tA tB' : TT} {rest : List Expr}
def tOr (t u : TT) : TT := fun σ H Q => t σ H fun c H1 => if c = true then Q true H1 else u σ H1 Q
def tNot (t : TT) : TT := fun σ H Q => t σ H fun c H1 => Q (!c) H1
theorem pw_or1 (ha : PT X a tA) : PW X (.BoolOp .Or [a] pos) tA := by
  intro wh pins s σ H Q I h
  refine isTrue_or (thn (ha pins s σ H Q I h) fun c s1 e => ?_)
  cases c with
  | false => exact isTrue_or_nil e
  | true => exact e
theorem pw_or (ha : PT X a tA) (hb : PW X (.BoolOp .Or (b :: rest) pos) tB') : PW X (.BoolOp .Or (a :: b :: rest) pos) (tOr tA tB') := by
  intro wh pins s σ H Q I h
  refine isTrue_or (thn (ha pins s σ H _ I h) fun c s1 ⟨H1, I1, q1⟩ => ?_)
  cases c with
  | true => exact ⟨H1, I1, q1⟩
  | false => exact hb wh pins s1 σ H1 Q I1 q1
theorem pt_not (ha : PT X a tA) : PT X (.UnaryOp .Not a pos) (tNot tA) := by
  intro pins s σ H Q I h
  exact isTrue_not (ha pins s σ H (fun c H1 => Q (!c) H1) I h)
/-- .. as values (bools) -/
def tAndV (ta tb : TE) : TE := fun σ H Q => ta σ H fun x H1 => ∃ c, x = .bl c ∧ if c = true then tb σ H1 Q else Q (.bl false) H1
def tOrV (ta tb : TE) : TE := fun σ H Q => ta σ H fun x H1 => ∃ c, x = .bl c ∧ if c = true then Q (.bl true) H1 else tb σ H1 Q
def tNotV (ta : TE) : TE := fun σ H Q => ta σ H fun x H1 => ∃ c, x = .bl c ∧ Q (.bl (!c)) H1
theorem pe_one {op} {t : TE} (h : PE X a t) : PE X (.BoolOp op [a] pos) t := fun pins s σ H Q I hw => BoolOp_one (h pins s σ H Q I hw)
theorem pe_and (ha : PE X a ta) (hb : PE X (.BoolOp .And (b :: rest) pos) tb) : PE X (.BoolOp .And (a :: b :: rest) pos) (tAndV ta tb) := by
  intro pins s σ H Q I h
  refine BoolOp_and (thn (ha pins s σ H _ I h) fun v s1 ⟨x, H1, I1, r1, q1⟩ => ?_)
  obtain ⟨c, rfl, q1⟩ := q1
  cases r1
  refine wpAny_truthy_bool ?_
  cases c with
  | true => exact hb pins s1 σ H1 Q I1 q1
  | false => exact ⟨.bl false, H1, I1, rfl, q1⟩
theorem pe_or (ha : PE X a ta) (hb : PE X (.BoolOp .Or (b :: rest) pos) tb) : PE X (.BoolOp .Or (a :: b :: rest) pos) (tOrV ta tb) := by
  intro pins s σ H Q I h
  refine BoolOp_or (thn (ha pins s σ H _ I h) fun v s1 ⟨x, H1, I1, r1, q1⟩ => ?_)
  obtain ⟨c, rfl, q1⟩ := q1
  cases r1
  refine wpAny_truthy_bool ?_
  cases c with
  | false => exact hb pins s1 σ H1 Q I1 q1
  | true => exact ⟨.bl true, H1, I1, rfl, q1⟩
theorem pe_not (ha : PE X a ta) : PE X (.UnaryOp .Not a pos) (tNotV ta) := by
  intro pins s σ H Q I h
  refine UnaryOp_ (thn (ha pins s σ H _ I h) fun v s1 ⟨x, H1, I1, r1, q1⟩ => ?_)
  obtain ⟨c, rfl, q1⟩ := q1
  cases r1
  exact not_of (wpAny_truthy_bool ⟨.bl (!c), H1, I1, rfl, q1⟩)
/-- a if t else b -/
def tIf (t : TT) (ta tb : TE) : TE := fun σ H Q => t σ H fun c H1 => if c = true then ta σ H1 Q else tb σ H1 Q
theorem pe_ifExp {c : Expr} (hc : PT X c tA) (ha : PE X a ta) (hb : PE X b tb) : PE X (.IfExp c a b pos) (tIf tA ta tb) := by
  intro pins s σ H Q I h
  refine wpAny_IfExp (thn (hc pins s σ H _ I h) fun d s1 ⟨H1, I1, q1⟩ => ?_)
  cases d with
  | true => exact ha pins s1 σ H1 Q I1 q1
  | false => exact hb pins s1 σ H1 Q I1 q1
end
end L2

namespace L2
open PySem PySem.Spec PyProof.Rows

/-! ### a list, a tuple that is read: tracked, frozen, or an object of the module -/
def SqL (K : PySem.W.Frag) (H : Hp) (a : Addr) (xs : List V) : Prop :=
  Rd H a (.lst xs) ∨
    ∃ (o : Obj) (its : Array Value) (n : Nat), K.lookup a = some o ∧ o.cls = .type "list" ∧ o.dict = none ∧ o.data = .seq its n ∧ its.size ≤ sizeLine ∧ Vals xs its.toList
def SqT (K : PySem.W.Frag) (H : Hp) (a : Addr) (xs : List V) : Prop :=
  Rd H a (.tup xs) ∨
    ∃ (o : Obj) (its : Array Value) (n : Nat), K.lookup a = some o ∧ o.cls = .type "tuple" ∧ o.data = .seq its n ∧ its.size ≤ sizeLine ∧ Vals xs its.toList
def absV : Value → Option V
  | .none => some .non
  | .bool b => some (.bl b)
  | .int i _ => some (.int i)
  | .str x _ => some (.str x)
  | .bytes b _ => some (.byt b)
  | .float b _ => some (.flt b)
  | .ref a => some (.ref a)
  | .type n => some (.ty n)
  | _ => none
theorem RelV.abs {x : V} {u : Value} (r : RelV x u) : absV u = some x := by
  cases x with
  | non => cases r; rfl
  | bl _ => cases r; rfl
  | int _ => obtain ⟨t, rfl⟩ := r; rfl
  | str _ => obtain ⟨t, rfl⟩ := r; rfl
  | byt _ => obtain ⟨t, rfl⟩ := r; rfl
  | flt _ => obtain ⟨t, rfl⟩ := r; rfl
  | ref _ => cases r; rfl
  | ty _ => cases r; rfl
theorem RelV.inj {x y : V} {u : Value} (r : RelV x u) (q : RelV y u) : x = y := Option.some.inj (r.abs.symm.trans q.abs)
theorem Vals.inj : ∀ {xs ys : List V} {us : List Value}, Vals xs us → Vals ys us → xs = ys
  | _, _, _, .nil, .nil => rfl
  | _, _, _, .cons r t, .cons r' t' => by rw [r.inj r', Vals.inj t t']
section
variable {X : Cx} {pins : List (Addr × Obj)} {σ : St} {H : Hp} {s : Shared} {a : Addr} {xs ys : List V}
theorem SqL.of {K : PySem.W.Frag} (h : H a = some (.lst xs)) : SqL K H a xs := .inl (.inl h)
theorem SqT.of {K : PySem.W.Frag} (h : H a = some (.tup xs)) : SqT K H a xs := .inl (.inl h)
theorem Inv.list (I : Inv X pins σ H s) (h : SqL X.K H a xs) : ∃ its : List Value, Vals xs its ∧ PlainL s.heap a its.toArray ∧ xs.length ≤ sizeLine := by
  rcases h with h | ⟨o, its, n, hk, hc, hd, hs, hz, r⟩
  · obtain ⟨z, its, n, r, e⟩ := h.ok I.hok
    exact ⟨its, r, ⟨_, n, e, rfl, rfl, rfl⟩, z⟩
  · refine ⟨its.toList, r, ⟨o, n, I.kIn a o hk, hc, hd, by simpa using hs⟩, ?_⟩
    have e := r.length
    simp only [Array.length_toList] at e
    omega
theorem Inv.tuple (I : Inv X pins σ H s) (h : SqT X.K H a xs) : ∃ its : List Value, Vals xs its ∧ IsTup s.heap a its.toArray ∧ xs.length ≤ sizeLine := by
  rcases h with h | ⟨o, its, n, hk, hc, hs, hz, r⟩
  · obtain ⟨z, its, r, p⟩ := h.ok I.hok
    exact ⟨its, r, p, z⟩
  · refine ⟨its.toList, r, ⟨o, I.kIn a o hk, hc, n, by simpa using hs⟩, ?_⟩
    have e := r.length
    simp only [Array.length_toList] at e
    omega
theorem Inv.list_inj (I : Inv X pins σ H s) (h : SqL X.K H a xs) (h' : SqL X.K H a ys) : xs = ys := by
  obtain ⟨its, r, ⟨o, n, e, _, _, d⟩, _⟩ := I.list h
  obtain ⟨its', r', ⟨o', n', e', _, _, d'⟩, _⟩ := I.list h'
  rw [e] at e'; cases e'
  rw [d] at d'
  injection d' with d1 _
  have : its = its' := by simpa using congrArg Array.toList d1
  subst this
  exact r.inj r'
theorem Inv.tuple_inj (I : Inv X pins σ H s) (h : SqT X.K H a xs) (h' : SqT X.K H a ys) : xs = ys := by
  obtain ⟨its, r, ⟨o, e, _, n, d⟩, _⟩ := I.tuple h
  obtain ⟨its', r', ⟨o', e', _, n', d'⟩, _⟩ := I.tuple h'
  rw [e] at e'; cases e'
  rw [d] at d'
  injection d' with d1 _
  have : its = its' := by simpa using congrArg Array.toList d1
  subst this
  exact r.inj r'
end

/-! ### another wish about exceptions -/
abbrev Cx.wish (X : Cx) (E : Value → Shared → Prop) : Cx := { X with xe := E }
/-- no exception leaves -/
abbrev Cx.nox (X : Cx) : Cx := X.wish fun _ _ => False
theorem Cx.Ok.wish {X : Cx} (ok : X.Ok) (E : Value → Shared → Prop) : (X.wish E).Ok :=
  ⟨ok.mod, ok.kind, ok.glob, ok.blt, ok.above, ok.inj, ok.has, ok.cab, ok.hd, ok.frames, ok.stk, ok.exf, ok.bs, ok.bsz, ok.noex, ok.exfs, ok.funs, ok.frf⟩
theorem Cx.Ok.unwish {X : Cx} {E : Value → Shared → Prop} (ok : (X.wish E).Ok) : X.Ok :=
  ⟨ok.mod, ok.kind, ok.glob, ok.blt, ok.above, ok.inj, ok.has, ok.cab, ok.hd, ok.frames, ok.stk, ok.exf, ok.bs, ok.bsz, ok.noex, ok.exfs, ok.funs, ok.frf⟩
section
variable {X : Cx} {pins : List (Addr × Obj)} {σ : St} {H : Hp} {s : Shared} {E : Value → Shared → Prop}
theorem Inv.wish (I : Inv X pins σ H s) (E : Value → Shared → Prop) : Inv (X.wish E) pins σ H s := ⟨I.ok.wish E, I.os, I.bare, I.base, I.loc, I.cell, I.free, I.freeC, I.pin, I.hok, I.len⟩
theorem Inv.unwish (I : Inv (X.wish E) pins σ H s) : Inv X pins σ H s := ⟨I.ok.unwish, I.os, I.bare, I.base, I.loc, I.cell, I.free, I.freeC, I.pin, I.hok, I.len⟩
theorem SP.unwish {D : Ends} {f : Flow} {s' : Shared} (h : SP (X.wish E) pins D f s') : SP X pins D f s' := by
  cases f with
  | next => obtain ⟨σ', H', I, q⟩ := h; exact ⟨σ', H', I.unwish, q⟩
  | brk => obtain ⟨σ', H', I, q⟩ := h; exact ⟨σ', H', I.unwish, q⟩
  | cont => obtain ⟨σ', H', I, q⟩ := h; exact ⟨σ', H', I.unwish, q⟩
  | ret u => obtain ⟨v, σ', H', I, r, q⟩ := h; exact ⟨v, σ', H', I.unwish, r, q⟩
theorem PE.nox {e : Expr} {t : TE} (h : PE X.nox e t) : PE X e t := fun pins s σ H Q I hw =>
  wpAny_mono (h pins s σ H Q (I.wish _) hw) (fun _ _ ⟨v, H', I', r, q⟩ => ⟨v, H', I'.unwish, r, q⟩) fun _ _ z => False.elim z
theorem PT.nox {e : Expr} {t : TT} (h : PT X.nox e t) : PT X e t := fun pins s σ H Q I hw =>
  wpAny_mono (h pins s σ H Q (I.wish _) hw) (fun _ _ ⟨H', I', q⟩ => ⟨H', I'.unwish, q⟩) fun _ _ z => False.elim z
theorem PSs.nox {st : List Stmt} {t : TS} (h : PSs X.nox st t) : PSs X st t := fun pins s σ H D I hw =>
  wpAny_mono (h pins s σ H D (I.wish _) hw) (fun _ _ q => q.unwish) fun _ _ z => False.elim z
end

/-! ### blocks and small statements -/
section
variable {X : Cx} {st : Stmt} {rest : List Stmt} {t u : TS} {e : Expr} {te : TE} {pos : Pos}
def tNext : TS := fun D σ H => D.nx σ H
def tSeq (t u : TS) : TS := fun D σ H => t { D with nx := u D } σ H
theorem pss_nil : PSs X [] tNext := fun _ _ σ H _ I h => wpAny_execs_nil ⟨σ, H, I, h⟩
theorem pss_cons (h1 : PS X st t) (h2 : PSs X rest u) : PSs X (st :: rest) (tSeq t u) := by
  intro pins s σ H D I h
  refine wpAny_execs_cons (thn (h1 pins s σ H { D with nx := u D } I h) fun f s1 q => ?_)
  cases f with
  | next =>
    obtain ⟨σ', H', I', q⟩ := q
    exact h2 pins s1 σ' H' D I' q
  | ret v => exact q
  | brk => exact q
  | cont => exact q
theorem pss_one (h1 : PS X st t) : PSs X [st] t := by
  intro pins s σ H D I h
  refine wpAny_execs_cons (thn (h1 pins s σ H D I h) fun f s1 q => ?_)
  cases f with
  | next => exact wpAny_execs_nil q
  | ret v => exact q
  | brk => exact q
  | cont => exact q
/-- in a def's body nothing is shown -/
theorem Inv.quiet {pins : List (Addr × Obj)} {σ : St} {H : Hp} {s : Shared} (I : Inv X pins σ H s) : interactive X.env = false := by simp [interactive, I.ok.kind]
/-- an expression whose value is dropped -/
def tDrop (te : TE) : TS := fun D σ H => te σ H fun _ H1 => D.nx σ H1
theorem ps_expr (he : PE X e te) (hs : swapsWith e none pos.line X.env = pure false := by rfl) : PS X (.Expr e pos) (tDrop te) := by
  intro pins s σ H D I h
  exact wpAny_Expr_any (thn (he pins s σ H _ I h) fun v s1 ⟨x, H1, I1, r1, q1⟩ => ⟨σ, H1, I1, q1⟩) I.quiet hs
def tRet (te : TE) : TS := fun D σ H => te σ H D.rt
theorem ps_ret (he : PE X e te) : PS X (.Return (some e) pos) (tRet te) := by
  intro pins s σ H D I h
  exact wpAny_Return_some (thn (he pins s σ H _ I h) fun v s1 ⟨x, H1, I1, r1, q1⟩ => ⟨x, σ, H1, I1, r1, q1⟩)
def tIfS (c : TT) (t u : TS) : TS := fun D σ H => c σ H fun b H1 => if b = true then t D σ H1 else u D σ H1
theorem ps_if {c : Expr} {a b : List Stmt} {tc : TT} (hc : PT X c tc) (ha : PSs X a t) (hb : PSs X b u) : PS X (.If c a b pos) (tIfS tc t u) := by
  intro pins s σ H D I h
  refine wpAny_If (thn (hc pins s σ H _ I h) fun d s1 ⟨H1, I1, q1⟩ => ?_)
  cases d with
  | true => exact ha pins s1 σ H1 D I1 q1
  | false => exact hb pins s1 σ H1 D I1 q1
end

/-! ### targets -/
abbrev TG := V → St → Hp → (St → Hp → Prop) → Prop
abbrev TGs := List V → St → Hp → (St → Hp → Prop) → Prop
def PG (X : Cx) (target : Expr) (t : TG) : Prop :=
  ∀ (pins : List (Addr × Obj)) (s : Shared) (σ : St) (H : Hp) (v : V) (u : Value) (Q : St → Hp → Prop), Inv X pins σ H s → RelV v u → t v σ H Q →
    wpAny (model X.prog X.w) X.A (assign target X.env u) (fun _ s' => ∃ σ' H', Inv X pins σ' H' s' ∧ Q σ' H') X.xe s
/-- several targets, one after another -/
def PGs (X : Cx) (ts : List Expr) (t : TGs) : Prop :=
  ∀ (pins : List (Addr × Obj)) (s : Shared) (σ : St) (H : Hp) (vs : List V) (us : List Value) (Q : St → Hp → Prop), Inv X pins σ H s → Vals vs us → t vs σ H Q →
    wpAny (model X.prog X.w) X.A (assignInOrder ((assignEach ts X.env).map (·.2)) us) (fun _ s' => ∃ σ' H', Inv X pins σ' H' s' ∧ Q σ' H') X.xe s
/-- o[i] = v, by values -/
abbrev TSet := V → V → V → Hp → (Hp → Prop) → Prop
def PSet (X : Cx) (t : TSet) : Prop :=
  ∀ (pins : List (Addr × Obj)) (s : Shared) (σ : St) (H : Hp) (o i v : V) (ov iv u : Value) (Q : Hp → Prop), Inv X pins σ H s → RelV o ov → RelV i iv → RelV v u → t o i v H Q →
    wpAny (model X.prog X.w) X.A (setItem ov iv u) (fun _ s' => ∃ H', Inv X pins σ H' s' ∧ Q H') X.xe s
section
variable {X : Cx} {pos : Pos}
def gName (i : Nat) : TG := fun v σ H Q => Q (σ.set i (some v)) H
theorem pg_name {i : Nat} {x : Str} (hN : X.N.Nodup) (hi : X.N[i]? = some x) (hx : Loc X.env.scope x) (hf : X.fn x = true ∨ X.env.scope.names.lookup x = some .local := by first | exact .inl rfl | exact .inr rfl | assumption) : PG X (.Name x pos) (gName i) := by
  intro pins s σ H v u Q I r h
  exact wpAny_assign_Name (store_ok I hN hi hx r (fun s' I' => ⟨_, H, I', h⟩) hf)
def gNil : TGs := fun vs σ H Q => vs = [] ∧ Q σ H
def gCons (t : TG) (u : TGs) : TGs := fun vs σ H Q => ∃ v r, vs = v :: r ∧ t v σ H fun σ' H' => u r σ' H' Q
theorem pgs_nil : PGs X [] gNil := by
  intro pins s σ H vs us Q I r h
  obtain ⟨e, h⟩ := h
  subst e
  cases r
  exact assignInOrder_nil ⟨σ, H, I, h⟩
theorem pgs_cons {e : Expr} {es : List Expr} {t : TG} {u : TGs} (h1 : PG X e t) (h2 : PGs X es u)
    (hs : (assignEach (e :: es) X.env).map (·.2) = assign e X.env :: (assignEach es X.env).map (·.2) := by rfl) : PGs X (e :: es) (gCons t u) := by
  intro pins s σ H vs us Q I r h
  obtain ⟨v, vr, e1, h⟩ := h
  subst e1
  cases r with
  | cons r rr =>
    rw [hs]
    refine assignInOrder_cons (thn (h1 pins s σ H _ _ _ I r h) fun _ s1 ⟨σ1, H1, I1, q1⟩ => ?_)
    exact h2 pins s1 σ1 H1 _ _ Q I1 rr q1
/-- o[i] = .. -/
def gSub (to ti : TE) (t : TSet) : TG := fun v σ H Q => to σ H fun o H1 => ti σ H1 fun i H2 => t o i v H2 fun H3 => Q σ H3
/-- target = value -/
def tAsg (te : TE) (g : TG) : TS := fun D σ H => te σ H fun x H1 => g x σ H1 D.nx
theorem ps_asg {tg e : Expr} {te : TE} {g : TG} (he : PE X e te) (hg : PG X tg g) (hs : swapsWithSole [tg] e pos.line X.env = pure false := by rfl) (hw : swappedStores [tg] e X.env = pure none := by rfl)
    (h1 : (assignEach [tg] X.env).map (·.2) = [assign tg X.env] := by rfl) : PS X (.Assign [tg] e pos) (tAsg te g) := by
  intro pins s σ H D I h
  refine wpAny_Assign_stores (thn (he pins s σ H _ I h) fun v s1 ⟨x, H1, I1, r1, q1⟩ => ?_) hs hw
  rw [h1]
  exact thn (hg pins s1 σ H1 x v _ I1 r1 q1) fun _ s2 q => q
/-- name = value -/
theorem ps_set {i : Nat} {x : Str} {e : Expr} {te : TE} {pos' : Pos} (hN : X.N.Nodup) (hi : X.N[i]? = some x) (hx : Loc X.env.scope x) (he : PE X e te) (hs : swapsWith e (some (.Name x pos')) pos.line X.env = pure false := by rfl) (hf : X.fn x = true ∨ X.env.scope.names.lookup x = some .local := by first | exact .inl rfl | exact .inr rfl | assumption) :
    PS X (.Assign [.Name x pos'] e pos) (tAsg te (gName i)) := by
  intro pins s σ H D I h
  refine wpAny_Assign_Name (thn (he pins s σ H _ I h) fun v s1 ⟨y, H1, I1, r1, q1⟩ => ?_) hs
  exact store_ok I1 hN hi hx r1 (fun s2 I2 => ⟨_, H1, I2, q1⟩) hf
/-- a, b = x, y with plain local names: stored from the right; the pair itself is not tracked (the opening rows as in PyProof/Rows/TupAssign.lean:23) -/
def tPar (i j : Nat) (ta : TA) : TS := fun D σ H => ta σ H fun vs H1 => ∃ v w, vs = [v, w] ∧ D.nx ((σ.set i (some v)).set j (some w)) H1
theorem ps_par {i j : Nat} {x y : Str} {a b : Expr} {ta : TA} {px py pt : Pos} {kt k2 pt2} (hc : X.calm = true) (hN : X.N.Nodup) (hi : X.N[i]? = some x) (hj : X.N[j]? = some y) (hij : i ≠ j)
    (hx : X.env.scope.names.lookup x = some .local) (hy : X.env.scope.names.lookup y = some .local) (ha : PA X [a, b] ta)
    (hw : swappedStores [.Tuple [.Name x px, .Name y py] kt pt] (.Tuple [a, b] k2 pt2) X.env = pure (some [x, y]))
    (hs : swapsWithSole [.Tuple [.Name x px, .Name y py] kt pt] (.Tuple [a, b] k2 pt2) pos.line X.env = pure false := by rfl) :
    PS X (.Assign [.Tuple [.Name x px, .Name y py] kt pt] (.Tuple [a, b] k2 pt2) pos) (tPar i j ta) := by
  intro pins s σ H D I h
  rw [exec_Assign_arm]
  refine wpAny_bind (wpAny_standAt ?_)
  rw [hs]
  refine wpAny_bind (wpAny_pure ?_)
  rw [if_neg (by decide)]
  refine wpAny_bind (Tuple_ (thn (ha _ pins s σ H _ I h) fun us s1 ⟨vs, H1, I1, r1, q1⟩ => ?_))
  obtain ⟨v, w, e1, q1⟩ := q1
  subst e1
  obtain ⟨u1, u2, rfl, rv, rw'⟩ : ∃ u1 u2, us = [u1, u2] ∧ RelV v u1 ∧ RelV w u2 := by
    cases r1 with
    | cons p q =>
      cases q with
      | cons p' q' =>
        cases q'
        exact ⟨_, _, rfl, p, p'⟩
  refine wpAny_newObj_type ?_ (by show 2 ≤ sizeLine; decide)
  have I2 : Inv X pins σ H1 { s1 with heap := s1.heap.push { cls := .type "tuple", data := .seq [u1, u2].toArray } } := I1.kept (t' := s1.toks) fun b o e => Heap.get?_push_of_some _ e
  rw [hw]
  refine wpAny_bind (wpAny_pure ?_)
  show wpAny (model X.prog X.w) X.A (do rule "assign.swapped-stores"; let items ← unpackItems (.ref s1.heap.objs.size) 2 none; assignInOrder [fun v => bindName X.env y v, fun v => bindName X.env x v] items.reverse; pure Flow.next) _ _ _
  refine wpAny_bind (wpAny_rule (wpAny_bind (unpackItems_tuple (items := #[u1, u2]) (I.ok.hd hc) (IsTup.new s1.heap _) fun h' hx' => ?_)))
  have I3 := I2.kept (h' := h') (t' := s1.toks) fun b o e => hx' b o (Nat.ne_of_lt (Heap.lt_size e)) e
  show wpAny _ _ (assignInOrder [fun v => bindName X.env y v, fun v => bindName X.env x v] [u2, u1] >>= fun _ => pure Flow.next) _ _ _
  refine wpAny_bind (assignInOrder_cons (wpAny_bindName (store_ok I3 hN hj (.inl hy) rw' (fun s2 I4 => ?_) (.inr hy))))
  refine assignInOrder_cons (wpAny_bindName (store_ok I4 hN hi (.inl hx) rv (fun s3 I5 => assignInOrder_nil (wpAny_pure ?_)) (.inr hx)))
  rw [List.set_comm _ _ (Ne.symm hij)] at I5
  exact ⟨_, H1, I5, q1⟩
end

/-! ### while -/
section
variable {X : Cx} {pos : Pos}
/-- the invariant W with its measure -/
def tWhile (c : TT) (tb : TS) : TS := fun D σ H => ∃ W : Nat → St → Hp → Prop, (∃ m, W m σ H) ∧ ∀ m σ H, W m σ H →
  c σ H fun b H1 => if b = true then ∃ N : St → Hp → Prop, (∀ σ' H', N σ' H' → ∃ m', m' < m ∧ W m' σ' H') ∧ tb { D with nx := N, ct := N, bk := D.nx } σ H1 else D.nx σ H1
theorem ps_while {c : Expr} {body : List Stmt} {tc : TT} {tb : TS} (hp : PassesOwn (model X.prog X.w) X.A X.env X.xe) (hc : PT X c tc) (hb : PSs X body tb) : PS X (.While c body [] pos) (tWhile tc tb) := by
  intro pins s σ H D I h
  obtain ⟨W, ⟨m0, w0⟩, turn⟩ := h
  refine wpAny_While (codeAny_whileLoop (fun n s' => ∃ σ' H', Inv X pins σ' H' s' ∧ W n σ' H') ?_ m0 ⟨σ, H, I, w0⟩)
  rintro n s1 ⟨σ1, H1, I1, w1⟩
  refine wpAny_passesOwn hp (thn (hc pins s1 σ1 H1 _ I1 (turn n σ1 H1 w1)) fun b s2 ⟨H2, I2, q2⟩ => ?_)
  cases b with
  | true =>
    obtain ⟨N, hN, q2⟩ := q2
    rw [if_pos rfl]
    refine wpAny_passesOwn hp (thn (hb pins s2 σ1 H2 _ I2 q2) fun f s3 q3 => ?_)
    cases f with
    | next =>
      obtain ⟨σ3, H3, I3, n3⟩ := q3
      obtain ⟨m', hm, w3⟩ := hN σ3 H3 n3
      exact ⟨m', hm, σ3, H3, I3, w3⟩
    | cont =>
      obtain ⟨σ3, H3, I3, n3⟩ := q3
      obtain ⟨m', hm, w3⟩ := hN σ3 H3 n3
      exact ⟨m', hm, σ3, H3, I3, w3⟩
    | brk => exact q3
    | ret v => exact q3
  | false =>
    rw [if_neg Bool.false_ne_true]
    exact wpAny_execs_nil ⟨σ1, H2, I2, q2⟩
end

/-! ### what a loop or a comprehension walks -/
/-- at turn i: it yields x (the heap may grow), or it stops -/
structure It where
  go : Nat → Hp → Prop
  yld : Nat → Hp → V → Hp → Prop
  stop : Nat → Hp → Prop
/-- the iterator's own objects may turn: they are not the frame's, not pinned, younger than the entry (or a comprehension's own) -/
def FpOk (X : Cx) (pins : List (Addr × Obj)) (H : Hp) (b : Addr) : Prop :=
  H b = none ∧ b ≠ X.env.locals ∧ b ∉ X.fs ∧ (b ∈ X.ex ∨ X.s₀.heap.objs.size ≤ b) ∧ (∀ x c, X.env.cells.lookup x = some c → c ≠ b) ∧ ∀ p ∈ X.pn ++ pins, p.1 ≠ b
theorem Inv.fpOk {X : Cx} {pins : List (Addr × Obj)} {σ : St} {H H' : Hp} {s : Shared} {b : Addr} (I : Inv X pins σ H s) (hb : s.heap.objs.size ≤ b) (hn : H' b = none) : FpOk X pins H' b := by
  refine ⟨hn, Nat.ne_of_gt (Nat.lt_of_lt_of_le I.lt hb), I.nofs hb, .inr (Nat.le_trans I.sz hb), fun x c e z => ?_, fun p hp z => ?_⟩
  · obtain ⟨v, q⟩ := I.cell x c e
    exact absurd (Nat.lt_of_lt_of_le q.lt (by rw [z]; exact hb)) (Nat.lt_irrefl _)
  · exact absurd (Nat.lt_of_lt_of_le (Heap.lt_size (I.pin p hp).1) (by rw [z]; exact hb)) (Nat.lt_irrefl _)
structure Turn (P : Program) (w : World) (K : PySem.W.Frag) (tg : Expr) (J : It) (fp : List Addr) (it : Addr) (tn : Nat → Heap → Prop) : Prop where
  mem : it ∈ fp
  obj : ∀ i h, tn i h → ∀ b ∈ fp, ∃ o, h.get? b = some o ∧ ∀ v, o.data ≠ .cell v
  keep : ∀ i h h', tn i h → (∀ b ∈ fp, ∀ o, h.get? b = some o → h'.get? b = some o) → tn i h'
  item : ∀ (X : Cx), X.prog = P → X.w = w → X.K = K → X.calm = true → ∀ (i : Nat) (pins : List (Addr × Obj)) (s : Shared) (σ : St) (H : Hp) (E : Value → Shared → Prop), Inv X pins σ H s → (∀ b ∈ fp, FpOk X pins H b) → tn i s.heap → J.go i H →
    wpAny (model P w) X.A (pyNext (.ref it)) (fun r s1 => ∃ u, r = some u ∧
      wpAny (model P w) X.A (letOwnedTupleGo tg (.ref it) u) (fun _ s2 => ∃ x H', Inv X pins σ H' s2 ∧ RelV x u ∧ J.yld i H x H' ∧ tn (i + 1) s2.heap ∧ ∀ b ∈ fp, H' b = none) E s1) E s
  done : ∀ (X : Cx), X.prog = P → X.w = w → X.K = K → X.calm = true → ∀ (i : Nat) (pins : List (Addr × Obj)) (s : Shared) (σ : St) (H : Hp) (E : Value → Shared → Prop), Inv X pins σ H s → (∀ b ∈ fp, FpOk X pins H b) → tn i s.heap → J.stop i H →
    wpAny (model P w) X.A (pyNext (.ref it)) (fun r s1 => r = none ∧ Inv X pins σ H s1) E s
  self : ∀ (A : Around) (i : Nat) (s : Shared) (Q : Value → Shared → Prop) (E : Value → Shared → Prop), tn i s.heap → Q (.ref it) s → wpAny (model P w) A (pyIter (.ref it)) Q E s
abbrev TI := St → Hp → (It → Hp → Prop) → Prop
/-- an iterator has come -/
def PIE (X : Cx) (pins : List (Addr × Obj)) (σ : St) (tg : Expr) (R : It → Hp → Prop) (itv : Value) (s2 : Shared) : Prop :=
  ∃ (it : Addr) (fp : List Addr) (tn : Nat → Heap → Prop) (J : It) (H' : Hp), itv = .ref it ∧ Inv X pins σ H' s2 ∧ Turn X.prog X.w X.K tg J fp it tn ∧ tn 0 s2.heap ∧ (∀ b ∈ fp, FpOk X pins H' b) ∧ R J H'
def PI (X : Cx) (tg iter : Expr) (wi : TI) : Prop :=
  ∀ (pins : List (Addr × Obj)) (s : Shared) (σ : St) (H : Hp) (R : It → Hp → Prop), Inv X pins σ H s → wi σ H R →
    wpAny (model X.prog X.w) X.A (eval iter X.env) (fun v s1 => wpAny (model X.prog X.w) X.A (pyIter v) (PIE X pins σ tg R) X.xe s1) X.xe s

/-- the step ahead of the store is nothing for an iterator that keeps no tuple -/
theorem go_of {M : Model} {A : Around} {E : Value → Shared → Prop} {s : Shared} {tg : Expr} {it : Addr} {u : Value} {o : Obj} {n : String} {vs : Array Value} {Q : Unit → Shared → Prop} (ho : s.heap.get? it = some o) (hc : o.cls = .type n) (hd : o.data = .fields vs)
    (hn : ["enumerate", "zip", "dict_itemiterator", "dict_reverseitemiterator", "odict_iterator", "itertools.zip_longest", "itertools.pairwise"].contains n = false) (hQ : Q () s) : wpAny M A (letOwnedTupleGo tg (.ref it) u) Q E s := by
  unfold letOwnedTupleGo
  cases tg <;> first
    | exact wpAny_pure hQ
    | (cases u <;> first
        | exact wpAny_pure hQ
        | (refine wpAny_bind (wpAny_load ho ?_)
           rw [hc, hd]
           show wpAny M A (if (["enumerate", "zip", "dict_itemiterator", "dict_reverseitemiterator", "odict_iterator", "itertools.zip_longest", "itertools.pairwise"].contains n && vs[0]? == some (rawInt _)) = true then _ else _) Q E s
           rw [if_neg (by intro h; rw [hn, Bool.false_and] at h; cases h)]
           exact wpAny_pure hQ))

/-- the list at a, as it stands at each turn (a loop may append to it) -/
def Itl (K : PySem.W.Frag) (a : Addr) : It :=
  ⟨fun i H => ∃ xs x, SqL K H a xs ∧ xs[i]? = some x, fun i H x H' => H' = H ∧ ∀ xs, SqL K H a xs → xs[i]? = some x, fun i H => ∃ xs, SqL K H a xs ∧ xs.length ≤ i⟩
def Itt (K : PySem.W.Frag) (a : Addr) : It :=
  ⟨fun i H => ∃ xs x, SqT K H a xs ∧ xs[i]? = some x, fun i H x H' => H' = H ∧ ∀ xs, SqT K H a xs → xs[i]? = some x, fun i H => ∃ xs, SqT K H a xs ∧ xs.length ≤ i⟩
/-- lo, lo + 1, .. (n of them) -/
def Itr (lo : Int) (n : Nat) : It := ⟨fun i _ => i < n, fun i H x H' => H' = H ∧ x = .int (lo + i), fun i _ => n ≤ i⟩
theorem turn_list {P : Program} {w : World} {K : PySem.W.Frag} {tg : Expr} (a it : Addr) : Turn P w K tg (Itl K a) [it] it (fun i h => h.IsListIter it a i) where
  mem := by simp
  obj := fun i h st b hb => by
    have e : b = it := by simpa using hb
    subst e
    obtain ⟨o, e, c, d⟩ := st
    exact ⟨o, e, fun v z => by rw [d] at z; cases z⟩
  keep := fun i h h' st k => st.at fun o e => k it (by simp) o e
  item := by
    intro X hP hw hK hc i pins s σ H E I hf st hg
    subst hP hw hK
    obtain ⟨xs, x, hq, hx⟩ := hg
    obtain ⟨its, rv, p, hz⟩ := I.list hq
    obtain ⟨u, hu, ru⟩ := rv.get hx
    obtain ⟨f0, f1, f2, f3, f4, f5⟩ := hf it (by simp)
    refine wpAny_pyNext_list_item st p.isList (x := u) (by simpa using hu) fun h' st' sb => ?_
    have I1 : Inv X pins σ H { s with heap := h' } := I.turned (t' := s.toks) (fun b o hb e => (sb.2 b hb).trans e) f0 f1 f3 f4 f5
    obtain ⟨o, e, c, d⟩ := id st'
    exact ⟨u, rfl, go_of (s := { s with heap := h' }) e c d (by decide) ⟨x, H, I1, ru, ⟨rfl, fun ys hy => by rw [I.list_inj hy hq]; exact hx⟩, st', fun b hb => (hf b hb).1⟩⟩
  done := by
    intro X hP hw hK hc i pins s σ H E I hf st hg
    subst hP hw hK
    obtain ⟨xs, hq, hx⟩ := hg
    obtain ⟨its, rv, p, hz⟩ := I.list hq
    obtain ⟨f0, f1, f2, f3, f4, f5⟩ := hf it (by simp)
    have hl := rv.length
    exact wpAny_pyNext_list_end (I.ok.hd hc) st p.isList (by simp; omega) fun h' eb => ⟨rfl, I.turned (t' := s.toks) (fun b o hb e => eb b o hb e) f0 f1 f3 f4 f5⟩
  self := fun _ _ _ _ _ st h => wpAny_pyIter_listiter st h
theorem turn_tuple {P : Program} {w : World} {K : PySem.W.Frag} {tg : Expr} (a it : Addr) : Turn P w K tg (Itt K a) [it] it (fun i h => h.IsTupleIter it a i) where
  mem := by simp
  obj := fun i h st b hb => by
    have e : b = it := by simpa using hb
    subst e
    obtain ⟨o, e, c, d⟩ := st
    exact ⟨o, e, fun v z => by rw [d] at z; cases z⟩
  keep := fun i h h' st k => st.at fun o e => k it (by simp) o e
  item := by
    intro X hP hw hK hc i pins s σ H E I hf st hg
    subst hP hw hK
    obtain ⟨xs, x, hq, hx⟩ := hg
    obtain ⟨its, rv, p, hz⟩ := I.tuple hq
    obtain ⟨u, hu, ru⟩ := rv.get hx
    obtain ⟨f0, f1, f2, f3, f4, f5⟩ := hf it (by simp)
    refine wpAny_pyNext_tuple_item st (show s.heap.IsTuple a its.toArray from p) (x := u) (by simpa using hu) fun h' st' sb => ?_
    have I1 : Inv X pins σ H { s with heap := h' } := I.turned (t' := s.toks) (fun b o hb e => (sb.2 b hb).trans e) f0 f1 f3 f4 f5
    obtain ⟨o, e, c, d⟩ := id st'
    exact ⟨u, rfl, go_of (s := { s with heap := h' }) e c d (by decide) ⟨x, H, I1, ru, ⟨rfl, fun ys hy => by rw [I.tuple_inj hy hq]; exact hx⟩, st', fun b hb => (hf b hb).1⟩⟩
  done := by
    intro X hP hw hK hc i pins s σ H E I hf st hg
    subst hP hw hK
    obtain ⟨xs, hq, hx⟩ := hg
    obtain ⟨its, rv, p, hz⟩ := I.tuple hq
    obtain ⟨f0, f1, f2, f3, f4, f5⟩ := hf it (by simp)
    have hl := rv.length
    exact wpAny_pyNext_tuple_end (I.ok.hd hc) st (show s.heap.IsTuple a its.toArray from p) (by simp; omega) fun h' eb => ⟨rfl, I.turned (t' := s.toks) (fun b o hb e => eb b o hb e) f0 f1 f3 f4 f5⟩
  self := fun _ _ _ _ _ st h => wpAny_pyIter_tupleiter st h
theorem turn_range {P : Program} {w : World} {K : PySem.W.Frag} {tg : Expr} (it : Addr) (lo : Int) (n : Nat) : Turn P w K tg (Itr lo n) [it] it (fun i h => IsRangeIter h it (lo + (i : Nat) * 1) ((n : Int) - (i : Nat)) 1) where
  mem := by simp
  obj := fun i h st b hb => by
    have e : b = it := by simpa using hb
    subst e
    exact ⟨_, st, fun v z => by
      have z' : Data.fields _ = Data.cell v := z
      cases z'⟩
  keep := fun i h h' st k => k it (by simp) _ st
  item := by
    intro X hP hw hK hc i pins s σ H E I hf st hg
    subst hP hw hK
    obtain ⟨f0, f1, f2, f3, f4, f5⟩ := hf it (by simp)
    have W := Walks.range (prog := X.prog) (w := X.w) (I.ok.hd hc) it lo 1 n
    refine W.item i s _ _ hg st fun v h' tk hv st' kk => ?_
    obtain ⟨t, rfl⟩ := hv
    have I1 : Inv X pins σ H { s with heap := h', toks := tk } := I.turned (fun b o hb e => kk b o (by simpa using hb) e) f0 f1 f3 f4 f5
    refine ⟨_, rfl, go_of (s := { s with heap := h', toks := tk }) (n := "range_iterator") st' rfl rfl (by decide) ⟨.int (lo + i), H, I1, ⟨t, ?_⟩, ⟨rfl, rfl⟩, st', fun b hb => (hf b hb).1⟩⟩
    rw [Int.mul_one]
  done := by
    intro X hP hw hK hc i pins s σ H E I hf st hg
    subst hP hw hK
    obtain ⟨f0, f1, f2, f3, f4, f5⟩ := hf it (by simp)
    exact wpAny_pyNext_range_end (I.ok.hd hc) st (by have : n ≤ i := hg; omega) fun h' eb => ⟨rfl, I.turned (t' := s.toks) (fun b o hb e => eb b o hb e) f0 f1 f3 f4 f5⟩
  self := fun _ _ _ _ _ st h => wpAny_pyIter_rangeiter st h
end L2

namespace L2
open PySem PySem.Spec PyProof.Rows
section
variable {X : Cx} {tg : Expr}
/-- a range object just made, walked -/
theorem range_it {pins : List (Addr × Obj)} {σ : St} {H : Hp} {s : Shared} {R : It → Hp → Prop} {E : Value → Shared → Prop} {lo hi : Int} {t u v : Tok} {tk : Nat} (I : Inv X pins σ H s) (h1 : -(2 ^ 62) ≤ lo) (h2 : lo < 2 ^ 62) (h3 : -(2 ^ 62) ≤ hi) (h4 : hi < 2 ^ 62)
    (q : R (Itr lo (hi - lo).toNat) H) : wpAny (model X.prog X.w) X.A (pyIter (.ref s.heap.objs.size)) (PIE X pins σ tg R) E { s with heap := s.heap.push { cls := .type "range", data := .fields #[.int lo t, .int hi u, .int 1 v] }, toks := tk } := by
  refine wpAny_pyIter_range (IsRange.new ..) (small_one h1 h2 h3 h4) ?_
  have I1 : Inv X pins σ H { s with heap := s.heap.push { cls := .type "range", data := .fields #[.int lo t, .int hi u, .int 1 v] }, toks := tk } := I.kept fun b o e => Heap.get?_push_of_some _ e
  refine ⟨(s.heap.push { cls := .type "range", data := .fields #[.int lo t, .int hi u, .int 1 v] }).objs.size, [(s.heap.push { cls := .type "range", data := .fields #[.int lo t, .int hi u, .int 1 v] }).objs.size], _, _, H, rfl,
    I1.kept (t' := tk) fun b o e => Heap.get?_push_of_some _ e, turn_range _ lo (hi - lo).toNat, ?_, fun b hb => ?_, q⟩
  · have e1 : lo + ((0 : Nat) : Int) * 1 = lo := by simp
    have e2 : (((hi - lo).toNat : Nat) : Int) - ((0 : Nat) : Int) = Builtin.Range.rangeSize lo hi 1 := by rw [rangeSize_one]; split <;> omega
    show IsRangeIter _ _ (lo + ((0 : Nat) : Int) * 1) ((((hi - lo).toNat : Nat) : Int) - ((0 : Nat) : Int)) 1
    rw [e1, e2]
    exact Heap.get?_push_size _ rfl
  · have e : b = (s.heap.push { cls := .type "range", data := .fields #[.int lo t, .int hi u, .int 1 v] }).objs.size := by simpa using hb
    subst e
    exact I1.fpOk (Nat.le_refl _) (I1.hok.fresh (Nat.le_refl _))
def iRng1 (ta : TA) : TI := fun σ H R => ta σ H fun vs H1 => ∃ j : Int, vs = [.int j] ∧ -(2 ^ 62) ≤ j ∧ j < 2 ^ 62 ∧ R (Itr 0 j.toNat) H1
theorem pi_range1 {a : Expr} {ta : TA} {p pos : Pos} (hg : Gl X "range") (hm : X.mg "range" = none) (ha : PA X [a] ta) (hs : starEach [a] X.env = [(false, eval a X.env)] := by rfl) : PI X tg (.Call (.Name "range" p) [a] [] pos) (iRng1 ta) := by
  intro pins s σ H R I h
  refine Call_ (ld_blt I hg hm boot_range (PyProof.Rows.callWith_type1 (thn (ha pos pins s σ H _ I h) fun us s1 ⟨vs, H1, I1, r1, q1⟩ => ?_) hs rfl))
  obtain ⟨j, e, q1, q2, q⟩ := q1
  subst e
  cases r1 with
  | cons r rr =>
    cases rr
    obtain ⟨t, rfl⟩ := r
    exact call_range_1 (range_it I1 (by omega) (by omega) q1 q2 (by simpa using q))
/-! ### for -/
/-- W: the invariant by the turn and a measure; N: what the body is to reach -/
def tFor (wi : TI) (g : TG) (tb : TS) : TS := fun D σ H => wi σ H fun J H1 => ∃ W : Nat → Nat → St → Hp → Prop, (∃ m, W 0 m σ H1) ∧ ∀ i m σ H, W i m σ H →
  (J.stop i H ∧ D.nx σ H) ∨ (J.go i H ∧ ∃ N : St → Hp → Prop, (∀ σ' H', N σ' H' → ∃ m', m' < m ∧ W (i + 1) m' σ' H') ∧ ∀ x H', J.yld i H x H' → g x σ H' fun σ2 H2 => tb { D with nx := N, ct := N, bk := D.nx } σ2 H2)
/-- the records at fp as they stand -/
def pinsAt (fp : List Addr) (h : Heap) : List (Addr × Obj) := fp.filterMap fun b => (h.get? b).map fun o => (b, o)
theorem mem_pinsAt {fp : List Addr} {h : Heap} {b : Addr} {o : Obj} (hb : b ∈ fp) (e : h.get? b = some o) : (b, o) ∈ pinsAt fp h := List.mem_filterMap.mpr ⟨b, hb, by rw [e]; rfl⟩
theorem of_pinsAt {fp : List Addr} {h : Heap} {p : Addr × Obj} (hp : p ∈ pinsAt fp h) : p.1 ∈ fp ∧ h.get? p.1 = some p.2 := by
  obtain ⟨b, hb, e⟩ := List.mem_filterMap.mp hp
  cases q : h.get? b with
  | none => rw [q] at e; cases e
  | some o =>
    rw [q] at e
    have e' : (b, o) = p := Option.some.inj e
    subst e'
    exact ⟨hb, q⟩
theorem Inv.pinned {pins : List (Addr × Obj)} {σ : St} {H : Hp} {s : Shared} {fp : List Addr} (I : Inv X pins σ H s) (hf : ∀ b ∈ fp, FpOk X pins H b) (ho : ∀ b ∈ fp, ∃ o, s.heap.get? b = some o ∧ ∀ v, o.data ≠ .cell v) : Inv X (pins ++ pinsAt fp s.heap) σ H s :=
  I.pins_of fun p hp => (List.mem_append.mp hp).elim (fun z => I.pin p (List.mem_append_right _ z)) fun z => by
    obtain ⟨hb, e⟩ := of_pinsAt z
    obtain ⟨f0, f1, f2, _⟩ := hf p.1 hb
    obtain ⟨o, e', d⟩ := ho p.1 hb
    rw [e] at e'; cases e'
    exact ⟨e, f0, f1, f2, d⟩
theorem Inv.unpinned {pins pl : List (Addr × Obj)} {σ : St} {H : Hp} {s : Shared} (I : Inv X (pins ++ pl) σ H s) : Inv X pins σ H s := I.pins_of fun p hp => I.pin p (List.mem_append_right _ (List.mem_append_left _ hp))
theorem ps_for {iter : Expr} {body : List Stmt} {wi : TI} {g : TG} {tb : TS} {pos : Pos} (hp : PassesOwn (model X.prog X.w) X.A X.env X.xe) (hc : X.calm = true) (hi : PI X tg iter wi) (hg : PG X tg g) (hb : PSs X body tb)
    (hs : ∀ x, foldedSetIterable iter X.env x = pure x := by intro _; rfl) : PS X (.For tg iter body [] pos) (tFor wi g tb) := by
  intro pins s σ H D I h
  refine wpAny_For (thn (hi pins s σ H _ I h) fun v s1 h1 => thn h1 fun itv s2 h2 => ?_) hs
  obtain ⟨it, fp, tn, J, H2, e, I2, T, st2, f2, W, ⟨m0, w0⟩, turn⟩ := h2
  subst e
  -- what stays true of the iterator's objects through the loop
  have stat : ∀ {H' : Hp}, (∀ b ∈ fp, H' b = none) → ∀ b ∈ fp, FpOk X pins H' b := fun hn b hb => ⟨hn b hb, (f2 b hb).2⟩
  refine codeAny_forLoop_any (fun n s' => ∃ i σ' H', Inv X pins σ' H' s' ∧ tn i s'.heap ∧ (∀ b ∈ fp, H' b = none) ∧ W i n σ' H') ?_ m0 ⟨0, σ, H2, I2, st2, fun b hb => (f2 b hb).1, w0⟩
  rintro n s3 ⟨i, σ3, H3, I3, st3, fr3, w3⟩
  rcases turn i n σ3 H3 w3 with ⟨stop, qn⟩ | ⟨go, N, hN, step⟩
  · refine wpAny_passesOwn hp (thn (T.done X rfl rfl rfl hc i pins s3 σ3 H3 X.xe I3 (stat fr3) st3 stop) fun r s4 ⟨hr, I4⟩ => ?_)
    subst hr
    exact wpAny_execs_nil ⟨σ3, H3, I4, qn⟩
  · refine wpAny_passesOwn hp (thn (T.item X rfl rfl rfl hc i pins s3 σ3 H3 X.xe I3 (stat fr3) st3 go) fun r s4 ⟨u, hr, h4⟩ => ?_)
    subst hr
    refine wpAny_passesOwn hp (thn h4 fun _ s5 ⟨x, H5, I5, r5, y5, st5, fr5⟩ => ?_)
    have I5' := I5.pinned (stat fr5) (T.obj _ _ st5)
    refine wpAny_passesOwn hp (thn (hg _ s5 σ3 H5 x u _ I5' r5 (step x H5 y5)) fun _ s6 ⟨σ6, H6, I6, q6⟩ => ?_)
    refine wpAny_passesOwn hp (thn (hb _ s6 σ6 H6 _ I6 q6) fun f s7 q7 => ?_)
    have again : ∀ {σ7 : St} {H7 : Hp}, Inv X (pins ++ pinsAt fp s5.heap) σ7 H7 s7 → N σ7 H7 → ∃ m, m < n ∧ ∃ i σ' H', Inv X pins σ' H' s7 ∧ tn i s7.heap ∧ (∀ b ∈ fp, H' b = none) ∧ W i m σ' H' := fun {σ7 H7} I7 n7 => by
      obtain ⟨m', hm, w7⟩ := hN σ7 H7 n7
      refine ⟨m', hm, i + 1, σ7, H7, I7.unpinned, T.keep _ _ _ st5 fun b hb o e => (I7.pin (b, o) (List.mem_append_right _ (List.mem_append_right _ (mem_pinsAt hb e)))).1, fun b hb => ?_, w7⟩
      obtain ⟨o, e, d⟩ := T.obj _ _ st5 b hb
      exact (I7.pin (b, o) (List.mem_append_right _ (List.mem_append_right _ (mem_pinsAt hb e)))).2.1
    cases f with
    | next => obtain ⟨σ7, H7, I7, n7⟩ := q7; exact again I7 n7
    | cont => obtain ⟨σ7, H7, I7, n7⟩ := q7; exact again I7 n7
    | brk => obtain ⟨σ7, H7, I7, q7⟩ := q7; exact ⟨σ7, H7, I7.unpinned, q7⟩
    | ret v => obtain ⟨x7, σ7, H7, I7, r7, q7⟩ := q7; exact ⟨x7, σ7, H7, I7.unpinned, r7, q7⟩
end

/-! ### the forms one uses -/
end L2

namespace L2
open PySem PySem.Spec PyProof.Rows

abbrev R2 := V → V → Hp → VK → Prop
/-- a two-place operation on values: f is binaryOp op, inplaceOp op or compareOp op -/
def OpR (X : Cx) (f : Value → Value → Sem Value) (r : R2) : Prop :=
  ∀ (pins : List (Addr × Obj)) (s : Shared) (σ : St) (H : Hp) (x y : V) (v u : Value) (Q : VK), Inv X pins σ H s → RelV x v → RelV y u → r x y H Q →
    wpAny (model X.prog X.w) X.A (f v u) (EP X pins σ Q) X.xe s
/-- a call of a value that is known (a builtin, a type) with values -/
def CallR (X : Cx) (f : Value) (r : List V → Hp → VK → Prop) : Prop :=
  ∀ (pins : List (Addr × Obj)) (s : Shared) (σ : St) (H : Hp) (xs : List V) (us : List Value) (Q : VK), Inv X pins σ H s → Vals xs us → r xs H Q →
    wpAny (model X.prog X.w) X.A (call f us) (EP X pins σ Q) X.xe s
def tOp (r : R2) (ta tb : TE) : TE := fun σ H Q => ta σ H fun x H1 => tb σ H1 fun y H2 => r x y H2 Q
/-- ints in, under C, and a value out -/
def rI (C : Int → Int → Prop) (g : Int → Int → V) : R2 := fun x y H Q => ∃ i j, x = .int i ∧ y = .int j ∧ C i j ∧ Q (g i j) H
def rI0 (g : Int → Int → V) : R2 := fun x y H Q => ∃ i j, x = .int i ∧ y = .int j ∧ Q (g i j) H
section
variable {X : Cx} {a b c : Expr} {ta tb tc : TE} {pos : Pos}

theorem binT (ha : PE X a ta) (hb : PE X b tb) {pins : List (Addr × Obj)} {s : Shared} {σ : St} {H : Hp} {R : V → V → Hp → Prop} (I : Inv X pins σ H s)
    (h : ta σ H fun x H1 => tb σ H1 fun y H2 => R x y H2) {Q : Value → Shared → Prop} {f : Value → Value → Sem Value}
    (hf : ∀ v u s2 x y H2, Inv X pins σ H2 s2 → RelV x v → RelV y u → R x y H2 → wpAny (model X.prog X.w) X.A (f v u) Q X.xe s2) :
    wpAny (model X.prog X.w) X.A (eval a X.env) (fun v s₁ => wpAny (model X.prog X.w) X.A (eval b X.env) (fun u s₂ => wpAny (model X.prog X.w) X.A (f v u) Q X.xe s₂) X.xe s₁) X.xe s := by
  refine thn (ha pins s σ H _ I h) fun v s1 ⟨x, H1, I1, r1, q1⟩ => ?_
  refine thn (hb pins s1 σ H1 _ I1 q1) fun u s2 ⟨y, H2, I2, r2, q2⟩ => ?_
  exact hf v u s2 x y H2 I2 r1 r2 q2

theorem pe_op {op : Operator} {r : R2} (ho : OpR X (binaryOp op) r) (ha : PE X a ta) (hb : PE X b tb) : PE X (.BinOp a op b pos) (tOp r ta tb) := by
  intro pins s σ H Q I h
  exact wpAny_BinOp (binT ha hb I h fun v u s2 x y H2 I2 rx ry q => ho pins s2 σ H2 x y v u Q I2 rx ry q)
/-! ### ints -/
theorem opI {f : Value → Value → Sem Value} {C : Int → Int → Prop} {g : Int → Int → Int}
    (rule : ∀ (i j : Int) (t u : Tok) (s : Shared) (Q : Value → Shared → Prop) (E : Value → Shared → Prop), C i j → Q (.int (g i j) s.toks) { s with toks := s.toks + 1 } → wpAny (model X.prog X.w) X.A (f (.int i t) (.int j u)) Q E s) :
    OpR X f (rI C fun i j => .int (g i j)) := by
  intro pins s σ H x y v u Q I rx ry h
  obtain ⟨i, j, rfl, rfl, hc, q⟩ := h
  obtain ⟨t, rfl⟩ := rx
  obtain ⟨t', rfl⟩ := ry
  exact rule i j t t' s _ _ hc ⟨.int (g i j), H, I.tok _, ⟨_, rfl⟩, q⟩
theorem opI0 {f : Value → Value → Sem Value} {g : Int → Int → Int}
    (rule : ∀ (i j : Int) (t u : Tok) (s : Shared) (Q : Value → Shared → Prop) (E : Value → Shared → Prop), Q (.int (g i j) s.toks) { s with toks := s.toks + 1 } → wpAny (model X.prog X.w) X.A (f (.int i t) (.int j u)) Q E s) :
    OpR X f (rI0 fun i j => .int (g i j)) := by
  intro pins s σ H x y v u Q I rx ry h
  obtain ⟨i, j, rfl, rfl, q⟩ := h
  obtain ⟨t, rfl⟩ := rx
  obtain ⟨t', rfl⟩ := ry
  exact rule i j t t' s _ _ ⟨.int (g i j), H, I.tok _, ⟨_, rfl⟩, q⟩
theorem opB0 {f : Value → Value → Sem Value} {g : Int → Int → Bool}
    (rule : ∀ (i j : Int) (t u : Tok) (s : Shared) (Q : Value → Shared → Prop) (E : Value → Shared → Prop), Q (.bool (g i j)) s → wpAny (model X.prog X.w) X.A (f (.int i t) (.int j u)) Q E s) :
    OpR X f (rI0 fun i j => .bl (g i j)) := by
  intro pins s σ H x y v u Q I rx ry h
  obtain ⟨i, j, rfl, rfl, q⟩ := h
  obtain ⟨t, rfl⟩ := rx
  obtain ⟨t', rfl⟩ := ry
  exact rule i j t t' s _ _ ⟨.bl (g i j), H, I, rfl, q⟩

def CPow (i j : Int) : Prop := 0 ≤ j ∧ j ≤ 1000000 ∧ i.natAbs < 2 ^ 64
def CMul (i j : Int) : Prop := (-(2 ^ 64) < i ∧ i < 2 ^ 64) ∨ (-(2 ^ 64) < j ∧ j < 2 ^ 64)
theorem CMul.ok {i j : Int} (h : CMul i j) : IntMulOk i j := by
  rcases h with ⟨h1, h2⟩ | ⟨h1, h2⟩
  · exact .of_left (intBits_le_64 h1 h2)
  · exact .of_right (intBits_le_64 h1 h2)
theorem op_add : OpR X (binaryOp .Add) (rI0 fun i j => .int (i + j)) := opI0 fun _ _ _ _ _ _ _ q => add_int q
theorem op_sub : OpR X (binaryOp .Sub) (rI0 fun i j => .int (i - j)) := opI0 fun _ _ _ _ _ _ _ q => sub_int q
theorem op_modN : OpR X (binaryOp .Mod) (rI (fun _ j => j ≠ 0) fun i j => .int (i.fmod j)) := opI fun _ _ _ _ _ _ _ hc q => mod_int' hc q
theorem op_pow : OpR X (binaryOp .Pow) (rI CPow fun i j => .int (i ^ j.toNat)) := opI fun _ _ _ _ _ _ _ hc q => pow_int_small hc.1 hc.2.1 hc.2.2 q
/-! ### bools among ints: n += (a < b) -/
end

/-! ### comparisons -/
section
variable {X : Cx} {a b c : Expr} {ta tb tc : TE} {pos : Pos}
theorem fin_bl {pins : List (Addr × Obj)} {σ : St} {H : Hp} {s : Shared} {Q : VK} {k k' : Bool} (I : Inv X pins σ H s) (q : Q (.bl k) H) (e : k = k') : EP X pins σ Q (.bool k') s := by
  subst e
  exact ⟨.bl k, H, I, rfl, q⟩
theorem op_lt : OpR X (compareOp .Lt) (rI0 fun i j => .bl (decide (i < j))) := opB0 fun _ _ _ _ _ _ _ q => lt_int q
theorem op_le : OpR X (compareOp .LtE) (rI0 fun i j => .bl (decide (i ≤ j))) := opB0 fun _ _ _ _ _ _ _ q => le_int q
theorem op_gt : OpR X (compareOp .Gt) (rI0 fun i j => .bl (decide (j < i))) := opB0 fun _ _ _ _ _ _ _ q => gt_int q
theorem op_ge : OpR X (compareOp .GtE) (rI0 fun i j => .bl (decide (j ≤ i))) := opB0 fun _ _ _ _ _ _ _ q => ge_int q
/-- is None, is not None: the right side a value none -/
theorem op_isN : OpR X (compareOp .Is) (fun x y H Q => y = .non ∧ Q (.bl (decide (x = .non))) H) := by
  intro pins s σ H x y v u Q I rx ry h
  obtain ⟨rfl, q⟩ := h
  cases ry
  refine is_none_gen (fin_bl I q ?_)
  cases x <;> first
    | (cases rx; rfl)
    | (obtain ⟨t, rfl⟩ := rx; rfl)
/-- two rules for one operation: by cases -/
theorem OpR.or {f : Value → Value → Sem Value} {r r' : R2} (h : OpR X f r) (h' : OpR X f r') : OpR X f (fun x y H Q => r x y H Q ∨ r' x y H Q) := by
  intro pins s σ H x y v u Q I rx ry q
  rcases q with q | q
  · exact h pins s σ H x y v u Q I rx ry q
  · exact h' pins s σ H x y v u Q I rx ry q

theorem nomark (b : Expr) {op : CmpOp} (h : op ≠ .In := by decide) (h2 : op ≠ .NotIn := by decide) : behindInMarks op b = false := by
  have e1 : (op == CmpOp.In) = false := by cases op <;> first | rfl | exact absurd rfl h
  have e2 : (op == CmpOp.NotIn) = false := by cases op <;> first | rfl | exact absurd rfl h2
  cases b <;> simp [behindInMarks, e1, e2]
/-- a comparison as a value; hm: nomark b, or (for in, not in) by with_unfolding_all rfl -/
theorem pe_cmpR {op : CmpOp} {r : R2} (ho : OpR X (compareOp op) r) (ha : PE X a ta) (hb : PE X b tb) (hm : behindInMarks op b = false) : PE X (.Compare a [op] [b] pos) (tOp r ta tb) := by
  intro pins s σ H Q I h
  exact wpAny_Compare1 (binT ha hb I h fun v u s2 x y H2 I2 rx ry q => ho pins s2 σ H2 x y v u Q I2 rx ry q) hm
/-- a reading of a value as a test -/
def tTest (t : TE) : TT := fun σ H Q => t σ H fun x H' => ∃ k, x = .bl k ∧ Q k H'
theorem pt_cmpR {op : CmpOp} {r : R2} (ho : OpR X (compareOp op) r) (ha : PE X a ta) (hb : PE X b tb) (hm : behindInMarks op b = false) : PT X (.Compare a [op] [b] pos) (tTest (tOp r ta tb)) := by
  intro pins s σ H Q I h
  refine wpAny_isTrue_Compare1 (thn (ha pins s σ H _ I h) fun v s1 ⟨x, H1, I1, r1, q1⟩ => thn (hb pins s1 σ H1 _ I1 q1) fun u s2 ⟨y, H2, I2, r2, q2⟩ =>
    thn (ho pins s2 σ H2 x y v u _ I2 r1 r2 q2) fun c s3 ⟨z, H3, I3, r3, k, e, q3⟩ => ?_) hm
  subst e
  cases r3
  exact wpAny_truthy_bool ⟨H3, I3, q3⟩
/-- a op1 b op2 c -/
def tChain (r r' : R2) (ta tb tc : TE) : TE := fun σ H Q => ta σ H fun x H1 => tb σ H1 fun y H2 => r x y H2 fun z H3 => ∃ k, z = .bl k ∧
  (if k = true then tc σ H3 fun w' H4 => r' y w' H4 Q else Q (.bl false) H3)
theorem pt_chain {op op' : CmpOp} {r r' : R2} (ho : OpR X (compareOp op) r) (ho' : OpR X (compareOp op') r') (ha : PE X a ta) (hb : PE X b tb) (hc : PE X c tc)
    (hm : lastMarks [op, op'] [b, c] = false := by with_unfolding_all rfl) : PT X (.Compare a [op, op'] [b, c] pos) (tTest (tChain r r' ta tb tc)) := by
  intro pins s σ H Q I h
  refine isTrue_chain (thn (ha pins s σ H _ I h) fun v s1 ⟨x, H1, I1, r1, q1⟩ => test_link (thn (hb pins s1 σ H1 _ I1 q1) fun u s2 ⟨y, H2, I2, r2, q2⟩ =>
    thn (ho pins s2 σ H2 x y v u _ I2 r1 r2 q2) fun d s3 ⟨z, H3, I3, r3, k, e, q3⟩ => ?_)) hm
  subst e
  cases r3
  refine wpAny_truthy_bool ?_
  cases k with
  | false =>
    obtain ⟨k', e', q'⟩ := q3
    cases e'
    exact ite_ff ⟨H3, I3, q'⟩
  | true =>
    refine ite_tt (test_last (thn (hc pins s3 σ H3 _ I3 q3) fun w' s4 ⟨z', H4, I4, r4, q4⟩ => thn (ho' pins s4 σ H4 y z' u w' _ I4 r2 r4 q4) fun d' s5 ⟨z2, H5, I5, r5, k2, e2, q5⟩ => ?_))
    subst e2
    cases r5
    exact wpAny_truthy_bool ⟨H5, I5, q5⟩

/-! ### truth -/
theorem line63 : (sizeLine : Nat) < 2 ^ 63 := by rw [sizeLine_eq]; decide
/-! ### strs and bytes -/
theorem op_add_str : OpR X (binaryOp .Add) (fun x y H Q => ∃ i j, x = .str i ∧ y = .str j ∧ i.length + j.length ≤ sizeLine ∧ Q (.str (i ++ j)) H) := by
  intro pins s σ H x y v u Q I rx ry h
  obtain ⟨i, j, rfl, rfl, hz, q⟩ := h
  obtain ⟨t, rfl⟩ := rx
  obtain ⟨t', rfl⟩ := ry
  exact add_str (fun t' tk => ⟨.str (i ++ j), H, I.tok _, ⟨_, rfl⟩, q⟩) hz
/-! ### scalar builtins, by CallR -/
theorem vals1 {x : V} {us : List Value} (r : Vals [x] us) : ∃ u, us = [u] ∧ RelV x u := by
  cases r with
  | cons r1 r2 => cases r2; exact ⟨_, rfl, r1⟩
theorem vals2 {x y : V} {us : List Value} (r : Vals [x, y] us) : ∃ u w', us = [u, w'] ∧ RelV x u ∧ RelV y w' := by
  cases r with
  | cons r1 r2 =>
    cases r2 with
    | cons r3 r4 => cases r4; exact ⟨_, _, rfl, r1, r3⟩
theorem call_abs : CallR X (.builtin "abs") (fun xs H Q => ∃ i, xs = [.int i] ∧ Q (.int (if i < 0 then -i else i)) H) := by
  intro pins s σ H xs us Q I r h
  obtain ⟨i, rfl, q⟩ := h
  obtain ⟨u, rfl, t, rfl⟩ := vals1 r
  exact call_abs_int fun u tk => ⟨.int (if i < 0 then -i else i), H, I.tok _, ⟨_, rfl⟩, q⟩
theorem call_int1 : CallR X (.type "int") (fun xs H Q => (∃ i, xs = [.int i] ∧ Q (.int i) H) ∨ ∃ k, xs = [.bl k] ∧ Q (.int (if k then 1 else 0)) H) := by
  intro pins s σ H xs us Q I r h
  rcases h with ⟨i, rfl, q⟩ | ⟨k, rfl, q⟩
  · obtain ⟨u, rfl, t, rfl⟩ := vals1 r
    exact call_int_int ⟨.int i, H, I, ⟨_, rfl⟩, q⟩
  · obtain ⟨u, rfl, r1⟩ := vals1 r
    cases r1
    exact call_int_bool ⟨.int (if k then 1 else 0), H, I.tok _, ⟨_, rfl⟩, q⟩
end
end L2

namespace L2
open PySem PySem.Spec PyProof.Rows

/-! ### an instance, its attributes a map -/
structure ObjM (h : Heap) (x dx C : Addr) (mA : Str → Option Value) : Prop where
  obj : h.get? x = some (PySem.W.instObj C dx)
  ns : h.Ns1 dx mA
  ne : dx ≠ x

section
variable {prog : Program} {w : World} {A : Around} {E : Value → Shared → Prop} {s : Shared} {K : PySem.W.Frag} {x dx C f : Addr} {mA : Str → Option Value} {name : Str} {v : Value}

end

/-! ### the attributes as a list of pairs -/
theorem RelO.none_of {o : Option Value} (r : RelO none o) : o = none := by
  cases o with
  | none => rfl
  | some u => exact (show False from r).elim
section
variable {P : Program} {w : World} {H H' : Hp} {h h' : Heap} {a C dx : Addr} {fs fs' : List (Str × V)}
end

/-! ### what of the text a class must have -/
structure Cls (K : PySem.W.Frag) (C : Addr) : Prop where
  pg : PySem.W.plainGet K C Str.empty = true
  hd : PySem.W.hasDictIn K C = true
  po : PySem.W.plainOver K C = true
  sa : PySem.W.findIn K (.ref C) "__setattr__" = some (some (.builtin "object.__setattr__"))
theorem Cls.get {K : PySem.W.Frag} {C : Addr} (c : Cls K C) (f : Str) : PySem.W.plainGet K C f = true := c.pg
/-- no class of it has the name -/
def NoAttr (K : PySem.W.Frag) (C : Addr) (f : Str) : Prop := PySem.W.findIn K (.ref C) f = some none
theorem NoAttr.taker {K : PySem.W.Frag} {C : Addr} {f : Str} (n : NoAttr K C f) : PySem.W.takerIn K C f = some none := by
  unfold PySem.W.takerIn
  rw [show PySem.W.findIn K (.ref C) f = some none from n]
  rfl
/-- a constant of the class -/
structure Con (K : PySem.W.Frag) (C : Addr) (f : Str) (v : V) (u : Value) : Prop where
  at_ : PySem.W.findIn K (.ref C) f = some (some u)
  rel : RelV v u
  get : PySem.W.specialIn K u "__get__" = some none
  cp : PySem.W.copiedNames.contains f = false
/-- a method: a plain def of the class or of one above it -/
structure Meth (K : PySem.W.Frag) (C : Addr) (m : Str) (f : Addr) : Prop where
  at_ : PySem.W.findIn K (.ref C) m = some (some (.ref f))
  fn : PySem.W.isFn K (.ref f) = true
  kp : PySem.W.keepIn K (.ref f) = true

section
variable {X : Cx} {pins : List (Addr × Obj)} {σ : St} {H : Hp} {s : Shared} {a C dx : Addr} {fs : List (Str × V)} {f : Str} {v : V} {A : Around} {E : Value → Shared → Prop}

/-- a new instance, tracked, without attributes -/
theorem Inv.made (I : Inv X pins σ H s) : Inv X pins σ (upd (upd H s.heap.objs.size (.own (s.heap.objs.size + 1))) (s.heap.objs.size + 1) (.ins C s.heap.objs.size []))
    { s with heap := (s.heap.push PySem.W.emptyDict).push (PySem.W.instObj C s.heap.objs.size) } := by
  have e1 : (s.heap.push PySem.W.emptyDict).get? s.heap.objs.size = some PySem.W.emptyDict := Heap.get?_push_size s.heap rfl
  have e2 : ((s.heap.push PySem.W.emptyDict).push (PySem.W.instObj C s.heap.objs.size)).get? (s.heap.objs.size + 1) = some (PySem.W.instObj C s.heap.objs.size) := by
    have := Heap.get?_push_size (s.heap.push PySem.W.emptyDict) (o := PySem.W.instObj C s.heap.objs.size) rfl
    rwa [Heap.size_push] at this
  have e3 : (s.heap.push PySem.W.emptyDict).Ns s.heap.objs.size (fun _ => none) := ⟨PySem.W.emptyDict, #[], _, e1, rfl, (fun e he => absurd he (by simp)), fun _ => rfl⟩
  have I1 := I.laid (a := s.heap.objs.size) (o := .own (s.heap.objs.size + 1)) (h' := s.heap.push PySem.W.emptyDict) (t' := s.toks) (fun b u q => Heap.get?_push_of_some _ q) (Nat.le_refl _) ⟨_, e1⟩
  refine I1.laid (a := s.heap.objs.size + 1) (o := .ins C s.heap.objs.size []) (t' := s.toks) (fun b u q => Heap.get?_push_of_some _ q) (Nat.le_of_eq (Heap.size_push _ _)) ?_
  have ne : s.heap.objs.size ≠ s.heap.objs.size + 1 := Nat.ne_of_lt (Nat.lt_succ_self _)
  refine ⟨by rw [upd_ne ne, upd_same], Nat.zero_le _, ne, e2, fun _ => none, (Heap.Ns1.of_empty e3).at fun o q => Heap.get?_push_of_some _ q, fun _ => True.intro, fun y hy => absurd rfl hy⟩

end

/-! ### readings and rules -/
section
variable {X : Cx} {o e value : Expr} {f : Str} {pos pos' tpos : Pos} {ta tv : TE}
end

/-! ### isinstance -/
section
variable {X : Cx} {pins : List (Addr × Obj)} {σ : St} {H : Hp} {s : Shared} {A : Around} {E : Value → Shared → Prop} {Q : Value → Shared → Prop} {c : Value} {b : Bool}
/-- the type of a value, as the fragment's deciders take it; for an instance its class -/
inductive TyOf (K : PySem.W.Frag) (H : Hp) : V → Value → Prop where
  | non : TyOf K H .non (.type "NoneType")
  | bl (x : Bool) : TyOf K H (.bl x) (.type "bool")
  | int (i : Int) : TyOf K H (.int i) (.type "int")
  | str (x : Str) : TyOf K H (.str x) (.type "str")
  | flt (x : UInt64) : TyOf K H (.flt x) (.type "float")
  | lst {a : Addr} {xs : List V} (e : H a = some (.lst xs)) : TyOf K H (.ref a) (.type "list")
  | frz {a : Addr} {o : Obj} {xs : List V} (e : H a = some (.frz o (.lst xs))) : TyOf K H (.ref a) (.type "list")
  | tup {a : Addr} {xs : List V} (e : H a = some (.tup xs)) : TyOf K H (.ref a) (.type "tuple")
  | dK {a : Addr} {kvs : List (Key × V)} (e : H a = some (.dK kvs)) : TyOf K H (.ref a) (.type "dict")
  | dT {a : Addr} {kvs : List (List Key × V)} (e : H a = some (.dT kvs)) : TyOf K H (.ref a) (.type "dict")
  | ins {a C dx : Addr} {fs : List (Str × V)} (e : H a = some (.ins C dx fs)) (cl : Cls K C) (ha : PySem.W.findIn K (.ref C) "__class__" = some (some (.builtin "object.__class__")))
      (hn : PySem.W.specialIn K (.builtin "object.__class__") "__get__" = some (some (.builtin "getset_descriptor.__get__"))) (htk : PySem.W.takesIn K (.builtin "object.__class__") = some true)
      (hm : PySem.W.mroIn K C (.type "object") = some true) : TyOf K H (.ref a) (.ref C)
end
end L2

namespace L2
open PySem PySem.Spec PyProof.Rows

/-! ### room -/
structure Room (k : Nat) (A : Around) : Prop where
  hd : A.handled = none
  dp : A.depth + 3 * k + 5 < recursionLimit
  un : A.units + 16 * k + 200 < cLine
theorem Room.mono {j k : Nat} {A : Around} (r : Room k A) (h : j ≤ k) : Room j A := ⟨r.hd, by have := r.dp; omega, by have := r.un; omega⟩
theorem Room.deeper {k : Nat} {A : Around} (r : Room (k + 1) A) (env : Env) : Room k (A.deeper env) :=
  ⟨r.hd, by have := r.dp; show A.depth + 1 + 3 * k + 5 < _; omega, by have := r.un; show A.units + 3 + 16 * k + 200 < _; omega⟩
theorem Room.in1 {k : Nat} {A : Around} (r : Room (k + 1) A) : Room k A.in1 :=
  ⟨r.hd, by have := r.dp; show A.depth + 3 * k + 5 < _; omega, by have := r.un; show A.units + 1 + 16 * k + 200 < _; omega⟩
theorem make_depth {A : Around} {C : Addr} {us : List Value} {kw : List (Str × Value)} : (A.under (.builtin "type.__call__" ⟨.ref C :: us, kw⟩)).depth = A.depth + 1 := by
  first | rfl | simp [Around.under, Code.weight, Code.isCreation, Code.isGuard, Code.isCaller, Code.frames, Code.isFrame, guardIds]
theorem make_units {A : Around} {C : Addr} {us : List Value} {kw : List (Str × Value)} : (A.under (.builtin "type.__call__" ⟨.ref C :: us, kw⟩)).units = A.units + 1 := by
  first | rfl | simp [Around.under, Code.cUnits, Code.frames, Code.isFrame]
theorem Room.make {k : Nat} {A : Around} (r : Room (k + 1) A) (C : Addr) (us : List Value) (kw : List (Str × Value)) : Room k (A.under (.builtin "type.__call__" ⟨.ref C :: us, kw⟩)) :=
  ⟨r.hd, by have := r.dp; rw [make_depth]; omega, by have := r.un; rw [make_units]; omega⟩
theorem Room.depth {k : Nat} {A : Around} (r : Room k A) : A.depth < recursionLimit := by have := r.dp; omega
theorem Room.units {k : Nat} {A : Around} (r : Room k A) : A.units + 64 < cLine := by have := r.un; omega
/-! ### argument lists and displays -/
def tNil : TA := fun _ H Q => Q [] H
def tCons (ta : TE) (tr : TA) : TA := fun σ H Q => ta σ H fun x H1 => tr σ H1 fun xs H2 => Q (x :: xs) H2
section
variable {X : Cx} {e : Expr} {es : List Expr} {te : TE} {t : TA} {pos : Pos}
theorem pa_nil : PA X [] tNil := fun _ _ _ _ H Q I h => Calls.spliced_nil ⟨[], H, I, .nil, h⟩
theorem pa_cons (ha : PE X e te) (hr : PA X es t) (hs : starEach (e :: es) X.env = (false, eval e X.env) :: starEach es X.env := by rfl) : PA X (e :: es) (tCons te t) := by
  intro pos pins s σ H Q I h
  rw [hs]
  show wpAny _ _ (spliced ((false, eval e X.env) :: backTo pos (starEach es X.env))) _ _ s
  refine Calls.spliced_cons (thn (ha pins s σ H _ I h) fun u s1 ⟨x, H1, I1, r1, q1⟩ => ?_)
  exact thn (hr pos pins s1 σ H1 _ I1 q1) fun us s2 ⟨xs, H2, I2, r2, q2⟩ => ⟨x :: xs, H2, I2, .cons r1 r2, q2⟩

/-- a tuple, a list of written items -/
def tTup (t : TA) : TE := fun σ H Q => t σ H fun xs H1 => xs.length ≤ sizeLine ∧ ∀ p, H1 p = none → Q (.ref p) (upd H1 p (.tup xs))
def tLst (t : TA) : TE := fun σ H Q => t σ H fun xs H1 => xs.length ≤ sizeLine ∧ ∀ p, H1 p = none → Q (.ref p) (upd H1 p (.lst xs))
theorem pe_tup {x1} (h : PA X es t) : PE X (.Tuple es x1 pos) (tTup t) := by
  intro pins s σ H Q I hq
  refine wpAny_Tuple_spliced (thn (h pos pins s σ H _ I hq) fun us s1 ⟨xs, H1, I1, r, z, q⟩ => ⟨by rw [← r.length]; exact z, ?_⟩)
  have hf : H1 s1.heap.objs.size = none := I1.hok.fresh (Nat.le_refl _)
  refine ⟨.ref s1.heap.objs.size, upd H1 s1.heap.objs.size (.tup xs), I1.laid (t' := s1.toks) (fun b u e => Heap.get?_push_of_some _ e) (Nat.le_refl _) ?_, rfl, q _ hf⟩
  exact ⟨z, us, r, ⟨_, Heap.get?_push_size _ rfl, rfl, _, rfl⟩⟩
theorem pe_lst (h : PA X es t) : PE X (.List es pos) (tLst t) := by
  intro pins s σ H Q I hq
  refine wpAny_List_spliced (thn (h pos pins s σ H _ I hq) fun us s1 ⟨xs, H1, I1, r, z, q⟩ => ⟨by rw [← r.length]; exact z, ?_⟩)
  have hf : H1 s1.heap.objs.size = none := I1.hok.fresh (Nat.le_refl _)
  refine ⟨.ref s1.heap.objs.size, upd H1 s1.heap.objs.size (.lst xs), I1.laid (t' := s1.toks) (fun b u e => Heap.get?_push_of_some _ e) (Nat.le_refl _) ?_, rfl, q _ hf⟩
  exact ⟨z, us, 0, r, Heap.get?_push_size _ rfl⟩
end

/-! ### what a def promises -/
/-- a def's promise: the bound arguments in the parameters' order, the heap, the wanted end, the wanted exception -/
abbrev Sp := List V → Hp → VK → XK → Prop
/-- how an exception lies behind a call (file 08 gives it): the callers' frames, abstract heap and state ahead of the call, the wish, the exception, the state -/
abbrev CXT := List Env → Hp → Shared → XK → Value → Shared → Prop

/-- the state at a call -/
structure Env0 (P : Program) (w : World) (K : PySem.W.Frag) (mg : Str → Option Value) (base : Heap) (A : Around) (outer : List Env) (s : Shared) (H : Hp) : Prop where
  frames : A.frames = some outer
  mod : Mod K mg base
  bs : ∀ b o, base.get? b = some o → s.heap.get? b = some o ∧ H b = none
  bsz : base.objs.size ≤ s.heap.objs.size
  funs : s.heap.FunFrames base outer
  frf : ∀ b ∈ frs outer, H b = none
  hok : HOk P w H s.heap
  bare : AllBare s.gens
/-- a call's end -/
def CE (outer : List Env) (P : Program) (w : World) (H : Hp) (s : Shared) (Q : VK) (u : Value) (s' : Shared) : Prop :=
  ∃ v H', s'.os = s.os ∧ AllBare s'.gens ∧ Un (frs outer) [] H H' s.heap s'.heap ∧ HOk P w H' s'.heap ∧ RelV v u ∧ Q v H'
def CR (CX : CXT) (outer : List Env) (P : Program) (w : World) (H : Hp) (s : Shared) (Q : VK) (E : XK) (r : Result) (s' : Shared) : Prop :=
  match r with
  | .ok (.ret u) => CE outer P w H s Q u s'
  | .ok _ => False
  | .error e => CX outer H s E e s'
structure FnOk (P : Program) (w : World) (K : PySem.W.Frag) (mg : Str → Option Value) (base : Heap) (CX : CXT) (k : Nat) (f : Addr) (fd : FuncData) (ps : List Str) (sp : Sp) : Prop where
  len : ∀ vs H Q E, sp vs H Q E → vs.length = ps.length
  run : ∀ (A : Around) (outer : List Env) (s : Shared) (H : Hp) (args : Args) (us : List Value) (vs : List V) (Q : VK) (E : XK), Room k A → Env0 P w K mg base A outer s H → BindsTo s fd args (ps.zip us) → Vals vs us → sp vs H Q E →
    codeAny (model P w) A (.call (.ref f) args) (CR CX outer P w H s Q E) s
theorem FnOk.mono {P : Program} {w : World} {K : PySem.W.Frag} {mg : Str → Option Value} {base : Heap} {CX : CXT} {j k : Nat} {f : Addr} {fd : FuncData} {ps : List Str} {sp : Sp} (F : FnOk P w K mg base CX j f fd ps sp) (h : j ≤ k) :
    FnOk P w K mg base CX k f fd ps sp := ⟨F.len, fun A outer s H args us vs Q E hr => F.run A outer s H args us vs Q E (hr.mono h)⟩
theorem Env0.make {P : Program} {w : World} {K : PySem.W.Frag} {mg : Str → Option Value} {base : Heap} {A : Around} {outer : List Env} {s : Shared} {H : Hp} (e : Env0 P w K mg base A outer s H) (C : Addr) (us : List Value) (kw : List (Str × Value)) :
    Env0 P w K mg base (A.under (.builtin "type.__call__" ⟨.ref C :: us, kw⟩)) outer s H := ⟨by first | exact e.frames | (simpa [Around.under, Code.envs, Code.isFrame, pushEnvs] using e.frames), e.mod, e.bs, e.bsz, e.funs, e.frf, e.hok, e.bare⟩
theorem Env0.in1 {P : Program} {w : World} {K : PySem.W.Frag} {mg : Str → Option Value} {base : Heap} {A : Around} {outer : List Env} {s : Shared} {H : Hp} (e : Env0 P w K mg base A outer s H) :
    Env0 P w K mg base A.in1 outer s H := ⟨e.frames, e.mod, e.bs, e.bsz, e.funs, e.frf, e.hok, e.bare⟩

section
variable {X : Cx} {pins : List (Addr × Obj)} {σ : St} {H : Hp} {s s' : Shared}
/-- from a body: what a callee wants -/
theorem Inv.env0 (I : Inv X pins σ H s) : Env0 X.prog X.w X.K X.mg X.base X.A X.stack s H :=
  ⟨I.ok.frames, I.ok.mod, I.bs, Nat.le_trans I.ok.bsz I.sz, I.stack, I.stkFree, I.hok, I.bare⟩
/-- behind a call -/
theorem Inv.after {Q : VK} {u : Value} (I : Inv X pins σ H s) (h : CE X.stack X.prog X.w H s Q u s') : EP X pins σ Q u s' := by
  obtain ⟨v, H', os, bare, un, hok, r, q⟩ := h
  obtain ⟨hh, g, d, t, os'⟩ := s'
  obtain rfl : os' = s.os := os
  exact ⟨v, H', I.call (h' := hh) (g' := g) (d' := d) (t' := t) (ch := []) un hok bare (fun b z => absurd z (by simp)), r, q⟩
end

/-! ### calls -/
/-- f(..): the written arguments, then the defaults dvs; E: what is wanted of an exception -/
def tCall (sp : Sp) (dvs : List V) (E : XK) (t : TA) : TE := fun σ H Q => t σ H fun vs H1 => sp (vs ++ dvs) H1 Q E
/-- how the parameters are bound: us the positional arguments, kw the keywords' values by name, ds the defaults that fill up -/
def Binds (K : PySem.W.Frag) (fd : FuncData) (ps : List Str) (ds : List Value) : Prop :=
  ∀ (s : Shared) (us : List Value), K.In s.heap → (us ++ ds).length = ps.length → BindsTo s fd ⟨us, []⟩ (ps.zip (us ++ ds))
/-- every parameter is given -/
theorem Binds.all {K : PySem.W.Frag} {fd : FuncData} {ps : List Str} (h : ∀ us : List Value, us.length = ps.length → bindArgs fd ⟨us, []⟩ = pure (ps.zip us)) : Binds K fd ps [] := fun s us _ hl => by
  rw [List.append_nil] at hl ⊢
  exact .of_eq (h us hl)

/-- an exception of a callee reaches what this body wants of exceptions -/
def Passes (CX : CXT) (X : Cx) (E : XK) : Prop := ∀ (pins : List (Addr × Obj)) (σ : St) (H : Hp) (s : Shared) (e : Value) (s' : Shared), Inv X pins σ H s → CX X.stack H s E e s' → X.xe e s'

section
variable {X : Cx} {CX : CXT} {k : Nat} {f C : Addr} {fd : FuncData} {ps : List Str} {sp : Sp} {dvs : List V} {ds : List Value} {E : XK} {x m : Str} {p pos apos : Pos} {e o : Expr} {es : List Expr} {ta : TE} {t : TA}

/-- the callee runs -/
theorem run_fn {pins : List (Addr × Obj)} {σ : St} {H : Hp} {s : Shared} {Q : VK} {us : List Value} {vs : List V} (F : FnOk X.prog X.w X.K X.mg X.base CX k f fd ps sp) (hr : Room k X.A) (hb : Binds X.K fd ps ds) (hd : Vals dvs ds) (hx : Passes CX X E)
    (I : Inv X pins σ H s) (r : Vals vs us) (h : sp (vs ++ dvs) H Q E) : wpAny (model X.prog X.w) X.A (call (.ref f) us) (EP X pins σ Q) X.xe s := by
  have r2 : Vals (vs ++ dvs) (us ++ ds) := r.append hd
  have hl : (us ++ ds).length = ps.length := by rw [← r2.length]; exact F.len _ _ _ _ h
  refine wpAny_call (codeAny_mono (F.run X.A X.stack s H ⟨us, []⟩ (us ++ ds) (vs ++ dvs) Q E hr I.env0 (hb s us I.kIn hl) r2 h) fun r s' hq => ?_)
  cases r with
  | error e => exact hx pins σ H s e s' I hq
  | ok fl =>
    cases fl with
    | ret u => exact I.after hq
    | next => exact False.elim hq
    | brk => exact False.elim hq
    | cont => exact False.elim hq

theorem pe_call (F : FnOk X.prog X.w X.K X.mg X.base CX k f fd ps sp) (hr : Room k X.A) (hg : Gl X x) (hm : X.mg x = some (.ref f)) (hk : PySem.W.keepIn X.K (.ref f) = true) (hb : Binds X.K fd ps ds) (hd : Vals dvs ds) (hx : Passes CX X E)
    (ha : PA X (e :: es) t) (hdb : (x == ("__debug__" : Str)) = false := by decide) (he : starEach (e :: es) X.env = (false, eval e X.env) :: starEach es X.env := by rfl) (hpl : (backTo pos (starEach es X.env)).any (·.1) = false := by rfl) :
    PE X (.Call (.Name x p) (e :: es) [] pos) (tCall sp dvs E t) := by
  intro pins s σ H Q I h
  refine wpAny_Call_Name_kw (ld_glob I hg hm ?_ hdb)
  refine PySem.W.callWith_K (h₀ := X.base) I.ok.mod.kin hk (thn (ha pos pins s σ H _ I h) fun us s1 ⟨vs, H1, I1, r, q⟩ => ⟨I1.kIn, ?_⟩) he hpl
  exact run_fn F hr hb hd hx I1 r q
/-- what a class must have to be made -/
structure Mk (K : PySem.W.Frag) (C f : Addr) : Prop where
  makes : PySem.W.makesIn K C = true
  init : PySem.W.findIn K (.ref C) "__init__" = some (some (.ref f))
  fn : PySem.W.isFn K (.ref f) = true
  kp : PySem.W.keepIn K (.ref C) = true

end

/-! ### keywords -/
section
variable {X : Cx} {CX : CXT} {k : Nat} {f C : Addr} {fd : FuncData} {ps ks : List Str} {sp : Sp} {E : XK} {x m : Str} {p pos apos kpos : Pos} {e o : Expr} {es : List Expr} {kws : List Keyword} {te ta : TE} {t tk : TA} {nm : Option Str}
/-- how a call with keywords binds: g puts the positional values us and the keywords' values ws (names ks) in the parameters' order, defaults among them -/
structure KBinds (K : PySem.W.Frag) (fd : FuncData) (ps ks : List Str) (g : List Value → List Value → List Value) (gV : List V → List V → List V) : Prop where
  to : ∀ (s : Shared) (us ws : List Value), K.In s.heap → (g us ws).length = ps.length → BindsTo s fd ⟨us, ks.zip ws⟩ (ps.zip (g us ws))
  rel : ∀ {vs : List V} {us : List Value} {zs : List V} {ws : List Value}, Vals vs us → Vals zs ws → Vals (gV vs zs) (g us ws)
variable {g : List Value → List Value → List Value} {gV : List V → List V → List V}
end

/-! ### a def's body keeps its promise -/
/-- names: the parameters first -/
structure FnScope (N P : List Str) (sc : Scope) : Prop where
  kind : sc.kind = .function
  co : sc.isCoroutine = false
  gen : sc.isGenerator = false
  nd : N.Nodup
  pre : N.take P.length = P
  par : ∀ x ∈ P, sc.names.lookup x = some .local ∨ sc.names.lookup x = some .cell
  nofree : ∀ y ∈ sc.names, y.2 ≠ .free

theorem bindL_out {kindOf : Str → Option NameKind} {x : Str} : ∀ {binds : List (Str × Value)} {m : Str → Option Value}, (∀ v, (x, v) ∉ binds) → bindL kindOf binds m x = m x
  | [], _, _ => rfl
  | (n, v) :: r, m, h => by
    unfold bindL
    rw [bindL_out fun w hw => h w (List.mem_cons_of_mem _ hw)]
    split
    · have : x ≠ n := by rintro rfl; exact h v List.mem_cons_self
      simp [this]
    · rfl
theorem bindC_out {kindOf : Str → Option NameKind} {x : Str} : ∀ {binds : List (Str × Value)} {m : Str → Option Value}, (∀ v, (x, v) ∉ binds) → bindC kindOf binds m x = m x
  | [], _, _ => rfl
  | (n, v) :: r, m, h => by
    unfold bindC
    rw [bindC_out fun w hw => h w (List.mem_cons_of_mem _ hw)]
    split
    · rfl
    · have : x ≠ n := by rintro rfl; exact h v List.mem_cons_self
      simp [this]
theorem bindL_get {kindOf : Str → Option NameKind} {x : Str} {v : Value} : ∀ {P : List Str} {vs : List Value} {i : Nat} {m : Str → Option Value}, P.Nodup → P[i]? = some x → vs[i]? = some v → kindOf x = some .local →
    bindL kindOf (P.zip vs) m x = some v
  | [], _, _, _, _, h, _, _ => by simp at h
  | _ :: _, [], _, _, _, _, h, _ => by simp at h
  | p :: P, w :: vs, 0, m, nd, h1, h2, hk => by
    simp at h1 h2; subst h1; subst h2
    show bindL kindOf ((p, w) :: P.zip vs) m p = _
    unfold bindL
    rw [bindL_out fun v hv => (List.nodup_cons.mp nd).1 (List.of_mem_zip hv).1, if_pos hk]
    simp
  | p :: P, w :: vs, i + 1, m, nd, h1, h2, hk => by
    show bindL kindOf ((p, w) :: P.zip vs) m x = _
    unfold bindL
    exact bindL_get (i := i) (List.nodup_cons.mp nd).2 (by simpa using h1) (by simpa using h2) hk
theorem bindC_get {kindOf : Str → Option NameKind} {x : Str} {v : Value} : ∀ {P : List Str} {vs : List Value} {i : Nat} {m : Str → Option Value}, P.Nodup → P[i]? = some x → vs[i]? = some v → kindOf x ≠ some .local →
    bindC kindOf (P.zip vs) m x = some v
  | [], _, _, _, _, h, _, _ => by simp at h
  | _ :: _, [], _, _, _, _, h, _ => by simp at h
  | p :: P, w :: vs, 0, m, nd, h1, h2, hk => by
    simp at h1 h2; subst h1; subst h2
    show bindC kindOf ((p, w) :: P.zip vs) m p = _
    unfold bindC
    rw [bindC_out fun v hv => (List.nodup_cons.mp nd).1 (List.of_mem_zip hv).1, if_neg hk]
    simp
  | p :: P, w :: vs, i + 1, m, nd, h1, h2, hk => by
    show bindC kindOf ((p, w) :: P.zip vs) m x = _
    unfold bindC
    exact bindC_get (i := i) (List.nodup_cons.mp nd).2 (by simpa using h1) (by simpa using h2) hk

/-- the names' values at the entry -/
def start (N : List Str) (vs : List V) : St := vs.map some ++ List.replicate (N.length - vs.length) none

/-- the context of a def's body, at its entry; an exception leaves the frame, then lies as CX says -/
def cxOf (CX : CXT) (P : Program) (w : World) (K : PySem.W.Frag) (mg : Str → Option Value) (base : Heap) (N : List Str) (qual : Str) (scope : Scope) (f : Addr) (cd : Value) (A : Around) (outer : List Env) (s : Shared) (H : Hp) (E : XK) : Cx where
  prog := P
  w := w
  K := K
  mg := mg
  base := base
  A := A.deeper (envOfC qual scope s.heap.objs.size f cd)
  N := N
  s₀ := s
  H₀ := H
  env := envOfC qual scope s.heap.objs.size f cd
  outer := outer
  stack := envOfC qual scope s.heap.objs.size f cd :: outer
  ex := []
  calm := true
  fn := fun _ => true
  pn := []
  xe := fun e s' => wpAny (model P w) (A.deeper (envOfC qual scope s.heap.objs.size f cd)) (leaving (envOfC qual scope s.heap.objs.size f cd) e) (fun _ s'' => CX outer H s E e s'') (fun e' s'' => CX outer H s E e' s'') s'

theorem cell_has {sc : Scope} {n : Nat} {x : Str} (h : sc.names.lookup x = some .cell) : ∃ c, (cellsFrom n sc.names []).lookup x = some c := by
  have q := PySem.W.cellsFrom_some sc.names n [] (.inl h)
  exact Option.isSome_iff_exists.mp q

theorem inv_start {CX : CXT} {P : Program} {w : World} {K : PySem.W.Frag} {mg : Str → Option Value} {base : Heap} {N ps : List Str} {qual : Str} {scope : Scope} {f : Addr} {cd : Value} {A : Around} {outer : List Env} {s s1 : Shared} {H : Hp} {E : XK} {us : List Value} {vs : List V}
    (S : FnScope N ps scope) (hd : A.handled = none) (e0 : Env0 P w K mg base A outer s H) (hl : vs.length = ps.length) (r : Vals vs us)
    (x : InCallC s s.heap.objs.size (bindL (envOfC qual scope s.heap.objs.size f cd).kindOf (ps.zip us) fun _ => none) (cellsFrom (s.heap.objs.size + 1) scope.names []) (bindC (envOfC qual scope s.heap.objs.size f cd).kindOf (ps.zip us) fun _ => none) s1) :
    Inv (cxOf CX P w K mg base N qual scope f cd A outer s H E) [] (start N vs) H s1 := by
  have hpl : ps.length ≤ N.length := by have := congrArg List.length S.pre; rw [List.length_take] at this; omega
  obtain ⟨h1, tk, rfl, hk⟩ := x.done
  have noA : ∀ b : Addr, b ∉ (cxOf CX P w K mg base N qual scope f cd A outer s H E).ex := fun b z => absurd (show b ∈ ([] : List Addr) from z) (by simp)
  refine ⟨⟨e0.mod, S.kind, rfl, rfl, Nat.le_refl _, fun y z c h1 h2 => ?_, fun y hy => ?_, fun y c _ h => ?_, fun _ => hd, Around.frames_deeper e0.frames, .inr ⟨rfl, rfl⟩, fun b z => absurd z (noA b), e0.bs, e0.bsz, fun b _ _ => noA b, fun b z => absurd z (noA b), e0.funs, e0.frf⟩,
    rfl, e0.bare, Un.kept hk, ⟨_, x.toInCall.ns, fun i y v h1 h2 h3 => ?_⟩, fun y c h => ⟨_, x.cell y c h⟩, e0.hok.fresh (Nat.le_refl _), fun y c h => ?_, fun p hp => absurd (show p ∈ ([] : List (Addr × Obj)) from hp) (by simp), e0.hok.kept hk, ?_⟩
  · exact name_of_addr x.apart (PySem.mem_of_lookup h1) (PySem.mem_of_lookup h2)
  · have hy : scope.names.lookup y = some .cell ∨ scope.names.lookup y = some .free := hy
    rcases hy with hy | hy
    · exact cell_has hy
    · exact absurd rfl (S.nofree _ (PySem.mem_of_lookup hy))
  · exact Nat.le_of_lt (x.above y c (PySem.mem_of_lookup h))
  · have hi : i < vs.length := by
      unfold start at h2
      by_cases hi : i < vs.length
      · exact hi
      · rw [List.getElem?_append_right (by simpa using hi)] at h2
        rw [List.getElem?_replicate] at h2
        split at h2 <;> cases h2
    have ha : vs[i]? = some v := by
      unfold start at h2
      rw [List.getElem?_append_left (by simpa using hi), List.getElem?_map] at h2
      cases e : vs[i]? with
      | none => rw [e] at h2; cases h2
      | some a => rw [e] at h2; cases h2; rfl
    obtain ⟨u, hu, rv⟩ := r.get ha
    have hp : ps[i]? = some y := by
      rw [← S.pre, List.getElem?_take_of_lt (by omega)]; exact h1
    have ndP : ps.Nodup := by rw [← S.pre]; exact S.nd.sublist (List.take_sublist _ _)
    refine ⟨u, rv, ?_⟩
    rcases S.par y (List.mem_of_getElem? hp) with k | k
    · exact .inl ⟨k, bindL_get ndP hp hu k⟩
    · obtain ⟨c, e⟩ := cell_has (n := s.heap.objs.size + 1) k
      refine .inr ⟨.inl k, c, e, ?_⟩
      have q := x.cell y c e
      rw [bindC_get ndP hp hu (by show scope.names.lookup y ≠ _; rw [k]; decide)] at q
      exact q
  · exact e0.hok.fresh (Nat.le_of_lt (x.above y c (PySem.mem_of_lookup h)))
  · unfold start
    show _ = N.length
    rw [List.length_append, List.length_map, List.length_replicate]
    omega

/-- THE RULE: a def (or a method) of the text, by its body. The body's reading t is chosen for each entry; it is run at the parameters' values -/
theorem fn_of {CX : CXT} {P : Program} {w : World} {K : PySem.W.Frag} {mg : Str → Option Value} {base : Heap} {k : Nat} {f : Addr} {name qual : Str} {params : Arguments} {body : List Stmt} {scope : Scope} {dV kV doc pm cdv ct oc : Value} {an od : Option Addr}
    {osl : Array (Option Value)} {N ps : List Str} {sp : Sp} (lk : K.lookup f = some ⟨oc, od, .func (PySem.W.fnOf name qual params body scope dV kV doc pm an cdv ct), osl⟩) (hcd : PySem.W.codeIn K cdv qual = true) (S : FnScope N ps scope)
    (len : ∀ vs H Q E, sp vs H Q E → vs.length = ps.length)
    (hbody : ∀ (A : Around) (outer : List Env) (s : Shared) (H : Hp) (vs : List V) (Q : VK) (E : XK), Room k (A.deeper (envOfC qual scope s.heap.objs.size f cdv)) → sp vs H Q E →
      ∃ t, PSs (cxOf CX P w K mg base N qual scope f cdv A outer s H E) body t ∧ t { nx := fun _ H' => Q .non H', rt := Q } (start N vs) H) :
    FnOk P w K mg base CX (k + 1) f (PySem.W.fnOf name qual params body scope dV kV doc pm an cdv ct) ps sp := by
  refine ⟨len, fun A outer s H args us vs Q E hr e0 hb r hsp => ?_⟩
  have hl := len _ _ _ _ hsp
  have KX : K.In s.heap := e0.mod.kin.keeps fun b o e => (e0.bs b o e).1
  have lim : s.heap.NoLimit := e0.mod.nolimit.keeps fun b o e => (e0.bs b o e).1
  have hkind : ∀ y ∈ ps.zip us, scope.names.lookup y.1 = some .local ∨ (scope.names.lookup y.1 = some .cell ∧ ((cellsFrom (s.heap.objs.size + 1) scope.names []).lookup y.1).isSome = true) := fun ⟨n, v⟩ hy => by
    rcases S.par n (List.of_mem_zip hy).1 with q | q
    · exact .inl q
    · exact .inr ⟨q, PySem.W.cellsFrom_some _ _ _ (.inl q)⟩
  refine codeAny_call_function hr.depth (KX _ _ lk) rfl S.co S.gen rfl (PySem.W.codeRec_of KX hcd) (hb _ _ _ _ ?_)
  refine wpAny_newFunctionEnv_cells S.kind hkind fun env he s1 x => ?_
  subst he
  refine ⟨lim.keeps x.toInCall.keep, codeAny_func ?_⟩
  obtain ⟨t, ht, hq⟩ := hbody A outer s H vs Q E (hr.deeper _) hsp
  have I : Inv (cxOf CX P w K mg base N qual scope f cdv A outer s H E) [] (start N vs) H s1 := inv_start S hr.hd e0 hl r x
  refine wpAny_mono (ht [] s1 (start N vs) H _ I hq) (fun fl s' hs => ?_) fun e s' hs => hs
  have fin : ∀ {σ' : St} {H' : Hp} {v : V} {u : Value}, Inv (cxOf CX P w K mg base N qual scope f cdv A outer s H E) [] σ' H' s' → RelV v u → Q v H' → CE outer P w H s Q u s' :=
    fun {σ' H' v u} J rv q => ⟨v, H', J.os, J.bare, J.base, J.hok, rv, q⟩
  cases fl with
  | ret u =>
    obtain ⟨v, σ', H', J, rv, q⟩ := hs
    exact fin J rv q
  | next =>
    obtain ⟨σ', H', J, q⟩ := hs
    exact fin (v := V.non) (u := Value.none) J rfl q
  | brk =>
    obtain ⟨_, _, _, q⟩ := hs
    exact False.elim q
  | cont =>
    obtain ⟨_, _, _, q⟩ := hs
    exact False.elim q
end L2

namespace L2
open PySem PySem.Spec PyProof.Rows
section
variable {X : Cx} {x : Str} {p pos : Pos} {e : Expr} {es : List Expr} {t : TA} {id T : String} {r : List V → Hp → VK → Prop}

def tCB (r : List V → Hp → VK → Prop) (t : TA) : TE := fun σ H Q => t σ H fun vs H1 => r vs H1 Q
/-- f(e, ..), f a built-in function -/
theorem pe_callB (hc : CallR X (.builtin id) r) (hg : Gl X x) (hm : X.mg x = none) (hv : bootBuiltins x = some (.builtin id)) (ha : PA X (e :: es) t) (hn : x ≠ "__name__" := by decide) (hdb : (x == ("__debug__" : Str)) = false := by decide)
    (he : starEach (e :: es) X.env = (false, eval e X.env) :: starEach es X.env := by rfl) (hpl : (backTo pos (starEach es X.env)).any (·.1) = false := by rfl) : PE X (.Call (.Name x p) (e :: es) [] pos) (tCB r t) := by
  intro pins s σ H Q I h
  refine wpAny_Call_Name_kw (ld_blt I hg hm hv ?_ hn hdb)
  exact PyProof.Rows.callWith_builtin1 (thn (ha pos pins s σ H _ I h) fun us s1 ⟨vs, H1, I1, r1, q1⟩ => hc pins s1 σ H1 vs us Q I1 r1 q1) he hpl
/-- T(e, ..), T a built-in type -/
theorem pe_callTy (hc : CallR X (.type T) r) (hg : Gl X x) (hm : X.mg x = none) (hv : bootBuiltins x = some (.type T)) (ha : PA X (e :: es) t) (hn : x ≠ "__name__" := by decide) (hdb : (x == ("__debug__" : Str)) = false := by decide)
    (he : starEach (e :: es) X.env = (false, eval e X.env) :: starEach es X.env := by rfl) (hpl : (backTo pos (starEach es X.env)).any (·.1) = false := by rfl) : PE X (.Call (.Name x p) (e :: es) [] pos) (tCB r t) := by
  intro pins s σ H Q I h
  refine wpAny_Call_Name_kw (ld_blt I hg hm hv ?_ hn hdb)
  exact PyProof.Rows.callWith_type1 (thn (ha pos pins s σ H _ I h) fun us s1 ⟨vs, H1, I1, r1, q1⟩ => hc pins s1 σ H1 vs us Q I1 r1 q1) he hpl
end
end L2

namespace HT
open PySem PyProof.Rows

section
open PySem.SeqAt
open PySem.AutoSeq1 (wpAny_loadPart')
open PySem.MeetsSeq PySem.MeetsSeq2 PySem.MeetsSeq3

end

section
variable {prog : Program} {w : World} {A : Around} {E : Value → Shared → Prop} {s : Shared}

/-- t + u, t not empty -/
theorem cat_tup {t b : Addr} {vs ws : List Value} {Q : Value → Shared → Prop} (ht : IsTup s.heap t vs.toArray) (hb : IsTup s.heap b ws.toArray) (hv : vs ≠ [])
    (h1 : ws = [] → Q (.ref t) s) (h2 : ws ≠ [] → Q (.ref s.heap.objs.size) { s with heap := s.heap.push { cls := .type "tuple", data := .seq (vs ++ ws).toArray } })
    (hsz : vs.length + ws.length ≤ sizeLine) : wpAny (model prog w) A (binaryOp .Add (.ref t) (.ref b)) Q E s := by
  obtain ⟨⟨cls, dd, data, sl⟩, ho, hc, n, hd⟩ := id ht
  obtain ⟨⟨cls2, dd2, data2, sl2⟩, ho2, hc2, n2, hd2⟩ := id hb
  simp only at hc hd hc2 hd2
  subst hc hd hc2 hd2
  have e : vs.toArray ++ ws.toArray = (vs ++ ws).toArray := by simp
  by_cases hw : ws = []
  · exact concat_meets ⟨_, ho, rfl⟩ ⟨_, ho2, rfl⟩ noFill_tuple_add seq_tuple_add PySem.F.slot_tuple_add PySem.F.entry_tuple_add (PySem.F.args_tuple_add_2 _ _)
      (tuple_addW1 t b vs.toArray ws.toArray n n2 dd dd2 sl sl2 (by simpa using hv) (by simp [hw])) ⟨ho, ho2, h1 hw⟩
  · refine concat_meets ⟨_, ho, rfl⟩ ⟨_, ho2, rfl⟩ noFill_tuple_add seq_tuple_add PySem.F.slot_tuple_add PySem.F.entry_tuple_add (PySem.F.args_tuple_add_2 _ _)
      (tuple_addW2 t b vs.toArray ws.toArray n n2 dd dd2 sl sl2 (by simpa using hv) (by simpa using hw) (by rw [List.size_toArray, List.size_toArray]; exact hsz)) ⟨ho, ho2, ?_⟩
    rw [e]
    exact h2 hw

/-! ### t[a:b], not the whole -/
/-- a slice's bound as a place among n (d where it is left out) -/
def sIx (n d : Nat) : Option Int → Nat
  | none => d
  | some v => if v < 0 then (v + (n : Int)).toNat else min v.toNat n
theorem sIx_nat (n d k : Nat) : sIx n d (some (k : Int)) = min k n := by
  show (if (k : Int) < 0 then ((k : Int) + (n : Int)).toNat else min (k : Int).toNat n) = min k n
  rw [if_neg (by omega), Int.toNat_natCast]
theorem sIx_le (n d : Nat) (hd : d ≤ n) (o : Option Int) : sIx n d o ≤ n := by
  cases o with
  | none => exact hd
  | some v =>
    show (if v < 0 then (v + (n : Int)).toNat else min v.toNat n) ≤ n
    by_cases hv : v < 0
    · rw [if_pos hv]; omega
    · rw [if_neg hv]; exact Nat.min_le_right _ _
theorem clip_eq (v : Int) (n d : Nat) : (if v < 0 then max (v + (n : Int)) 0 else min v (n : Int)) = ((sIx n d (some v) : Nat) : Int) := by
  show (if v < 0 then max (v + (n : Int)) 0 else min v (n : Int)) = (((if v < 0 then (v + (n : Int)).toNat else min v.toNat n) : Nat) : Int)
  by_cases hv : v < 0
  · simp only [if_pos hv]; omega
  · simp only [if_neg hv]; omega
theorem adjust_gen (lo hi : Option Int) (n : Nat) : Builtin.Slice.sliceAdjust lo hi 1 (n : Int) = (((sIx n 0 lo : Nat) : Int), ((sIx n n hi : Nat) : Int)) := by
  have h1 : ¬ ((1 : Int) < 0) := by omega
  unfold Builtin.Slice.sliceAdjust
  simp only [h1, if_false]
  refine Prod.ext ?_ ?_
  · cases lo with
    | none => rfl
    | some v => exact clip_eq v n 0
  · cases hi with
    | none => rfl
    | some v => exact clip_eq v n n
theorem places_gen (i j : Nat) : Builtin.Slice.slicePlaces (i : Int) (j : Int) 1 = j - i := by
  unfold Builtin.Slice.slicePlaces
  have h1 : (1 : Int) > 0 := by omega
  simp only [h1, if_true, Int.ediv_one]
  split <;> omega
theorem slicePart_ {v : Value} {o : Option Int} {Q : Option Int → Shared → Prop} (p : IsPart v o) (h : Q o s) : wpAny (model prog w) A (Builtin.Slice.slicePartIndex v) Q E s := by
  cases p with
  | none => exact slicePart_none h
  | int i t => exact slicePart_int h
theorem sliceApplied_gen {sl : Addr} {vl vu : Value} {lo hi : Option Int} {n : Nat} {Q : Int × Int × Nat → Shared → Prop} (hs : s.heap.IsSliceOf sl vl vu .none) (pl : IsPart vl lo) (pu : IsPart vu hi)
    (h : Q (((sIx n 0 lo : Nat) : Int), 1, sIx n n hi - sIx n 0 lo) s) : wpAny (model prog w) A (Builtin.Slice.sliceApplied (.ref sl) (pure (n : Int))) Q E s := by
  obtain ⟨os, hos, hcs, hds⟩ := id hs
  unfold Builtin.Slice.sliceApplied Builtin.Slice.sliceFields
  refine wpAny_bind (wpAny_bind (wpAny_field hos hds (x := vl) rfl (wpAny_bind (wpAny_field hos hds (x := vu) rfl (wpAny_bind (wpAny_field hos hds (x := .none) rfl (wpAny_pure ?_)))))))
  refine wpAny_bind (slicePart_none ?_)
  show wpAny _ _ (if ((1 : Int) == 0) = true then _ else _) _ _ s
  rw [if_neg (by decide)]
  refine wpAny_bind (slicePart_ pl (wpAny_bind (slicePart_ pu (wpAny_bind (wpAny_pure ?_)))))
  show wpAny _ _ (match Builtin.Slice.sliceAdjust lo hi 1 (n : Int) with | (lo, hi) => pure (lo, (1 : Int), Builtin.Slice.slicePlaces lo hi 1)) _ _ s
  rw [adjust_gen lo hi n]
  show wpAny _ _ (pure (((sIx n 0 lo : Nat) : Int), (1 : Int), Builtin.Slice.slicePlaces ((sIx n 0 lo : Nat) : Int) ((sIx n n hi : Nat) : Int) 1)) _ _ s
  rw [places_gen]
  exact wpAny_pure h
theorem pick_gen (xs : Array Value) (i k : Nat) : ((List.range k).filterMap fun (m : Nat) => xs[((i : Int) + (m : Int) * 1).toNat]?).toArray = ((xs.toList.drop i).take k).toArray := by
  have e : (fun (m : Nat) => xs[((i : Int) + (m : Int) * 1).toNat]?) = fun m => xs[i + m]? := by
    funext m
    have : ((i : Int) + (m : Int) * 1).toNat = i + m := by omega
    rw [this]
  rw [e]
  have := pick_run xs i k
  rw [List.filterMap_map] at this
  have e2 : ((fun x => xs[x]?) ∘ fun x => i + x) = fun m => xs[i + m]? := rfl
  rw [e2] at this
  rw [this]

theorem getItem_tuple_cut {t sl : Addr} {items : Array Value} {vl vu : Value} {lo hi : Option Int} {Q : Value → Shared → Prop} (ht : IsTup s.heap t items) (hs : s.heap.IsSliceOf sl vl vu .none) (pl : IsPart vl lo) (pu : IsPart vu hi)
    (hw : ¬ (sIx items.size 0 lo = 0 ∧ sIx items.size items.size hi = items.size))
    (h : Q (.ref s.heap.objs.size) { s with heap := s.heap.push { cls := .type "tuple", data := .seq ((items.toList.drop (sIx items.size 0 lo)).take (sIx items.size items.size hi - sIx items.size 0 lo)).toArray } })
    (hsz : items.size ≤ sizeLine) : wpAny (model prog w) A (getItem (.ref t) (.ref sl)) Q E s := by
  have htake : sizeOk (.seq ((items.toList.drop (sIx items.size 0 lo)).take (sIx items.size items.size hi - sIx items.size 0 lo)).toArray) := by
    show ((items.toList.drop (sIx items.size 0 lo)).take (sIx items.size items.size hi - sIx items.size 0 lo)).toArray.size ≤ sizeLine
    rw [List.size_toArray, List.length_take, List.length_drop, Array.length_toList]
    omega
  have hj : sIx items.size items.size hi ≤ items.size := sIx_le _ _ (Nat.le_refl _) hi
  obtain ⟨os, hos, hcs, hds⟩ := id hs
  have hTs : s.TypeIs (.ref sl) "slice" := ⟨os, hos, hcs⟩
  unfold getItem
  try with_reducible refine wpAny_holding ?_
  first | refine wpAny_bind (wpAny_pure ?_) | skip
  refine wpAny_bind (wpAny_sequenceKey ht.typeIs (by decide) ?_)
  refine wpAny_bind (wpAny_callSpecial?_slot (name := Str.ofString "__getitem__") ht.typeIs PyProof.Rows.slot_tuple_getitem
    (wpAny_call_entry PyProof.Rows.slot_tuple_getitem ht.typeIs entry_tuple_getitem ?_ (args_tuple_getitem _ _)))
  show wpAny _ _ (Builtin.Tuple.tupleItemsOf (.ref t) >>= _) _ _ s
  refine wpAny_bind (tupleItemsOf_ ht ?_)
  refine wpAny_bind (wpAny_typeOf hTs ?_)
  rw [if_pos (by decide)]
  refine wpAny_bind (sliceApplied_gen hs pl pu ?_)
  have hno : ¬ ((((sIx items.size 0 lo : Nat) : Int) == 0 && (1 : Int) == 1 && (sIx items.size items.size hi - sIx items.size 0 lo) == items.size) = true) := by
    intro q
    rw [Bool.and_eq_true, Bool.and_eq_true] at q
    have q1 : ((sIx items.size 0 lo : Nat) : Int) = 0 := eq_of_beq q.1.1
    have q2 : sIx items.size items.size hi - sIx items.size 0 lo = items.size := eq_of_beq q.2
    exact hw ⟨by omega, by omega⟩
  show wpAny _ _ (if (((sIx items.size 0 lo : Nat) : Int) == 0 && (1 : Int) == 1 && (sIx items.size items.size hi - sIx items.size 0 lo) == items.size) = true then _ else _) _ _ s
  rw [if_neg hno, pick_gen]
  first
    | exact wpAny_bind (m := Builtin.Tuple.tupleExact _) (wpAny_newObj_type (wpAny_pure ⟨_, rfl, wpAny_pure h⟩) htake)
    | exact wpAny_bind (m := Builtin.Tuple.tupleExact _) (wpAny_newObj_type (wpAny_bind (wpAny_pure (wpAny_pure ⟨_, rfl, wpAny_pure h⟩))) htake)
    | exact wpAny_bind (wpAny_bind (m := Builtin.Tuple.tupleExact _) (wpAny_newObj_type (wpAny_pure (wpAny_pure ⟨_, rfl, wpAny_pure h⟩)) htake))
    | exact wpAny_bind (wpAny_bind (m := Builtin.Tuple.tupleExact _) (wpAny_newObj_type (wpAny_pure ⟨_, rfl, wpAny_pure h⟩) htake))
end
end HT

namespace L2
open PySem PySem.Spec PyProof.Rows

/-! ### the parts of a slice -/
abbrev TO := St → Hp → (Option Int → Hp → Prop) → Prop
/-- a slice's part (left out, or an int) -/
def PO (X : Cx) (e : Option Expr) (t : TO) : Prop :=
  ∀ (pins : List (Addr × Obj)) (s : Shared) (σ : St) (H : Hp) (Q : Option Int → Hp → Prop), Inv X pins σ H s → t σ H Q →
    wpAny (model X.prog X.w) X.A (evalPart e X.env) (fun u s' => ∃ o H', Inv X pins σ H' s' ∧ IsPart u o ∧ Q o H') X.xe s
def tNoPart : TO := fun _ H Q => Q none H
def tPart (t : TE) : TO := fun σ H Q => t σ H fun x H1 => ∃ i, x = .int i ∧ Q (some i) H1

section
variable {X : Cx} {e : Expr} {te : TE} {lo hi : Option Expr} {tl th : TO} {pos p2 : Pos}

theorem po_none : PO X none tNoPart := by
  intro pins s σ H Q I h
  rw [evalPart_none]
  exact wpAny_pure ⟨none, H, I, .none, h⟩
theorem po_some (h : PE X e te) : PO X (some e) (tPart te) := by
  intro pins s σ H Q I hw
  rw [evalPart_some]
  refine thn (h pins s σ H _ I hw) fun u s1 ⟨x, H1, I1, r1, q1⟩ => ?_
  obtain ⟨i, rfl, q⟩ := q1
  obtain ⟨t, rfl⟩ := r1
  exact ⟨some i, H1, I1, .int i t, q⟩

/-- what a slice of a value is, by values: the slice object stands at sl -/
def SlR (X : Cx) (r : V → Option Int → Option Int → Hp → VK → Prop) : Prop :=
  ∀ (pins : List (Addr × Obj)) (s : Shared) (σ : St) (H : Hp) (x : V) (v vl vu : Value) (lo hi : Option Int) (sl : Addr) (Q : VK), Inv X pins σ H s → RelV x v → s.heap.IsSliceOf sl vl vu .none → IsPart vl lo → IsPart vu hi → r x lo hi H Q →
    ∃ T id, typeLookup (.type T) "__getitem__" = pure (some (.builtin id)) ∧ s.TypeIs v T ∧ wpAny (model X.prog X.w) X.A (getItem v (.ref sl)) (EP X pins σ Q) X.xe s
theorem SlR.or {r r' : V → Option Int → Option Int → Hp → VK → Prop} (h : SlR X r) (h' : SlR X r') : SlR X (fun x lo hi H Q => r x lo hi H Q ∨ r' x lo hi H Q) := by
  intro pins s σ H x v vl vu lo hi sl Q I rx hs pl pu q
  rcases q with q | q
  · exact h pins s σ H x v vl vu lo hi sl Q I rx hs pl pu q
  · exact h' pins s σ H x v vl vu lo hi sl Q I rx hs pl pu q
def tSl (r : V → Option Int → Option Int → Hp → VK → Prop) (te : TE) (tl th : TO) : TE := fun σ H Q => te σ H fun x H1 => tl σ H1 fun l H2 => th σ H2 fun u H3 => r x l u H3 Q
/-- a[lo:hi], any a -/
theorem pe_slice {r : V → Option Int → Option Int → Hp → VK → Prop} (hr : SlR X r) (he : PE X e te) (hl : PO X lo tl) (hu : PO X hi th) : PE X (.Subscript e (.Slice lo hi none p2) pos) (tSl r te tl th) := by
  intro pins s σ H Q I h
  refine Subscript_ (thn (he pins s σ H _ I h) fun v s1 ⟨x, H1, I1, r1, q1⟩ => ?_)
  refine wpAny_Slice (thn (hl pins s1 σ H1 _ I1 q1) fun vl s2 ⟨l, H2, I2, pl, q2⟩ => thn (hu pins s2 σ H2 _ I2 q2) fun vu s3 ⟨u, H3, I3, pu, q3⟩ => ?_)
  rw [evalPart_none]
  refine wpAny_pure ?_
  have I4 : Inv X pins σ H3 { s3 with heap := s3.heap.push { cls := .type "slice", data := .fields #[vl, vu, .none] } } := I3.kept (t' := s3.toks) fun b ob q => Heap.get?_push_of_some _ q
  obtain ⟨T, id, hT, ht, hg⟩ := hr pins { s3 with heap := s3.heap.push { cls := .type "slice", data := .fields #[vl, vu, .none] } } σ H3 x v vl vu l u s3.heap.objs.size Q I4 r1 (Heap.IsSliceOf.new ..) pl pu q3
  show wpAny (model X.prog X.w) X.A (subscriptTail e (.Slice lo hi none p2) v (.ref s3.heap.objs.size)) (EP X pins σ Q) X.xe { s3 with heap := s3.heap.push { cls := .type "slice", data := .fields #[vl, vu, .none] } }
  exact tail_any (ops := [.ref s3.heap.objs.size, v]) ht hT hg (by with_unfolding_all rfl)

/-- the items of xs[lo:hi] -/
def cutV (xs : List V) (lo hi : Option Int) : List V := (xs.drop (HT.sIx xs.length 0 lo)).take (HT.sIx xs.length xs.length hi - HT.sIx xs.length 0 lo)
theorem cutV_length (xs : List V) (lo hi : Option Int) : (cutV xs lo hi).length ≤ xs.length := by
  unfold cutV
  rw [List.length_take, List.length_drop]
  omega
/-- t[lo:hi], not the whole of it (the whole would be t itself) -/
def rSlT (K : PySem.W.Frag) : V → Option Int → Option Int → Hp → VK → Prop := fun x lo hi H Q => ∃ a xs, x = .ref a ∧ SqT K H a xs ∧
  ¬ (HT.sIx xs.length 0 lo = 0 ∧ HT.sIx xs.length xs.length hi = xs.length) ∧ ∀ p, H p = none → Q (.ref p) (upd H p (.tup (cutV xs lo hi)))
theorem sl_tup : SlR X (rSlT X.K) := by
  intro pins s σ H x v vl vu lo hi sl Q I rx hs pl pu h
  obtain ⟨a, xs, rfl, hx, hw, q⟩ := h
  cases rx
  obtain ⟨its, r, ht, hz⟩ := I.tuple hx
  have hlen : its.toArray.size = xs.length := by rw [List.size_toArray]; exact r.length.symm
  refine ⟨"tuple", _, PyProof.Rows.slot_tuple_getitem.lookup, ht.typeIs, ?_⟩
  refine HT.getItem_tuple_cut ht hs pl pu (by rw [hlen]; exact hw) ?_ (by rw [hlen]; exact hz)
  rw [hlen]
  refine ⟨.ref s.heap.objs.size, _, I.laid (t' := s.toks) (o := .tup (cutV xs lo hi)) (fun b ob q => Heap.get?_push_of_some _ q) (Nat.le_refl _) ?_, rfl, q _ (I.hok.fresh (Nat.le_refl _))⟩
  exact ⟨Nat.le_trans (cutV_length xs lo hi) hz, _, (r.drop (HT.sIx xs.length 0 lo)).take (HT.sIx xs.length xs.length hi - HT.sIx xs.length 0 lo), IsTup.new _ _⟩

/-! ### t < u, t + u -/
/-- t + u, t not empty: u empty gives t itself -/
def rCatT (K : PySem.W.Frag) : R2 := fun x y H Q => ∃ a b xs ys, x = .ref a ∧ y = .ref b ∧ SqT K H a xs ∧ SqT K H b ys ∧ xs ≠ [] ∧ xs.length + ys.length ≤ sizeLine ∧
  (ys = [] → Q (.ref a) H) ∧ (ys ≠ [] → ∀ p, H p = none → Q (.ref p) (upd H p (.tup (xs ++ ys))))
theorem Vals.nil_iff {xs : List V} {us : List Value} (r : Vals xs us) : us = [] ↔ xs = [] := by
  cases r with
  | nil => simp
  | cons _ _ => simp
theorem op_catT : OpR X (binaryOp .Add) (rCatT X.K) := by
  intro pins s σ H x y v u Q I rx ry h
  obtain ⟨a, b, xs, ys, rfl, rfl, ha, hb, hx, hz, q1, q2⟩ := h
  cases rx
  cases ry
  obtain ⟨its, r1, p1, _⟩ := I.tuple ha
  obtain ⟨its2, r2, p2, _⟩ := I.tuple hb
  refine HT.cat_tup p1 p2 (fun z => hx (r1.nil_iff.mp z)) (fun z => ⟨.ref a, H, I, rfl, q1 (r2.nil_iff.mp z)⟩) (fun z => ?_) (by rw [← r1.length, ← r2.length]; exact hz)
  refine ⟨.ref s.heap.objs.size, _, I.laid (t' := s.toks) (o := .tup (xs ++ ys)) (fun b ob q => Heap.get?_push_of_some _ q) (Nat.le_refl _) ?_, rfl, q2 (fun w => z (r2.nil_iff.mpr w)) _ (I.hok.fresh (Nat.le_refl _))⟩
  exact ⟨by rw [List.length_append]; exact hz, _, r1.append r2, IsTup.new _ _⟩
end
end L2

namespace L2
open PySem PySem.Spec PyProof.Rows

/-! ### places -/
/-- the place that an index of any sign means -/
def ixN (n : Nat) (i : Int) : Option Nat := if 0 ≤ i then (if i < n then some i.toNat else none) else if -(n : Int) ≤ i then some (i + n).toNat else none
def atI {α : Type} (xs : List α) (i : Int) : Option α := (ixN xs.length i).bind fun j => xs[j]?
theorem ixN_seq {n : Nat} {i : Int} {j : Nat} (h : ixN n i = some j) : seqIndex? i n = some j ∧ j < n ∧ -(n : Int) ≤ i ∧ i < n := by
  unfold ixN at h
  by_cases h0 : 0 ≤ i
  · rw [if_pos h0] at h
    by_cases h1 : i < n
    · rw [if_pos h1] at h
      have e : i.toNat = j := Option.some.inj h
      exact ⟨by rw [seqIndex_of h0 h1, e], by omega, by omega, h1⟩
    · rw [if_neg h1] at h; cases h
  · rw [if_neg h0] at h
    by_cases h1 : -(n : Int) ≤ i
    · rw [if_pos h1] at h
      have e : (i + n).toNat = j := Option.some.inj h
      exact ⟨by rw [seqIndex_neg (by omega) h1, e], by omega, h1, by omega⟩
    · rw [if_neg h1] at h; cases h
theorem atI_get {α : Type} {xs : List α} {i : Int} {v : α} (h : atI xs i = some v) : ∃ j, seqIndex? i xs.length = some j ∧ xs[j]? = some v ∧ j < xs.length ∧ -(xs.length : Int) ≤ i ∧ i < xs.length := by
  unfold atI at h
  cases e : ixN xs.length i with
  | none => rw [e] at h; cases h
  | some j =>
    rw [e] at h
    obtain ⟨h1, h2, h3, h4⟩ := ixN_seq e
    exact ⟨j, h1, h, h2, h3, h4⟩
theorem atI_nat {α : Type} {xs : List α} {j : Nat} {v : α} (h : xs[j]? = some v) : atI xs (j : Int) = some v := by
  have hj : j < xs.length := (List.getElem?_eq_some_iff.mp h).1
  have e : ixN xs.length (j : Int) = some j := by
    unfold ixN
    rw [if_pos (by omega), if_pos (by omega)]; simp
  unfold atI; rw [e]; exact h
/-! ### what may be subscripted -/
/-- what stands as an index of a plain subscript -/
def PlainIx (b : Expr) : Prop := ∀ o i, subscripted b false o i = operate [o, i] (getItem o i)
/-- a subscript by values -/
def IxR (X : Cx) (r : R2) : Prop :=
  ∀ (value slice : Expr) (pins : List (Addr × Obj)) (s : Shared) (σ : St) (H : Hp) (x y : V) (v u : Value) (Q : VK), Inv X pins σ H s → RelV x v → RelV y u → r x y H Q →
    subscripted slice false v u = operate [v, u] (getItem v u) → wpAny (model X.prog X.w) X.A (subscriptTail value slice v u) (EP X pins σ Q) X.xe s
/-- a call of a builtin's method by values: the receiver, the arguments -/
def MtR (X : Cx) (id : String) (r : V → List V → Hp → VK → Prop) : Prop :=
  ∀ (pins : List (Addr × Obj)) (s : Shared) (σ : St) (H : Hp) (x : V) (xs : List V) (v : Value) (us : List Value) (Q : VK), Inv X pins σ H s → RelV x v → Vals xs us → r x xs H Q →
    wpAny (model X.prog X.w) X.A (call (.builtin id) (v :: us)) (EP X pins σ Q) X.xe s
section
variable {X : Cx} {a b : Expr} {ta tb : TE} {pos : Pos}
theorem IxR.or {r r' : R2} (h : IxR X r) (h' : IxR X r') : IxR X (fun x y H Q => r x y H Q ∨ r' x y H Q) := by
  intro value slice pins s σ H x y v u Q I rx ry q hs
  rcases q with q | q
  · exact h value slice pins s σ H x y v u Q I rx ry q hs
  · exact h' value slice pins s σ H x y v u Q I rx ry q hs
theorem MtR.or {id : String} {r r' : V → List V → Hp → VK → Prop} (h : MtR X id r) (h' : MtR X id r') : MtR X id (fun x xs H Q => r x xs H Q ∨ r' x xs H Q) := by
  intro pins s σ H x xs v us Q I rx rs q
  rcases q with q | q
  · exact h pins s σ H x xs v us Q I rx rs q
  · exact h' pins s σ H x xs v us Q I rx rs q
/-- a[b] -/
theorem pe_ix {r : R2} (hr : IxR X r) (ha : PE X a ta) (hb : PE X b tb) (hs : PlainIx b) : PE X (.Subscript a b pos) (tOp r ta tb) := by
  intro pins s σ H Q I h
  exact Subscript_ (binT ha hb I h fun v u s2 x y H2 I2 rx ry q => hr a b pins s2 σ H2 x y v u Q I2 rx ry q (hs _ _))

def rIxL (K : PySem.W.Frag) : R2 := fun x y H Q => ∃ p xs i v, x = .ref p ∧ y = .int i ∧ SqL K H p xs ∧ atI xs i = some v ∧ Q v H
def rIxT (K : PySem.W.Frag) : R2 := fun x y H Q => ∃ p xs i v, x = .ref p ∧ y = .int i ∧ SqT K H p xs ∧ atI xs i = some v ∧ Q v H
def rIxS : R2 := fun x y H Q => ∃ z i c, x = .str z ∧ y = .int i ∧ z.length ≤ sizeLine ∧ atI z.cps.toList i = some c ∧ Q (.str ⟨#[c]⟩) H
theorem ix_list : IxR X (rIxL X.K) := by
  intro value slice pins s σ H x y v u Q I rx ry h hs
  obtain ⟨p, xs, i, z, rfl, rfl, hq, he, q⟩ := h
  cases rx
  obtain ⟨t, rfl⟩ := ry
  obtain ⟨its, r, pl, hz⟩ := I.list hq
  obtain ⟨j, h1, h2, h3, h4, h5⟩ := atI_get he
  obtain ⟨w, ew, rw'⟩ := r.get h2
  have hl := r.length
  have hn := line63
  have fin : EP X pins σ Q w s := ⟨z, H, I, rw', q⟩
  by_cases h0 : 0 ≤ i
  · have hj : i.toNat = j := by
      rw [seqIndex_of h0 h5] at h1
      exact Option.some.inj h1
    exact item_listR pl.isList h0 (by omega) (by rw [hj]; simpa using ew) fin hs
  · have hj : (i + (its.toArray.size : Int)).toNat = j := by
      rw [seqIndex_neg (by omega) h4] at h1
      rw [List.size_toArray, ← hl]
      exact Option.some.inj h1
    exact subscriptTail_builtinR (x := w) pl.isList.typeIs slot_list_getitem.lookup
      (wpAny_getItem_list_neg (Q := fun r s' => r = w ∧ EP X pins σ Q r s') pl.isList (by omega) (by rw [List.size_toArray] <;> omega) (by omega) (by rw [hj]; simpa using ew) ⟨rfl, fin⟩) hs
theorem ix_tup : IxR X (rIxT X.K) := by
  intro value slice pins s σ H x y v u Q I rx ry h hs
  obtain ⟨p, xs, i, z, rfl, rfl, hq, he, q⟩ := h
  cases rx
  obtain ⟨t, rfl⟩ := ry
  obtain ⟨its, r, pl, hz⟩ := I.tuple hq
  obtain ⟨j, h1, h2, h3, h4, h5⟩ := atI_get he
  obtain ⟨w, ew, rw'⟩ := r.get h2
  have hl := r.length
  have hn := line63
  have fin : EP X pins σ Q w s := ⟨z, H, I, rw', q⟩
  exact subscriptTail_builtinR (x := w) pl.typeIs slot_tuple_getitem.lookup
    (getItem_tuple (j := j) (Q := fun r s' => r = w ∧ EP X pins σ Q r s') pl (by omega) (by omega) (by rw [List.size_toArray, ← hl]; exact h1) (by simpa using ew) ⟨rfl, fin⟩) hs
theorem ix_str : IxR X rIxS := by
  intro value slice pins s σ H x y v u Q I rx ry h hs
  obtain ⟨z, i, c, rfl, rfl, hz, he, q⟩ := h
  obtain ⟨t, rfl⟩ := rx
  obtain ⟨t', rfl⟩ := ry
  obtain ⟨j, h1, h2, h3, h4, h5⟩ := atI_get he
  have hl : z.cps.toList.length = z.length := by simp [Str.length]
  rw [hl] at h1 h4 h5
  have hn := line63
  exact tail_any (typeIs_str s z t) slot_str_getitem.lookup (getItem_str (c := c) (by
    have e1 : decide (i < -(2 ^ 63 : Int)) = false := decide_eq_false (by omega)
    have e2 : decide (i ≥ 2 ^ 63) = false := decide_eq_false (by omega)
    rw [e1, e2, Bool.or_false]) (by rw [h1]; simpa using h2) ⟨.str ⟨#[c]⟩, H, I.tok _, ⟨_, rfl⟩, q⟩) hs
/-- list, tuple or str -/
def rIx (K : PySem.W.Frag) : R2 := fun x y H Q => rIxL K x y H Q ∨ rIxT K x y H Q ∨ rIxS x y H Q
theorem ix_seq : IxR X (rIx X.K) := ix_list.or (ix_tup.or ix_str)

/-! ### xs[i] = v, any sign -/
/-- the list's object behind a store -/
theorem mapSeq_set (its : List Value) (n j : Nat) (u : Value) : Obj.mapSeq (·.setIfInBounds j u) { cls := .type "list", data := .seq its.toArray n } = { cls := .type "list", data := .seq (its.set j u).toArray n } := by
  simp [Obj.mapSeq]
theorem Inv.lst {pins : List (Addr × Obj)} {σ : St} {H : Hp} {s : Shared} {p : Addr} {xs : List V} (I : Inv X pins σ H s) (h : H p = some (.lst xs)) :
    ∃ (its : List Value) (n : Nat), Vals xs its ∧ s.heap.get? p = some { cls := .type "list", data := .seq its.toArray n } ∧ xs.length ≤ sizeLine := by
  obtain ⟨z, its, n, r, e⟩ := I.hok p _ h
  exact ⟨its, n, r, e, z⟩
/-- the list at p is written by an update of its object -/
theorem Inv.lstUpd {pins : List (Addr × Obj)} {σ : St} {H : Hp} {s : Shared} {p : Addr} {xs ys : List V} {its its' : List Value} {n n' : Nat} {f : Obj → Obj} (I : Inv X pins σ H s) (h : H p = some (.lst xs))
    (ho : s.heap.get? p = some { cls := .type "list", data := .seq its.toArray n }) (hf : f { cls := .type "list", data := .seq its.toArray n } = { cls := .type "list", data := .seq its'.toArray n' }) (r : Vals ys its') (hz : ys.length ≤ sizeLine) (t : Nat) :
    Inv X pins σ (upd H p (.lst ys)) { s with heap := s.heap.update p f, toks := t } := by
  have e : (s.heap.update p f).get? p = some { cls := .type "list", data := .seq its'.toArray n' } := by
    rw [Heap.get?_update_self f ho (by rw [hf] <;> rfl), hf]
  refine I.write (x := p) (e := p) (by rw [h]; trivial) (.inl rfl) (fun b u hb q => (Heap.get?_update_other _ _ (Ne.symm hb)).trans q) ⟨_, e⟩ ?_
  exact ⟨hz, its', n', r, e⟩
def rSetL : V → V → V → Hp → (Hp → Prop) → Prop := fun o i v H Q => ∃ p xs k j, o = .ref p ∧ i = .int k ∧ H p = some (.lst xs) ∧ ixN xs.length k = some j ∧ Q (upd H p (.lst (xs.set j v)))
theorem set_list : PSet X rSetL := by
  intro pins s σ H o i v ov iv u Q I ro ri rv h
  obtain ⟨p, xs, k, j, rfl, rfl, hp, hj, q⟩ := h
  cases ro
  obtain ⟨t, rfl⟩ := ri
  obtain ⟨its, n, r, ho, hz⟩ := I.lst hp
  obtain ⟨h1, h2, h3, h4⟩ := ixN_seq hj
  have hl := r.length
  have hn := line63
  have I' : Inv X pins σ (upd H p (.lst (xs.set j v))) { s with heap := s.heap.update p (Obj.mapSeq (·.setIfInBounds j u)) } :=
    I.lstUpd hp ho (mapSeq_set its n j u) (r.set rv j) (by rw [List.length_set]; exact hz) s.toks
  by_cases h0 : 0 ≤ k
  · have hk : k.toNat = j := by
      rw [seqIndex_of h0 h4] at h1
      exact Option.some.inj h1
    exact PySem.W.ki_setAt ho h0 (by omega) (by rw [List.size_toArray, ← hl]; exact h4) (by rw [hk]; exact ⟨_, I', q⟩)
  · have hk : (k + (its.toArray.size : Int)).toNat = j := by
      rw [seqIndex_neg (by omega) h3] at h1
      rw [List.size_toArray, ← hl]
      exact Option.some.inj h1
    exact PySem.W.ki_setBack ho (by omega) (by rw [List.size_toArray, ← hl]; exact h3) (by omega) (by rw [hk]; exact ⟨_, I', q⟩)

/-! ### slices -/
theorem slice_bounds (lo hi : Option Int) (n : Nat) : (sliceBounds lo hi none n).1 = ((HT.sIx n 0 lo : Nat) : Int) ∧ (sliceBounds lo hi none n).2.1 = ((HT.sIx n n hi : Nat) : Int) ∧ (sliceBounds lo hi none n).2.2 = 1 := by
  refine ⟨?_, ?_, rfl⟩
  · cases lo with
    | none => simp [sliceBounds, HT.sIx]
    | some i =>
      simp only [sliceBounds, HT.sIx, Option.getD_none, show (1 : Int) > 0 by decide, if_true]
      by_cases h : i < 0
      · simp only [h, if_true] <;> omega
      · simp only [h, if_false] <;> omega
  · cases hi with
    | none => simp [sliceBounds, HT.sIx]
    | some i =>
      simp only [sliceBounds, HT.sIx, Option.getD_none, show (1 : Int) > 0 by decide, if_true]
      by_cases h : i < 0
      · simp only [h, if_true] <;> omega
      · simp only [h, if_false] <;> omega
theorem slicePick_cut (its : List Value) (lo hi : Option Int) : slicePick its.toArray lo hi none = ((its.drop (HT.sIx its.length 0 lo)).take (HT.sIx its.length its.length hi - HT.sIx its.length 0 lo)).toArray := by
  obtain ⟨h1, h2, h3⟩ := slice_bounds lo hi its.toArray.size
  unfold slicePick
  rw [h1, h2, h3]
  simp only [sliceRange_one, pick_run, List.size_toArray] <;> rfl
/-- xs[lo:hi] of a list: a new list -/
def rSlL (K : PySem.W.Frag) : V → Option Int → Option Int → Hp → VK → Prop := fun x lo hi H Q => ∃ a xs, x = .ref a ∧ SqL K H a xs ∧ ∀ p, H p = none → Q (.ref p) (upd H p (.lst (cutV xs lo hi)))
theorem sl_list : SlR X (rSlL X.K) := by
  intro pins s σ H x v vl vu lo hi sl Q I rx hs pl pu h
  obtain ⟨a, xs, rfl, hx, q⟩ := h
  cases rx
  obtain ⟨its, r, ht, hz⟩ := I.list hx
  have hlen := r.length
  refine ⟨"list", _, slot_list_getitem.lookup, ht.isList.typeIs, ?_⟩
  refine wpAny_getItem_list_slice ht.isList hs pl pu .none (by simp) ?_ (by rw [List.size_toArray] <;> omega)
  rw [slicePick_cut, ← hlen]
  refine ⟨.ref s.heap.objs.size, _, I.laid (t' := s.toks) (o := .lst (cutV xs lo hi)) (fun b ob q => Heap.get?_push_of_some _ q) (Nat.le_refl _) ?_, rfl, q _ (I.hok.fresh (Nat.le_refl _))⟩
  exact ⟨Nat.le_trans (cutV_length xs lo hi) hz, _, 0, (r.drop (HT.sIx xs.length 0 lo)).take (HT.sIx xs.length xs.length hi - HT.sIx xs.length 0 lo), Heap.get?_push_size _ rfl⟩

/-! ### in, not in: flat items -/
def flatV : V → Bool
  | .non => true
  | .bl _ => true
  | .int _ => true
  | .str _ => true
  | _ => false
/-- == of flat values -/
def eqV : V → V → Bool
  | .non, .non => true
  | .bl a, .bl b => a == b
  | .bl a, .int b => (if a then 1 else 0) == b
  | .int a, .bl b => a == (if b then 1 else 0)
  | .int a, .int b => a == b
  | .str a, .str b => a == b
  | _, _ => false
theorem eqAt_V {A : Around} {s : Shared} {y x : V} {u v : Value} (ry : RelV y u) (rx : RelV x v) (fy : flatV y = true) (fx : flatV x = true) : SeqAt.EqAt A s u v (eqV y x) := by
  cases y with
  | non =>
    cases ry
    cases x with
    | non => cases rx; exact SeqAt.EqAt.same _
    | bl b => cases rx; exact SeqAt.EqAt.none_bool b
    | int b => obtain ⟨t, rfl⟩ := rx; exact SeqAt.EqAt.none_int b t
    | str b => obtain ⟨t, rfl⟩ := rx; exact SeqAt.EqAt.none_str b t
    | _ => exact absurd (show false = true from fx) Bool.false_ne_true
  | bl a =>
    cases ry
    cases x with
    | non => cases rx; exact SeqAt.EqAt.bool_none a
    | bl b => cases rx; exact SeqAt.EqAt.bool_bool a b
    | int b => obtain ⟨t, rfl⟩ := rx; exact SeqAt.EqAt.bool_int a b t
    | str b => obtain ⟨t, rfl⟩ := rx; exact SeqAt.EqAt.bool_str a b t
    | _ => exact absurd (show false = true from fx) Bool.false_ne_true
  | int a =>
    obtain ⟨t', rfl⟩ := ry
    cases x with
    | non => cases rx; exact SeqAt.EqAt.int_none a t'
    | bl b => cases rx; exact SeqAt.EqAt.int_bool a t' b
    | int b => obtain ⟨t, rfl⟩ := rx; exact SeqAt.EqAt.int_int a t' b t
    | str b => obtain ⟨t, rfl⟩ := rx; exact SeqAt.EqAt.int_str a t' b t
    | _ => exact absurd (show false = true from fx) Bool.false_ne_true
  | str a =>
    obtain ⟨t', rfl⟩ := ry
    cases x with
    | non => cases rx; exact SeqAt.EqAt.str_none a t'
    | bl b => cases rx; exact SeqAt.EqAt.str_bool a t' b
    | int b => obtain ⟨t, rfl⟩ := rx; exact SeqAt.EqAt.str_int a t' b t
    | str b => obtain ⟨t, rfl⟩ := rx; exact SeqAt.EqAt.str_str a t' b t
    | _ => exact absurd (show false = true from fx) Bool.false_ne_true
  | _ => exact absurd (show false = true from fy) Bool.false_ne_true
/-- the items' answers, read off the values (a value's own answer does not lean on its token) -/
def eqU (x : V) (u : Value) : Bool := match u with
  | .none => eqV .non x
  | .bool b => eqV (.bl b) x
  | .int i _ => eqV (.int i) x
  | .str z _ => eqV (.str z) x
  | _ => false
theorem eqU_of {x y : V} {u : Value} (r : RelV y u) (f : flatV y = true) : eqU x u = eqV y x := by
  cases y with
  | non => cases r; rfl
  | bl b => cases r; rfl
  | int i => obtain ⟨t, rfl⟩ := r; rfl
  | str z => obtain ⟨t, rfl⟩ := r; rfl
  | _ => exact absurd (show false = true from f) Bool.false_ne_true
theorem any_eqU {x : V} : ∀ {xs : List V} {us : List Value}, Vals xs us → xs.all flatV = true → us.any (eqU x) = xs.any fun y => eqV y x
  | _, _, .nil, _ => rfl
  | y :: xs, u :: us, .cons r t, f => by
    rw [List.all_cons, Bool.and_eq_true] at f
    rw [List.any_cons, List.any_cons, eqU_of r f.1, any_eqU t f.2]
theorem mem_eqAt {A : Around} {s : Shared} {x : V} {v : Value} (rx : RelV x v) (fx : flatV x = true) : ∀ {xs : List V} {us : List Value}, Vals xs us → xs.all flatV = true → ∀ u ∈ us, SeqAt.EqAt A s u v (eqU x u)
  | _, _, .nil, _ => fun u hu => by cases hu
  | y :: xs, u :: us, .cons r t, f => fun u' hu => by
    rw [List.all_cons, Bool.and_eq_true] at f
    rcases List.mem_cons.mp hu with rfl | hu
    · rw [eqU_of r f.1]; exact eqAt_V r rx f.1 fx
    · exact mem_eqAt rx fx t f.2 u' hu
def inV (x : V) (xs : List V) : Bool := xs.any fun y => eqV y x
/-- x in a list or tuple of flat items -/
def rIn (K : PySem.W.Frag) (neg : Bool) : R2 := fun x y H Q => ∃ p xs, y = .ref p ∧ (SqL K H p xs ∨ SqT K H p xs) ∧ flatV x = true ∧ xs.all flatV = true ∧ Q (.bl (if neg then !inV x xs else inV x xs)) H
theorem op_notIn_seq : OpR X (compareOp .NotIn) (rIn X.K true) := by
  intro pins s σ H x y v u Q I rx ry h
  obtain ⟨p, xs, rfl, hq, fx, fs, q⟩ := h
  cases ry
  rcases hq with hq | hq
  · obtain ⟨its, r, pl, hz⟩ := I.list hq
    refine SeqAt.notIn_listAt (eqU x) pl.isList (fun w hw => mem_eqAt rx fx r fs w (by simpa using hw)) ⟨.bl _, H, I, rfl, ?_⟩
    rw [show its.toArray.any (eqU x) = its.any (eqU x) by simp, any_eqU r fs]
    exact q
  · obtain ⟨its, r, pl, hz⟩ := I.tuple hq
    refine SeqAt.notIn_tupleAt (eqU x) pl (fun w hw => mem_eqAt rx fx r fs w (by simpa using hw)) ⟨.bl _, H, I, rfl, ?_⟩
    rw [show its.toArray.any (eqU x) = its.any (eqU x) by simp, any_eqU r fs]
    exact q
/-! ### len, list(x), tuple(x) of any list or tuple that is read -/
theorem call_len_seq : CallR X (.builtin "len") (fun xs H Q => ∃ p ys, xs = [.ref p] ∧ (SqL X.K H p ys ∨ SqT X.K H p ys) ∧ Q (.int ys.length) H) := by
  intro pins s σ H xs us Q I r h
  obtain ⟨p, ys, rfl, hq, q⟩ := h
  obtain ⟨u, rfl, rx⟩ := vals1 r
  cases rx
  have hn := line63
  rcases hq with hq | hq
  · obtain ⟨its, r', pl, hz⟩ := I.list hq
    have hlen := r'.length
    exact Calls.call_len_list pl.isList (by simp only [List.size_toArray] <;> omega) ⟨.int ys.length, H, I.tok _, ⟨s.toks + 1, by rw [List.size_toArray, hlen]⟩, q⟩
  · obtain ⟨its, r', pl, hz⟩ := I.tuple hq
    have hlen := r'.length
    exact len_tuple pl (by simp only [List.size_toArray] <;> omega) ⟨.int ys.length, H, I.tok _, ⟨s.toks + 1, by rw [List.size_toArray, hlen]⟩, q⟩
theorem call_len_str : CallR X (.builtin "len") (fun xs H Q => ∃ z, xs = [.str z] ∧ z.length ≤ sizeLine ∧ Q (.int z.length) H) := by
  intro pins s σ H xs us Q I r h
  obtain ⟨z, rfl, hz, q⟩ := h
  obtain ⟨u, rfl, t, rfl⟩ := vals1 r
  have hn := line63
  exact len_str (by omega) ⟨.int z.length, H, I.tok _, ⟨_, rfl⟩, q⟩
theorem CallR.or {f : Value} {r r' : List V → Hp → VK → Prop} (h : CallR X f r) (h' : CallR X f r') : CallR X f (fun xs H Q => r xs H Q ∨ r' xs H Q) := by
  intro pins s σ H xs us Q I rs q
  rcases q with q | q
  · exact h pins s σ H xs us Q I rs q
  · exact h' pins s σ H xs us Q I rs q
theorem call_list_of : CallR X (.type "list") (fun xs H Q => ∃ p ys, xs = [.ref p] ∧ (SqL X.K H p ys ∨ SqT X.K H p ys) ∧ ∀ l, H l = none → Q (.ref l) (upd H l (.lst ys))) := by
  intro pins s σ H xs us Q I r h
  obtain ⟨p, ys, rfl, hq, q⟩ := h
  obtain ⟨u, rfl, rx⟩ := vals1 r
  cases rx
  have fin : ∀ (its : List Value), Vals ys its → ys.length ≤ sizeLine → ∀ (h' : Heap) (c' : Nat), (∀ b o', s.heap.get? b = some o' → h'.get? b = some o') →
      h'.get? s.heap.objs.size = some { cls := .type "list", dict := none, data := .seq its.toArray c', slots := #[] } → EP X pins σ Q (.ref s.heap.objs.size) { s with heap := h' } := fun its r' hz h' c' kp e =>
    ⟨.ref s.heap.objs.size, _, I.laid (t' := s.toks) kp (Nat.le_refl _) (show ObjOk X.prog X.w _ h' _ (.lst ys) from ⟨hz, its, c', r', e⟩), rfl, q _ (I.hok.fresh (Nat.le_refl _))⟩
  rcases hq with hq | hq
  · obtain ⟨its, r', pl, hz⟩ := I.list hq
    have hlen := r'.length
    obtain ⟨o, ho, hc, n, hd⟩ := pl.isList
    exact call_list_seq p (.inl rfl) ho hc hd (fun h' c' kp e => fin its r' hz h' c' kp e) (by simp only [List.size_toArray] <;> omega)
  · obtain ⟨its, r', pl, hz⟩ := I.tuple hq
    have hlen := r'.length
    obtain ⟨o, ho, hc, n, hd⟩ := pl
    exact call_list_seq p (.inr rfl) ho hc hd (fun h' c' kp e => fin its r' hz h' c' kp e) (by simp only [List.size_toArray] <;> omega)
theorem call_tuple_of : CallR X (.type "tuple") (fun xs H Q => ∃ p ys, xs = [.ref p] ∧ ((SqL X.K H p ys ∧ ∀ l, H l = none → Q (.ref l) (upd H l (.tup ys))) ∨ (SqT X.K H p ys ∧ Q (.ref p) H))) := by
  intro pins s σ H xs us Q I r h
  obtain ⟨p, ys, rfl, h⟩ := h
  obtain ⟨u, rfl, rx⟩ := vals1 r
  cases rx
  rcases h with ⟨hq, q⟩ | ⟨hq, q⟩
  · obtain ⟨its, r', pl, hz⟩ := I.list hq
    have hlen := r'.length
    refine call_tuple_list pl.isList (fun h' kp => ?_) (by simp only [List.size_toArray] <;> omega)
    have I1 : Inv X pins σ H { s with heap := h' } := I.kept (t' := s.toks) kp
    have I2 : Inv X pins σ (upd H h'.objs.size (.tup ys)) { s with heap := h'.push { cls := .type "tuple", data := .seq its.toArray } } :=
      I1.laid (t' := s.toks) (fun b o e => Heap.get?_push_of_some _ e) (Nat.le_refl _) (show ObjOk X.prog X.w _ _ _ (.tup ys) from ⟨hz, its, r', IsTup.new _ _⟩)
    exact ⟨.ref h'.objs.size, _, I2, rfl, q _ (I1.hok.fresh (Nat.le_refl _))⟩
  · obtain ⟨its, r', pl, hz⟩ := I.tuple hq
    exact call_tuple_same pl ⟨.ref p, H, I, rfl, q⟩

/-! ### the call of a builtin's method: o.m(..) -/
/-- the value is of that builtin type -/
def tyV (K : PySem.W.Frag) (T : String) (x : V) (H : Hp) : Prop := match x with
  | .str _ => T = "str"
  | .int _ => T = "int"
  | .ref p => (T = "list" ∧ ∃ xs, SqL K H p xs) ∨ (T = "tuple" ∧ ∃ o, K.lookup p = some o ∧ o.cls = .type "tuple" ∧ o.dict = none) ∨
      (T = "dict" ∧ ((∃ kvs, H p = some (.dK kvs)) ∨ ∃ kvs, H p = some (.dT kvs))) ∨ (T = "set" ∧ ∃ S n, H p = some (.set S n))
  | _ => False
theorem tyV_is {pins : List (Addr × Obj)} {σ : St} {H : Hp} {s : Shared} {T : String} {x : V} {v : Value} (I : Inv X pins σ H s) (r : RelV x v) (ty : tyV X.K T x H) :
    s.TypeIs v T ∧ ∀ a, v = .ref a → ∃ ob, s.heap.get? a = some ob ∧ ob.dict = none := by
  cases x with
  | str z =>
    obtain ⟨t, rfl⟩ := r
    cases (show T = "str" from ty)
    exact ⟨typeIs_str s z t, fun _ e => nomatch e⟩
  | int i =>
    obtain ⟨t, rfl⟩ := r
    cases (show T = "int" from ty)
    exact ⟨typeIs_int s i t, fun _ e => nomatch e⟩
  | ref p =>
    cases r
    rcases ty with ⟨rfl, xs, hq⟩ | ⟨rfl, o, hk, hc, hd⟩ | ⟨rfl, hk⟩ | ⟨rfl, S, n, hk⟩
    · obtain ⟨its, _, pl, _⟩ := I.list hq
      refine ⟨pl.isList.typeIs, fun a e => ?_⟩
      cases e
      obtain ⟨o, n, e, c, hd, _⟩ := pl
      exact ⟨o, e, hd⟩
    · refine ⟨⟨o, I.kIn p o hk, hc⟩, fun a e => ?_⟩
      cases e
      exact ⟨o, I.kIn _ o hk, hd⟩
    · have z : ∃ o, s.heap.get? p = some o ∧ o.ExactDict := by
        rcases hk with ⟨kvs, hk⟩ | ⟨kvs, hk⟩
        · obtain ⟨_, _, _, _, o, _, _, e, ex, _⟩ := I.hok p _ hk
          exact ⟨o, e, ex⟩
        · obtain ⟨_, _, _, _, o, _, _, e, ex, _⟩ := I.hok p _ hk
          exact ⟨o, e, ex⟩
      obtain ⟨o, e, ex⟩ := z
      refine ⟨⟨o, e, ex.1⟩, fun a e2 => ?_⟩
      cases e2
      exact ⟨o, e, ex.2.1⟩
    · obtain ⟨o, _, _, _, e, ex, _⟩ := I.hok p _ hk
      refine ⟨⟨o, e, ex.1⟩, fun a e2 => ?_⟩
      cases e2
      exact ⟨o, e, ex.2.1⟩
  | _ => exact False.elim ty
def tBM (K : PySem.W.Frag) (T : String) (r : V → List V → Hp → VK → Prop) (to : TE) (t : TA) : TE := fun σ H Q => to σ H fun x H1 => tyV K T x H1 ∧ t σ H1 fun xs H2 => r x xs H2 Q
variable {o e : Expr} {es : List Expr} {to : TE} {t : TA} {name : Str} {apos cpos : Pos} {T id : String} {r : V → List V → Hp → VK → Prop}
theorem pe_bm (pa : PlainAttrs T) (slot : Slot T name id) (hty : typeOf (.builtin id) = pure (.type "method_descriptor")) (hm : MtR X id r) (ho : PE X o to) (ha : PA X (e :: es) t)
    (hbase : attributeBase o name X.env (eval o X.env) = eval o X.env := by rfl)
    (hfew : ((backTo cpos (starEach (e :: es) X.env)).all (fun x => !x.1) && (backToKw cpos (keywordEach [] X.env)).all (fun x => x.1.isSome)
      && decide ((e :: es).length + ([] : List Keyword).length + (if ([] : List Keyword).isEmpty then 0 else 1) < 30)) = true := by rfl)
    (hline : (apos.endLine == cpos.line) = true := by rfl) (hs : starEach (e :: es) X.env = (false, eval e X.env) :: starEach es X.env := by rfl) (hplain : (backTo cpos (starEach es X.env)).any (·.1) = false := by rfl) :
    PE X (.Call (.Attribute o name apos) (e :: es) [] cpos) (tBM X.K T r to t) := by
  intro pins s σ H Q I h
  refine wpAny_Call_method_late hbase hfew hline rfl (thn (ho pins s σ H _ I h) fun v s1 ⟨x, H1, I1, r1, ty, q1⟩ => ?_)
  obtain ⟨h1, h2⟩ := tyV_is I1 r1 ty
  refine ⟨T, id, pa, slot, hty, h1, h2, ?_⟩
  have hA := ha cpos pins s1 σ H1 _ I1 q1
  rw [hs] at hA ⊢
  refine Calls.callWith_builtin (by show (false || (backTo cpos (starEach es X.env)).any (·.1)) = false; rw [hplain] <;> rfl) (Calls.evalArgs_plain ?_)
  exact thn hA fun us s2 ⟨vs, H2, I2, r2, q2⟩ => hm pins s2 σ H2 x vs v us Q I2 r1 r2 q2
/- xs.append(e), list.index on a module's tuple .. are MtR facts of 06m -/
end
end L2

namespace L2
open PySem PySem.Spec PyProof.Rows

def MtM (X : Cx) (id : String) (r : V → List V → Hp → VK → Prop) : Prop :=
  ∀ (pins : List (Addr × Obj)) (s : Shared) (σ : St) (H : Hp) (x : V) (xs : List V) (v : Value) (us : List Value) (Q : VK), Inv X pins σ H s → RelV x v → Vals xs us → r x xs H Q →
    wpAny (model X.prog X.w) X.A (call (.builtin id) (v :: us)) (EP X pins σ Q) X.xe s

/-! ### lists of values -/
theorem Vals.one : ∀ {x : V} {us : List Value}, Vals [x] us → ∃ u, us = [u] ∧ RelV x u
  | _, _, .cons r .nil => ⟨_, rfl, r⟩
theorem Vals.two : ∀ {x y : V} {us : List Value}, Vals [x, y] us → ∃ u v, us = [u, v] ∧ RelV x u ∧ RelV y v
  | _, _, _, .cons r (.cons q .nil) => ⟨_, _, rfl, r, q⟩
theorem Vals.zero : ∀ {us : List Value}, Vals [] us → us = []
  | _, .nil => rfl
theorem Vals.reverse {xs : List V} {us : List Value} (h : Vals xs us) : Vals xs.reverse us.reverse := by
  induction h with
  | nil => exact .nil
  | cons r t ih => rw [List.reverse_cons, List.reverse_cons]; exact Vals.append ih (.cons r .nil)
section
variable {X : Cx} {pins : List (Addr × Obj)} {σ : St} {H : Hp} {s : Shared} {l b : Addr} {xs ys zs : List V}

/-! ### the two steps: a tracked list is rewritten, a new list is laid -/
theorem Inv.lset {its its' : List Value} {n : Nat} {f : Array Value → Array Value} {t' : Nat} (I : Inv X pins σ H s) (hH : H l = some (.lst xs))
    (e : s.heap.get? l = some { cls := .type "list", data := .seq its.toArray n }) (hf : f its.toArray = its'.toArray) (hv : Vals ys its') (hz : ys.length ≤ sizeLine) :
    Inv X pins σ (upd H l (.lst ys)) { s with heap := s.heap.update l (Obj.mapSeq f), toks := t' } := by
  have q := PySem.IsL.update e f
  rw [hf] at q
  refine I.write (x := l) (e := l) (by rw [hH]; exact trivial) (.inl rfl) (fun b' u hb hu => (Heap.get?_update_other s.heap (Obj.mapSeq f) (Ne.symm hb)).trans hu) ⟨_, q⟩ ?_
  exact ⟨hz, its', _, hv, q⟩
theorem Inv.lnew {its : List Value} {t' : Nat} (I : Inv X pins σ H s) (hv : Vals ys its) (hz : ys.length ≤ sizeLine) :
    Inv X pins σ (upd H s.heap.objs.size (.lst ys)) { s with heap := s.heap.push { cls := .type "list", data := .seq its.toArray }, toks := t' } :=
  I.laid (fun _ _ q => Heap.get?_push_of_some _ q) (Nat.le_refl _) ⟨hz, its, 0, hv, Heap.get?_push_size _ rfl⟩
theorem Inv.fresh (I : Inv X pins σ H s) : H s.heap.objs.size = none := I.hok.fresh (Nat.le_refl _)
theorem Inv.lstM (I : Inv X pins σ H s) (hH : H l = some (.lst xs)) : xs.length ≤ sizeLine ∧ ∃ (its : List Value) (n : Nat), Vals xs its ∧ xs.length = its.length ∧ s.heap.get? l = some { cls := .type "list", data := .seq its.toArray n } := by
  obtain ⟨z, its, n, r, e⟩ := I.hok l _ hH
  exact ⟨z, its, n, r, r.length, e⟩

theorem notLongL {n : Nat} (h : n ≤ sizeLine) : Builtin.List.listTooLong n = false := by
  unfold Builtin.List.listTooLong
  exact decide_eq_false (by omega)
end

section
variable {X : Cx}

/-! ### methods -/
def rAppend : V → List V → Hp → VK → Prop := fun x vs H Q => ∃ l xs y, x = .ref l ∧ vs = [y] ∧ H l = some (.lst xs) ∧ xs.length < sizeLine ∧ Q .non (upd H l (.lst (xs ++ [y])))
theorem mt_append : MtM X "list.append" rAppend := by
  intro pins s σ H x vs v us Q I rx rv h
  obtain ⟨l, xs, y, rfl, rfl, hH, hz, q⟩ := h
  cases rx
  obtain ⟨u, rfl, ru⟩ := rv.one
  obtain ⟨z, its, n, r, hl, e⟩ := I.lstM hH
  refine call_meets F.slot_list_append ⟨_, e, rfl⟩ F.entry_list_append (F.args_list_append_2 _ _) (PySem.list_append l its.toArray n u (by rw [List.size_toArray]; omega)) ⟨e, ?_⟩
  refine ⟨.non, _, I.lset (its' := its ++ [u]) hH e (by simp) (r.append (.cons ru .nil)) ?_, rfl, q⟩
  rw [List.length_append, List.length_singleton]
  omega

def rExtend : V → List V → Hp → VK → Prop := fun x vs H Q => ∃ l b xs zs, x = .ref l ∧ vs = [.ref b] ∧ H l = some (.lst xs) ∧ H b = some (.lst zs) ∧ xs.length + zs.length ≤ sizeLine ∧ Q .non (upd H l (.lst (xs ++ zs)))
theorem mt_extend : MtM X "list.extend" rExtend := by
  intro pins s σ H x vs v us Q I rx rv h
  obtain ⟨l, b, xs, zs, rfl, rfl, hH, hB, hz, q⟩ := h
  cases rx
  obtain ⟨u, rfl, ru⟩ := rv.one
  cases ru
  obtain ⟨z, its, n, r, hl, e⟩ := I.lstM hH
  obtain ⟨z2, its2, n2, r2, hl2, e2⟩ := I.lstM hB
  have hsz : its.toArray.size + its2.toArray.size ≤ sizeLine := by rw [List.size_toArray, List.size_toArray]; omega
  have hlong : ¬ (!its.toArray.isEmpty && Builtin.List.listTooLong (its.toArray.size + its2.toArray.size)) = true := by
    rw [notLongL hsz, Bool.and_false]
    exact Bool.false_ne_true
  refine call_meets F.slot_list_extend ⟨_, e, rfl⟩ F.entry_list_extend (F.args_list_extend_2 _ _)
    (AutoSeq1.list_extend_list_list_0 l its.toArray n b its2.toArray n2 hlong (by rw [List.size_toArray]; omega) (by omega)) ⟨e, e2, ?_⟩
  refine ⟨.non, _, I.lset (its' := its ++ its2) hH e (by simp) (r.append r2) ?_, rfl, q⟩
  rw [List.length_append]
  omega

/-! ### list + list, list += list, list * int -/
/-! ### del xs[i] -/
end

/-! ### xs[a:b] = ys -/
section
variable {prog : Program} {w : World} {A : Around} {E : Value → Shared → Prop} {s : Shared}
set_option maxRecDepth 100000 in
end

section
variable {X : Cx}
end
end L2

namespace L2
open PySem PySem.Spec PyProof.Rows

/-! ### lists of pairs as tables -/
section
variable {κ : Type} [DecidableEq κ]
def valV (kvs : List (κ × V)) (k : κ) : Option V := (kvs.find? fun kv => decide (kv.1 = k)).map (·.2)
/-- in its place, or at the end -/
def putK (kvs : List (κ × V)) (k : κ) (v : V) : List (κ × V) :=
  if (kvs.any fun kv => decide (kv.1 = k)) = true then kvs.map (fun kv => if kv.1 = k then (kv.1, v) else kv) else kvs ++ [(k, v)]
def dropK (kvs : List (κ × V)) (k : κ) : List (κ × V) := kvs.filter fun kv => decide (kv.1 ≠ k)

theorem valV_pos {p : κ × V} {r : List (κ × V)} {k : κ} (e : p.1 = k) : valV (p :: r) k = some p.2 := by simp [valV, List.find?_cons, e]
theorem valV_neg {p : κ × V} {r : List (κ × V)} {k : κ} (e : ¬ p.1 = k) : valV (p :: r) k = valV r k := by simp [valV, List.find?_cons, e]
theorem valV_any (k : κ) : ∀ kvs : List (κ × V), (kvs.any fun kv => decide (kv.1 = k)) = (valV kvs k).isSome
  | [] => rfl
  | p :: r => by
    rw [List.any_cons]
    by_cases e : p.1 = k
    · simp only [valV_pos e, decide_eq_true e, Bool.true_or, Option.isSome_some]
    · rw [valV_neg e, decide_eq_false e, Bool.false_or]; exact valV_any k r
theorem length_putK (kvs : List (κ × V)) (k : κ) (v : V) : (putK kvs k v).length ≤ kvs.length + 1 := by
  unfold putK
  split
  · rw [List.length_map]; omega
  · rw [List.length_append, List.length_cons, List.length_nil]; omega
theorem RelO.isSome_eq {o : Option V} {u : Option Value} (r : RelO o u) : o.isSome = u.isSome := by
  cases o with
  | none => cases u with
    | none => rfl
    | some _ => exact (show False from r).elim
  | some _ => cases u with
    | none => exact (show False from r).elim
    | some _ => rfl
theorem RelO.getD {o : Option V} {u : Option Value} {d : V} {d' : Value} (r : RelO o u) (rd : RelV d d') : RelV (o.getD d) (u.getD d') := by
  cases o with
  | none => cases u with
    | none => exact rd
    | some _ => exact (show False from r).elim
  | some _ => cases u with
    | none => exact (show False from r).elim
    | some _ => exact r

/-- raw tables of the same keys -/
theorem KV.val {kvs : List (κ × V)} {vs : List (κ × Value)} (r : KV kvs vs) (k : κ) : RelO (valV kvs k) (valueAt vs k) := by
  unfold KV at r
  induction r with
  | nil => exact True.intro
  | @cons p q ps qs h t ih =>
    obtain ⟨h1, h2⟩ := h
    by_cases e : p.1 = k
    · have e' : q.1 = k := h1.symm.trans e
      have b : valueAt (q :: qs) k = some q.2 := by simp [valueAt, List.find?_cons, e']
      rw [valV_pos e, b]; exact h2
    · have e' : ¬ q.1 = k := fun z => e (h1.trans z)
      have b : valueAt (q :: qs) k = valueAt qs k := by simp [valueAt, List.find?_cons, e']
      rw [valV_neg e, b]; exact ih
theorem KV.any {kvs : List (κ × V)} {vs : List (κ × Value)} (r : KV kvs vs) (k : κ) : (kvs.any fun kv => decide (kv.1 = k)) = vs.any fun kv => decide (kv.1 = k) := by
  unfold KV at r
  induction r with
  | nil => rfl
  | cons h t ih => rw [List.any_cons, List.any_cons, ih, h.1]
theorem KV.repl {kvs : List (κ × V)} {vs : List (κ × Value)} (r : KV kvs vs) (k : κ) {y : V} {u : Value} (ry : RelV y u) :
    KV (kvs.map fun kv => if kv.1 = k then (kv.1, y) else kv) (vs.map fun kv => if kv.1 = k then (kv.1, u) else kv) := by
  unfold KV at r ⊢
  induction r with
  | nil => exact .nil
  | @cons p q ps qs h t ih =>
    rw [List.map_cons, List.map_cons]
    refine .cons ?_ ih
    obtain ⟨h1, h2⟩ := h
    by_cases e : p.1 = k
    · rw [if_pos e, if_pos (h1.symm.trans e)]; exact ⟨h1, ry⟩
    · rw [if_neg e, if_neg (fun z => e (h1.trans z))]; exact ⟨h1, h2⟩
theorem KV.put {kvs : List (κ × V)} {vs : List (κ × Value)} (r : KV kvs vs) (k : κ) {y : V} {u : Value} (ry : RelV y u) : KV (putK kvs k y) (stored vs k u) := by
  unfold putK stored
  rw [r.any k]
  by_cases e : (vs.any fun kv => decide (kv.1 = k)) = true
  · rw [if_pos e, if_pos e]; exact r.repl k ry
  · rw [if_neg e, if_neg e]; exact Paired.snoc r ⟨rfl, ry⟩
theorem KV.drop {kvs : List (κ × V)} {vs : List (κ × Value)} (r : KV kvs vs) (k : κ) : KV (dropK kvs k) (without vs k) := by
  unfold KV at r ⊢
  unfold dropK without
  induction r with
  | nil => exact .nil
  | @cons p q ps qs h t ih =>
    obtain ⟨h1, h2⟩ := h
    rw [List.filter_cons, List.filter_cons]
    by_cases e : p.1 = k
    · have a : ¬ decide (p.1 ≠ k) = true := by simp [e]
      have b : ¬ decide (q.1 ≠ k) = true := by simp [h1.symm.trans e]
      rw [if_neg a, if_neg b]; exact ih
    · have e' : ¬ q.1 = k := fun z => e (h1.trans z)
      have a : decide (p.1 ≠ k) = true := by simp [e]
      have b : decide (q.1 ≠ k) = true := by simp [e']
      rw [if_pos a, if_pos b]; exact .cons ⟨h1, h2⟩ ih
theorem KV.keys {kvs : List (κ × V)} {vs : List (κ × Value)} (r : KV kvs vs) : kvs.map (·.1) = vs.map (·.1) := by
  unfold KV at r
  induction r with
  | nil => rfl
  | cons h t ih => rw [List.map_cons, List.map_cons, ih, h.1]
theorem KV.length {kvs : List (κ × V)} {vs : List (κ × Value)} (r : KV kvs vs) : kvs.length = vs.length := Paired.length r
end


/-! ### a tracked dict, its keys ints and texts or tuples of these -/
theorem kV_is {P : Program} {w : World} {k : Key} {u : Value} (r : RelV (kV k) u) : (mixKind P w).is k u = true := by
  cases k with
  | inl i => obtain ⟨t, e⟩ := (show ∃ t, u = Value.int i t from r); subst e; exact mixKind_int P w i t
  | inr x => obtain ⟨t, e⟩ := (show ∃ t, u = Value.str x t from r); subst e; exact mixKind_str P w x t
theorem items_are {P : Program} {w : World} : ∀ {ks : List Key} {us : List Value}, Vals (ks.map kV) us → ItemsAre (mixKind P w) ks us
  | [], _, r => by rw [List.map_nil] at r; cases r; exact .nil
  | k :: ks, _, r => by
    rw [List.map_cons] at r
    cases r with
    | cons h t => exact .cons (kV_is h) (items_are t)

/-- raw entries of a dict with tuple keys -/
abbrev KT (H : Hp) : List (List Key × V) → List (List Key × Addr × Value) → Prop := Paired fun p q => p.1 = q.1 ∧ H q.2.1 = some (.tup (p.1.map kV)) ∧ RelV p.2 q.2.2
theorem KT.val {H : Hp} {kvs : List (List Key × V)} {xs : List (List Key × Addr × Value)} (r : KT H kvs xs) (k : List Key) : RelO (valV kvs k) ((atKey xs k).map (·.2)) := by
  induction r with
  | nil => exact True.intro
  | @cons p q ps qs h t ih =>
    obtain ⟨h1, _, h2⟩ := h
    by_cases e : p.1 = k
    · have e' : q.1 = k := h1.symm.trans e
      have b : atKey (q :: qs) k = some q.2 := by simp [atKey, List.find?_cons, e']
      rw [valV_pos e, b]; exact h2
    · have e' : ¬ q.1 = k := fun z => e (h1.trans z)
      have b : atKey (q :: qs) k = atKey qs k := by simp [atKey, List.find?_cons, e']
      rw [valV_neg e, b]; exact ih
theorem KT.repl {H : Hp} {kvs : List (List Key × V)} {xs : List (List Key × Addr × Value)} (r : KT H kvs xs) (k : List Key) {y : V} {u : Value} (ry : RelV y u) :
    KT H (kvs.map fun kv => if kv.1 = k then (kv.1, y) else kv) (xs.map (putAt k u)) := by
  induction r with
  | nil => exact .nil
  | @cons p q ps qs h t ih =>
    rw [List.map_cons, List.map_cons]
    refine .cons ?_ ih
    obtain ⟨h1, h2, h3⟩ := h
    unfold putAt
    by_cases e : p.1 = k
    · rw [if_pos e, if_pos (h1.symm.trans e)]; exact ⟨h1, h2, ry⟩
    · rw [if_neg e, if_neg (fun z => e (h1.trans z))]; exact ⟨h1, h2, h3⟩
theorem KT.put {H : Hp} {kvs : List (List Key × V)} {xs : List (List Key × Addr × Value)} (r : KT H kvs xs) (k : List Key) {b : Addr} {y : V} {u : Value} (hb : H b = some (.tup (k.map kV))) (ry : RelV y u) :
    KT H (putK kvs k y) (storedH xs k b u) := by
  have e : (kvs.any fun kv => decide (kv.1 = k)) = (atKey xs k).isSome := by
    rw [valV_any, (r.val k).isSome_eq, Option.isSome_map]
  unfold putK storedH
  rw [e]
  by_cases q : (atKey xs k).isSome = true
  · rw [if_pos q, if_pos q]; exact r.repl k ry
  · rw [if_neg q, if_neg q]; exact Paired.snoc r ⟨rfl, hb, ry⟩
theorem KT.keeps {H H' : Hp} {kvs : List (List Key × V)} {xs : List (List Key × Addr × Value)} (r : KT H kvs xs) (ht : ∀ b ys, H b = some (.tup ys) → H' b = some (.tup ys)) : KT H' kvs xs :=
  Paired.mapP r fun _ _ z => ⟨z.1, ht _ _ z.2.1, z.2.2⟩

section
variable {P : Program} {w : World} {H : Hp} {h : Heap} {a : Addr}
theorem rd_of {u : HO} (ok : HOk P w H h) (e : Rd H a u) : ObjOk P w H h a u := e.ok ok
theorem dk_rd {kvs : List (Key × V)} (ok : HOk P w H h) (e : Rd H a (.dK kvs)) : kvs.length ≤ sizeLine ∧ (a == sysModules) = false ∧ ∃ vs, KV kvs vs ∧ h.DictOf (mixKind P w) a vs :=
  show ObjOk P w H h a (.dK kvs) from rd_of ok e
theorem dk_of {kvs : List (Key × V)} (ok : HOk P w H h) (e : H a = some (.dK kvs)) : kvs.length ≤ sizeLine ∧ (a == sysModules) = false ∧ ∃ vs, KV kvs vs ∧ h.DictOf (mixKind P w) a vs := dk_rd ok (.inl e)
/-- a tracked tuple of ints and texts is a key -/
theorem key_of {ks : List Key} (ok : HOk P w H h) (e : H a = some (.tup (ks.map kV))) : (tupleKind (mixKind P w)).is h ks a := by
  obtain ⟨_, its, r, o, h1, h2, n, h3⟩ := (show ObjOk P w H h a (.tup (ks.map kV)) from ok a _ e)
  exact ⟨o, its.toArray, n, h1, h2, h3, by simpa using items_are r⟩
theorem dt_rd {kvs : List (List Key × V)} (ok : HOk P w H h) (e : Rd H a (.dT kvs)) : kvs.length ≤ sizeLine ∧ (a == sysModules) = false ∧
    ∃ xs, KT H kvs xs ∧ h.DictOfH (tupleKind (mixKind P w)) a xs := by
  obtain ⟨z, y, xs, r, o, es, ep, h1, h2, h3, h4, h5⟩ := (show ObjOk P w H h a (.dT kvs) from rd_of ok e)
  refine ⟨z, y, xs, r, o, es, ep, h1, h2, h3, h4, fun x hx => ?_, h5⟩
  have all : ∀ {l : List (List Key × V)} {m : List (List Key × Addr × Value)}, KT H l m → ∀ x ∈ m, (tupleKind (mixKind P w)).is h x.1 x.2.1 := by
    intro l m q
    induction q with
    | nil => intro x hx; exact nomatch hx
    | @cons p q ps qs hq t ih =>
      intro x hx
      rcases List.mem_cons.mp hx with e | hx
      · subst e
        exact key_of ok (by rw [← hq.1]; exact hq.2.1)
      · exact ih x hx
  exact all r x hx
theorem dt_of {kvs : List (List Key × V)} (ok : HOk P w H h) (e : H a = some (.dT kvs)) : kvs.length ≤ sizeLine ∧ (a == sysModules) = false ∧
    ∃ xs, KT H kvs xs ∧ h.DictOfH (tupleKind (mixKind P w)) a xs := dt_rd ok (.inl e)
end

/-- what the dict at a holds at the key y -/
def DGet (H : Hp) (a : Addr) (y : V) (r : Option V) : Prop :=
  (∃ kvs k, Rd H a (.dK kvs) ∧ y = kV k ∧ r = valV kvs k) ∨ ∃ kvs k b, Rd H a (.dT kvs) ∧ y = .ref b ∧ H b = some (.tup (k.map kV)) ∧ r = valV kvs k
/-- the heap behind a[y] = v -/
def DPut (H : Hp) (a : Addr) (y v : V) (H' : Hp) : Prop :=
  (∃ kvs k, H a = some (.dK kvs) ∧ y = kV k ∧ kvs.length < sizeLine ∧ H' = upd H a (.dK (putK kvs k v))) ∨
  ∃ kvs k b, H a = some (.dT kvs) ∧ y = .ref b ∧ H b = some (.tup (k.map kV)) ∧ kvs.length < sizeLine ∧ H' = upd H a (.dT (putK kvs k v))
theorem DGet.k {H : Hp} {a : Addr} {kvs : List (Key × V)} {k : Key} (e : H a = some (.dK kvs)) : DGet H a (kV k) (valV kvs k) := .inl ⟨kvs, k, .inl e, rfl, rfl⟩
theorem DGet.t {H : Hp} {a b : Addr} {kvs : List (List Key × V)} {k : List Key} (e : H a = some (.dT kvs)) (eb : H b = some (.tup (k.map kV))) : DGet H a (.ref b) (valV kvs k) := .inr ⟨kvs, k, b, .inl e, rfl, eb, rfl⟩
theorem DPut.k {H : Hp} {a : Addr} {kvs : List (Key × V)} {k : Key} {v : V} (e : H a = some (.dK kvs)) (hl : kvs.length < sizeLine) : DPut H a (kV k) v (upd H a (.dK (putK kvs k v))) := .inl ⟨kvs, k, e, rfl, hl, rfl⟩
theorem DPut.t {H : Hp} {a b : Addr} {kvs : List (List Key × V)} {k : List Key} {v : V} (e : H a = some (.dT kvs)) (eb : H b = some (.tup (k.map kV))) (hl : kvs.length < sizeLine) :
    DPut H a (.ref b) v (upd H a (.dT (putK kvs k v))) := .inr ⟨kvs, k, b, e, rfl, eb, hl, rfl⟩


section
variable {X : Cx} {pins : List (Addr × Obj)} {σ : St} {H : Hp} {s : Shared} {a : Addr} {y v : V} {u r : Value} {o : Option V} {A : Around} {E : Value → Shared → Prop}

theorem Inv.big (I : Inv X pins σ H s) : sysModules < s.heap.objs.size := by
  have h : mainGlobals < s.heap.objs.size := (I.mod.glob.keeps I.bk).lt
  exact Nat.lt_trans (by decide) h

/-- y in d -/
theorem d_in {Q : Value → Shared → Prop} (hu : A.units + 1 < cLine) (I : Inv X pins σ H s) (g : DGet H a y o) (ry : RelV y u) (h : ∀ s', Inv X pins σ H s' → Q (.bool o.isSome) s') :
    wpAny (model X.prog X.w) A (compareOp .In u (.ref a)) Q E s := by
  rcases g with ⟨kvs, k, e, ey, l⟩ | ⟨kvs, k, b, e, ey, eb, l⟩
  · subst ey
    obtain ⟨z, hd, vs, rel, dd⟩ := dk_rd I.hok e
    refine wpAny_in_of (kV_is ry) hd dd.mapOf ?_
    rw [← (rel.val k).isSome_eq, ← l]
    exact h _ (I.tok _)
  · subst ey
    cases (show u = Value.ref b from ry)
    obtain ⟨z, hd, xs, rel, dd⟩ := dt_rd I.hok e
    refine wpAny_in_heap (tupleKind_room_in1 hu) (key_of I.hok eb) hd dd ?_
    have q := (rel.val k).isSome_eq
    rw [Option.isSome_map] at q
    rw [← q, ← l]
    exact h _ (I.tok _)
/-- a dict's object is replaced -/
theorem d_write {h' : Heap} {t' : Nat} {ob : HO} (I : Inv X pins σ H s) (mu : Mut (H a)) (hs : Heap.SameBut a s.heap h') (he : ∃ q, h'.get? a = some q) (new : ObjOk X.prog X.w (upd H a ob) h' a ob) :
    Inv X pins σ (upd H a ob) { s with heap := h', toks := t' } :=
  I.write (x := a) (e := a) mu (.inl rfl) (fun b q hb z => (hs.2 b hb).trans z) he new
theorem dk_new {P : Program} {w : World} {H' : Hp} {h' : Heap} {kvs : List (Key × V)} {vs : List (Key × Value)} (z : kvs.length ≤ sizeLine) (hd : (a == sysModules) = false) (rel : KV kvs vs) (dd : h'.DictOf (mixKind P w) a vs) :
    ObjOk P w H' h' a (.dK kvs) := ⟨z, hd, vs, rel, dd⟩
/-- d[y] = v -/
theorem d_setItem {H' : Hp} {Q : Unit → Shared → Prop} (hu : A.units + 1 < cLine) (I : Inv X pins σ H s) (g : DPut H a y v H') (ry : RelV y u) (rv : RelV v r) (h : ∀ s', Inv X pins σ H' s' → Q () s') :
    wpAny (model X.prog X.w) A (setItem (.ref a) u r) Q E s := by
  rcases g with ⟨kvs, k, e, ey, l, eH⟩ | ⟨kvs, k, b, e, ey, eb, l, eH⟩
  · subst ey eH
    obtain ⟨z, hd, vs, rel, dd⟩ := dk_of I.hok e
    have hz : vs.length ≤ sizeLine := by rw [← rel.length]; exact z
    have hl : (putK kvs k v).length ≤ sizeLine := by have := length_putK kvs k v; omega
    refine wpAny_setItem_pairs (hsz := hz) (kV_is ry) dd fun h' dd' hs => h _ ?_
    have he : ∃ q, h'.get? a = some q := let ⟨q, _, _, hq, _⟩ := dd'; ⟨q, hq⟩
    exact d_write I (by rw [e]; exact True.intro) hs he (dk_new hl hd (rel.put k rv) dd')
  · subst ey eH
    cases (show u = Value.ref b from ry)
    obtain ⟨z, hd, xs, rel, dd⟩ := dt_of I.hok e
    have hz : xs.length ≤ sizeLine := by rw [← Paired.length rel]; exact z
    have hl : (putK kvs k v).length ≤ sizeLine := by have := length_putK kvs k v; omega
    refine wpAny_setItem_heap (hsz := hz) (tupleKind_room_in1 hu) (key_of I.hok eb) dd fun h' dd' hs => h _ ?_
    obtain ⟨q, es, ep, hq, h2, h3, h4, _, h5⟩ := dd'
    refine d_write I (by rw [e]; exact True.intro) hs ⟨q, hq⟩ ⟨hl, hd, _, (rel.put k eb rv).keeps fun c ys ec => ?_, q, es, ep, hq, h2, h3, h4, h5⟩
    rw [upd_ne (ne_of ec e (fun z => nomatch z))]
    exact ec
end

section
variable {X : Cx} {pins : List (Addr × Obj)} {σ : St} {H : Hp} {s : Shared} {a : Addr} {kvs : List (Key × V)} {k : Key} {u : Value} {A : Around} {E : Value → Shared → Prop}
end


/-! ### readings and rules -/
/-- y in d, y not in d -/
def tDIn (ty td : TE) : TE := fun σ H Q => ty σ H fun y H1 => td σ H1 fun x H2 => ∃ a o, x = .ref a ∧ DGet H2 a y o ∧ Q (.bl o.isSome) H2
/-- d[y] = v -/
def sDPut (td ty tv : TE) : TS := fun D σ H => tv σ H fun v H1 => td σ H1 fun x H2 => ty σ H2 fun y H3 => ∃ a H4, x = .ref a ∧ DPut H3 a y v H4 ∧ D.nx σ H4
section
variable {X : Cx} {o i e value : Expr} {pos pos' tpos : Pos} {td ty tv : TE}
theorem pc_din (hu : X.A.units + 1 < cLine) (hi : PE X i ty) (ho : PE X o td) : PC X .In i o (tDIn ty td) := by
  intro pins s σ H Q I h
  refine thn (hi pins s σ H _ I h) fun iv s1 ⟨y, H1, I1, ry, q1⟩ => thn (ho pins s1 σ H1 _ I1 q1) fun u s2 ⟨x, H2, I2, rx, a, ov, ex, g, q2⟩ => ?_
  subst ex
  obtain rfl : u = Value.ref a := rx
  exact d_in hu I2 g ry fun s3 I3 => ⟨.bl ov.isSome, H2, I3, rfl, q2⟩
theorem ps_dput (hu : X.A.units + 1 < cLine) (ho : PE X o td) (hi : PE X i ty) (hv : PE X value tv) (hs : swapsWith value (some (.Subscript o i pos')) pos.line X.env = pure false) :
    PS X (.Assign [.Subscript o i pos'] value pos) (sDPut td ty tv) := by
  intro pins s σ H D I h
  refine wpAny_Assign_Subscript (thn (hv pins s σ H _ I h) fun r s1 ⟨v, H1, I1, rv, q1⟩ => thn (ho pins s1 σ H1 _ I1 q1) fun u s2 ⟨x, H2, I2, rx, q2⟩ => thn (hi pins s2 σ H2 _ I2 q2) fun iv s3 ⟨y, H3, I3, ry, a, H4, ex, g, q3⟩ => ?_) hs
  subst ex
  obtain rfl : u = Value.ref a := rx
  exact d_setItem hu I3 g ry rv fun s4 I4 => ⟨σ, H4, I4, q3⟩
end


/-! ### displays -/
theorem dt_empty {P : Program} {w : World} {H : Hp} (h : Heap) (hb : sysModules < h.objs.size) : ObjOk P w H (h.push { cls := .type "dict", data := .dict #[] }) h.objs.size (.dT []) :=
  ⟨Nat.zero_le _, beq_eq_false_iff_ne.mpr (Ne.symm (Nat.ne_of_lt hb)), [], .nil, _, #[], 0, Heap.get?_push_size _ rfl, ⟨rfl, rfl, rfl⟩, rfl, rfl, List.nodup_nil⟩
def tDNewT : TE := fun _ H Q => ∀ p, H p = none → Q (.ref p) (upd H p (.dT []))
section
variable {X : Cx} {pos : Pos}
theorem pe_dnewT : PE X (.Dict [] [] pos) tDNewT := fun pins s σ H Q I h =>
  wpAny_Dict_empty ⟨.ref s.heap.objs.size, _, I.laid (a := s.heap.objs.size) (o := .dT []) (t' := s.toks) (fun _ _ q => Heap.get?_push_of_some _ q) (Nat.le_refl _) (dt_empty s.heap I.big), rfl, h _ (I.hok.fresh (Nat.le_refl _))⟩
end

/-! ### methods -/
/-- a method call o.m(e) of a built-in, with one argument: what must be seen of the text -/
structure M1 (X : Cx) (o : Expr) (m : Str) (apos : Pos) (e : Expr) (cpos : Pos) : Prop where
  base : attributeBase o m X.env (eval o X.env) = eval o X.env
  few : ((backTo cpos (starEach [e] X.env)).all (fun x => !x.1) && (backToKw cpos (keywordEach [] X.env)).all (fun x => x.1.isSome)
    && decide (([e] : List Expr).length + ([] : List Keyword).length + (if ([] : List Keyword).isEmpty then 0 else 1) < 30)) = true
  line : (apos.endLine == cpos.line) = true
  trees : backTo cpos (starEach [e] X.env) = [(false, eval e X.env)]
structure M2 (X : Cx) (o : Expr) (m : Str) (apos : Pos) (e f : Expr) (cpos : Pos) : Prop where
  base : attributeBase o m X.env (eval o X.env) = eval o X.env
  few : ((backTo cpos (starEach [e, f] X.env)).all (fun x => !x.1) && (backToKw cpos (keywordEach [] X.env)).all (fun x => x.1.isSome)
    && decide (([e, f] : List Expr).length + ([] : List Keyword).length + (if ([] : List Keyword).isEmpty then 0 else 1) < 30)) = true
  line : (apos.endLine == cpos.line) = true
  trees : backTo cpos (starEach [e, f] X.env) = [(false, eval e X.env), (false, eval f X.env)]

section
variable {X : Cx} {pins : List (Addr × Obj)} {σ : St} {H : Hp} {s : Shared} {a : Addr} {y d : V} {u r : Value} {o : Option V} {A : Around} {E : Value → Shared → Prop}
end

section
variable {X : Cx} {o e f : Expr} {apos cpos : Pos} {td ty tx : TE}
end

/-! ### dict(d): a copy -/
section
variable {X : Cx} {pins : List (Addr × Obj)} {σ : St} {H : Hp} {s : Shared} {a : Addr} {kvs : List (Key × V)} {A : Around} {E : Value → Shared → Prop}
end


section
variable {X : Cx} {pins : List (Addr × Obj)} {σ : St} {H : Hp} {s : Shared} {a : Addr} {y : V} {u : Value} {A : Around} {E : Value → Shared → Prop}
end
end L2

namespace Att
open PySem PySem.W PySem.Calls PyProof.Rows

/-! ### the script -/
theorem ints_of_wellAll {P : Params} {h : Heap} : ∀ (ns : List Int) (vs : List Value), WellAll P h vs (ns.map WData.int) → IntsAre vs ns := by
  intro ns
  induction ns with
  | nil =>
    intro vs w
    rw [List.map_nil] at w
    cases w
    exact .nil
  | cons n ns ih =>
    intro vs w
    rw [List.map_cons] at w
    cases w with
    | cons a b =>
      cases a
      exact .cons _ _ (ih _ b)

theorem script_of {l : OpenLaw} {n : Nat} (hn : l.most = some n) {P : Params} {h : Heap} {args : List WData} {vals : List Value}
    (hpre : l.row.toRowW.claim.pre args = true) (hwl : WellAll P h vals args) :
    ∃ a vs ns, vals = [Value.ref a] ∧ args = [WData.list (ns.map WData.int)] ∧ h.get? a = some { cls := .type "list", data := .seq vs.toArray } ∧ IntsAre vs ns ∧ ns.length ≤ n := by
  have hsh : WShape.hasAll [] args [.list .int] = true := (pre_splitW hpre).1
  have hc : l.pre.holds [] { args := args } = true := (pre_splitW hpre).2
  obtain ⟨d, r, rfl, h1, h2⟩ := hasAllW_cons hsh
  obtain rfl := hasAllW_nil h2
  obtain ⟨xs, rfl, h3⟩ := hasW_list h1
  obtain ⟨ns, rfl⟩ := items_int h3
  have hlen : ns.length ≤ n := by
    unfold OpenLaw.pre at hc
    have h4 : (WTm.not (.lt (.lit (.int (n : Int))) (.len (.arg 0)))).holds [] { args := [.list (ns.map .int)] } = true := by
      have h4 := (holds_andW hc).1
      rw [hn] at h4
      exact h4
    have h5 := condW_of h4 (w_not (w_lt w_lit (w_len_list (w_arg rfl))))
    rw [List.length_map] at h5
    refine Nat.le_of_not_lt fun q => ?_
    have q' : (n : Int) < ((ns.length : Nat) : Int) := by omega
    first
      | (rw [decide_eq_true q'] at h5; exact absurd h5 (by decide))
      | (simp at h5; omega)
  cases hwl with
  | cons w1 w2 =>
    cases w2
    cases w1 with
    | list ho hall => exact ⟨_, _, ns, rfl, rfl, ho, ints_of_wellAll ns _ hall, hlen⟩

theorem post_true (l : OpenLaw) (args : List WData) : l.row.toRowW.claim.post args (.bool true) args = true :=
  postW_of (r := l.row.toRowW) (X := (true == true))
    (show WShape.has [] (.bool true) .bool = true by first | rfl | decide | simp [WShape.has, WShape.arms, WShape.armsAll])
    (show (WTm.eq .res (.lit (.bool true))).value [] { args := args, res := some (.bool true), after := args } = some (.bool (true == true)) from w_eq_bool (w_res rfl) w_lit) rfl

/-! ### the attachment: holds_open's last premise (the goal 'hc' behind k_head) from a wpAny of the law's body -/
/-- the same from a codeAny of the CALL (for a layer whose function contracts speak of calls) -/
theorem attach_call {l : OpenLaw} {n : Nat} {q : Program} {loose : List Str} {XP : (Str → Option Value) → Heap → Prop} {YP : World → Heap → Prop} {d : DefRec}
    (hn : l.most = some n) (hdf : d.params.defaults = [])
    (call : ∀ (w : World) (s₀ s₁ : Shared) (mg mb : Str → Option Value) (fa : Addr) (o : Obj) (pm cd doc : Value) (a : Addr) (vs : List Value) (ns : List Int),
      Ground q loose [] XP w s₀ mg mb s₁.heap → YP w s₁.heap →
      s₁.heap.get? fa = some o → o.data = .func (docDef d.name d.params d.body d.scope pm cd doc) → s₁.heap.CodeRec cd d.name → mg d.name = some (.ref fa) →
      s₁.heap.get? a = some { cls := .type "list", data := .seq vs.toArray } → IntsAre vs ns → ns.length ≤ n → s₁.gens = #[] →
      codeAny (model l.prog w) callerA (.call (.ref fa) ⟨[.ref a], []⟩) (fun r s' => r = .ok (.ret (.bool true)) ∧ OldK s₁.heap s'.heap ∧ s'.os = s₁.os ∧ AllBare s'.gens) s₁) :
    WalkO q loose XP YP l.row.toRowW d [] (fun f vs => PySem.call f vs) := by
  intro w s₀ s₁ mg mb G Y fa o pm cd doc dV kV ho hd hcd hD hmg hg args vals as hpre hlay hrd hwl hlo
  obtain rfl : dV = .none := Dflts.none hD hdf
  obtain rfl : kV = .none := Dflts.noKw hD
  obtain ⟨a, vs, ns, rfl, rfl, hobj, hints, hlen⟩ := script_of hn hpre hwl
  refine enter_call (codeAny_mono (call w s₀ s₁ mg mb fa o pm cd doc a vs ns G Y ho (fd_plain hd) hcd hmg hobj hints hlen hg) fun r s' hq => ?_)
  obtain ⟨rfl, h2, h3, h4⟩ := hq
  exact ⟨.inl ⟨.bool true, .bool true, [], rfl, fun _ => rfl, .bool true, post_true l _, fun _ => ⟨List.Pairwise.nil, fun _ hm => (nomatch hm)⟩⟩, h2, h3, h4⟩

/-! ### rules over ANY heap (no ledger) from facts about the written part K: the library's own take a ledger (News) for what they write -/
section
variable {prog : Program} {w : World} {A : Around} {E : Value → Shared → Prop} {s : Shared} {K : Frag}

/-! the whole heap as the ledger: makes every rule that writes through a ledger a rule over any heap -/
def ledger (h : Heap) (L d : Addr) : List (Addr × Obj) := (List.range h.objs.size).filterMap fun a => if a = L ∨ a = d then none else (h.get? a).map fun o => (a, o)
end
end Att

namespace L2
open PySem PySem.Spec PyProof.Rows

theorem vals_ints : ∀ {vs : List Value} {ns : List Int}, IntsAre vs ns → Vals (ns.map V.int) vs
  | _, _, .nil => .nil
  | _, _, .cons n t h => .cons ⟨t, rfl⟩ (vals_ints h)

/-- nothing is tracked but the script, known to the object (or it is an object of the module) -/
def Only (H : Hp) : Prop := ∀ b, H b = none ∨ ∃ o xs, H b = some (.frz o (.lst xs))

/-- THE HEAD: the law's promise, at the heap behind the top. F, the promise of the law's def, may use that base is part of the heap (so K.In base, base.Ns mainGlobals mg stand in Mod) -/
theorem law_call {P : Program} {w : World} {K : PySem.W.Frag} {mg mb : Str → Option Value} {CX : CXT} {k : Nat} {fa a : Addr} {fd : FuncData} {x : Str} {sp : Sp} {s₁ : Shared} {vs : List Value} {ns : List Int}
    (KX : K.In s₁.heap) (hns : s₁.heap.Ns mainGlobals mg) (hb : s₁.heap.Ns builtinsNs mb) (hbb : ∀ x : Str, x ≠ "__name__" → mb x = bootBuiltins x) (hlim : s₁.heap.NoLimit) (hg : s₁.gens = #[])
    (ha : s₁.heap.get? a = some { cls := .type "list", data := .seq vs.toArray }) (hi : IntsAre vs ns) (hl : ns.length ≤ sizeLine) (hr : Room k callerA)
    (F : ∀ base : Heap, K.In base → base.Ns mainGlobals mg → FnOk P w K mg base CX k fa fd [x] sp) (hbind : ∀ (s : Shared) (u : Value), BindsTo s fd ⟨[u], []⟩ [(x, u)])
    (hsp : ∀ H : Hp, Only H → SqL K H a (ns.map V.int) → sp [.ref a] H (fun v _ => v = .bl true) fun _ _ _ => False)
    (hCX : ∀ H e s', CX [] H s₁ (fun _ _ _ => False) e s' → False) :
    codeAny (model P w) callerA (.call (.ref fa) ⟨[.ref a], []⟩) (fun r s' => r = .ok (.ret (.bool true)) ∧ OldK s₁.heap s'.heap ∧ s'.os = s₁.os ∧ AllBare s'.gens) s₁ := by
  have rv := vals_ints hi
  have lenV := hi.length
  -- from an abstract heap in which nothing but the script may be tracked
  have core : ∀ H : Hp, Only H → SqL K H a (ns.map V.int) → HOk P w H s₁.heap → (∀ b, H b ≠ none → b = a) → (H a ≠ none → K.lookup a = none) →
      codeAny (model P w) callerA (.call (.ref fa) ⟨[.ref a], []⟩) (fun r s' => r = .ok (.ret (.bool true)) ∧ OldK s₁.heap s'.heap ∧ s'.os = s₁.os ∧ AllBare s'.gens) s₁ := by
    intro H hO hS hok hA hK
    have base_of : ∀ {b : Addr} {o : Obj}, s₁.heap.get? b = some o → H b = none → (hidT s₁.heap H).get? b = some o := fun e n => hidT_get e n
    have noA : ∀ {b : Addr} {o : Obj} {es : Array DictEntry} {ep : Nat}, s₁.heap.get? b = some o → o.data = .dict es ep → H b = none := fun {b o es ep} e d => by
      cases q : H b with
      | none => rfl
      | some u =>
        have e' : b = a := hA b (by rw [q]; simp)
        subst e'
        rw [ha] at e; cases e
        have d' : Data.seq vs.toArray _ = Data.dict es ep := d
        cases d'
    have nsK : ∀ {b : Addr} {m : Str → Option Value}, s₁.heap.Ns b m → (hidT s₁.heap H).Ns b m := fun {b m} ⟨o, es, ep, e, d, r⟩ => ⟨o, es, ep, base_of e (noA e d), d, r⟩
    have hKb : K.In (hidT s₁.heap H) := fun b o e => base_of (KX b o e) (by
      cases q : H b with
      | none => rfl
      | some u =>
        have e' : b = a := hA b (by rw [q]; simp)
        subst e'
        rw [hK (by rw [q]; simp)] at e; cases e)
    have hM : Mod K mg (hidT s₁.heap H) := ⟨hKb, nsK hns, ⟨mb, nsK hb, hbb⟩, let ⟨mc, h1, h2⟩ := hlim; ⟨mc, nsK h1, h2⟩⟩
    have e0 : Env0 P w K mg (hidT s₁.heap H) callerA [] s₁ H := ⟨rfl, hM, fun b o e => of_hidT e, Nat.le_of_eq (hidT_size _ _), trivial, fun b hb => absurd (show b ∈ ([] : List Addr) from hb) (by simp), hok, .of_eq hg⟩
    refine codeAny_mono ((F _ hKb (nsK hns)).run callerA [] s₁ H ⟨[.ref a], []⟩ [.ref a] [.ref a] _ _ hr e0 (hbind s₁ (.ref a)) (.cons rfl .nil) (hsp H hO hS)) fun r s' h => ?_
    cases r with
    | error e => exact (hCX H e s' h).elim
    | ok fl =>
      cases fl with
      | next => exact False.elim h
      | brk => exact False.elim h
      | cont => exact False.elim h
      | ret u =>
        obtain ⟨v, H', os, bare, un, hok', r', q⟩ := h
        have q' : v = .bl true := q
        subst q'
        obtain rfl : u = Value.bool true := r'
        refine ⟨rfl, OldK.of_keep fun b o e => ?_, os, bare⟩
        cases q : H b with
        | none => exact un.keep b o e q (by intro z; exact absurd (show b ∈ ([] : List Addr) from z) (by simp)) (by simp)
        | some u =>
          rcases hO b with z | ⟨ob, xs, z⟩
          · rw [q] at z; cases z
          · have z2 := un.frzs b ob _ z
            obtain ⟨e1, _⟩ := hok b _ z
            obtain ⟨e2, _⟩ := hok' b _ z2
            rw [e] at e1; cases e1
            exact e2
  cases hk : K.lookup a with
  | some o =>
    -- the script is one of the module's own objects
    have e := KX a o hk
    rw [ha] at e
    cases e
    refine core (fun _ => none) (fun _ => .inl rfl) (.inr ⟨_, vs.toArray, _, hk, rfl, rfl, rfl, by rw [List.size_toArray, lenV]; exact hl, by simpa using rv⟩) (fun b u z => by have z' : (none : Option HO) = some u := z; cases z') (fun b z => absurd rfl z) fun z => absurd rfl z
  | none =>
    refine core (fun b => if b = a then some (.frz { cls := .type "list", data := .seq vs.toArray } (.lst (ns.map V.int))) else none) (fun b => ?_) (.inl (.inr ⟨{ cls := .type "list", data := .seq vs.toArray }, if_pos rfl⟩)) (fun b u z => ?_) (fun b z => ?_) fun _ => hk
    · by_cases hb : b = a
      · exact .inr ⟨_, _, if_pos hb⟩
      · exact .inl (if_neg hb)
    · by_cases hb : b = a
      · have z' := (if_pos hb).symm.trans z
        cases z'
        subst hb
        exact ⟨ha, by rw [List.length_map]; exact hl, vs, _, rv, ha⟩
      · have z' := (if_neg hb).symm.trans z
        cases z'
    · by_cases hb : b = a
      · exact hb
      · exact absurd (if_neg hb) z
end L2

namespace L2
open PySem PySem.Spec PyProof.Rows

abbrev KOf {K : PySem.W.Frag} {h : Heap} (_ : K.In h) : PySem.W.Frag := K

/-- the goal that k_head leaves (case hc), from the law's promise. F gives the function object fd (K's own) once, then the promise over every base -/
theorem walk_of {l : PySem.W.OpenLaw} {n k : Nat} {q : Program} {loose : List Str} {XP : (Str → Option Value) → Heap → Prop} {YP : World → Heap → Prop} {d : DefRec} {K : Params → PySem.W.Frag} {CX : World → CXT} {sp : World → Sp} {x : Str}
    (hn : l.most = some n) (hn2 : n ≤ sizeLine) (hdf : d.params.defaults = []) (hr : Room k callerA)
    (hY : ∀ (w : World) (h : Heap), YP w h → (K w.params).In h)
    (F : ∀ (w : World) (mg : Str → Option Value) (fa : Addr) (h : Heap), (K w.params).In h → h.Ns mainGlobals mg → mg d.name = some (.ref fa) →
      ∃ fd : FuncData, (∀ (s : Shared) (u : Value), BindsTo s fd ⟨[u], []⟩ [(x, u)]) ∧
        ∀ base : Heap, (K w.params).In base → base.Ns mainGlobals mg → FnOk l.prog w (K w.params) mg base (CX w) k fa fd [x] (sp w))
    (hsp : ∀ (w : World) (H : Hp) (a : Addr) (ns : List Int), ns.length ≤ n → Only H → SqL (K w.params) H a (ns.map V.int) → sp w [.ref a] H (fun v _ => v = .bl true) fun _ _ _ => False)
    (hCX : ∀ (w : World) (H : Hp) (s : Shared) (e : Value) (s' : Shared), CX w [] H s (fun _ _ _ => False) e s' → False) :
    PySem.W.WalkO q loose XP YP l.row.toRowW d [] (fun f vs => PySem.call f vs) := by
  refine Att.attach_call hn hdf fun w s₀ s₁ mg mb fa o pm cd doc a vs ns G Y ho hd hcd hmg hobj hints hlen hg => ?_
  have KX := hY w _ Y
  obtain ⟨fd, hb, hF⟩ := F w mg fa _ KX G.T.g hmg
  exact law_call KX G.T.g G.T.b G.T.builtins G.T.nolimit hg hobj hints (Nat.le_trans hlen hn2) hr hF hb (fun H hO hS => hsp w H a ns hlen hO hS) fun H e s' => hCX w H s₁ e s'
end L2

/- THE LAST THEOREM (shape; LID, My.* are yours):
   My.Adr: a structure of the addresses that your layer names (classes, functions); My.Txt K t: a structure (Prop) of the equations over K;
   My.txt_mk : {K} {implicit addresses ..} (e1 : nsIn K mainGlobals "law" = some (some (.ref f))) (e2 : K.lookup f = some ⟨oc, od, .func (fnOf "law" "law" params body scope dV kV doc pm an cdv ct), sl⟩) (e3 : codeIn K cdv "law" = true) .. : ∃ t, My.Txt K t

set_option maxRecDepth 100000 in
set_option maxHeartbeats 0 in
theorem PySem.Challenge.cw_LID_holds : PySem.Challenge.rw_LID.Holds := by
  w_on; o_law; k_head; (case hw => w_witness2)
  k_fill
  refine L2.walk_of (l := PySem.Challenge.rw_LID) (n := 63) (k := 40) (x := "script") (CX := fun w => ..) (sp := fun _ => My.sp_law) rfl (by decide) rfl ⟨rfl, by decide, by decide⟩ (fun w h Y => PySem.W.kIn_of Y) ?F ?S ?C
  case F =>
    intro w mg fa h KX G hmg
    have T : ∃ t, My.Txt (L2.KOf KX) t := by
      dsimp only [L2.KOf]                          -- K must stand as «<heap const> w.params» for k_is
      refine' My.txt_mk ?e1 ?e2 ?e3 ..
      (case e1 => PySem.W.k_is)                    -- in the order: a name -> its address -> its object -> its parts
      (case e2 => PySem.W.k_is)
      ..
    obtain ⟨t, T⟩ := T
    have e0 := hmg.symm.trans (PySem.W.mg_of KX G T.law)
    cases e0                                       -- fa is the law's own address
    exact ⟨_, fun s u => .of_eq rfl, fun base kb nb => My.law_fn T kb nb⟩     -- if «.of_eq rfl» comes too early: refine' ⟨_, ?b, fun base kb nb => My.law_fn T kb nb⟩; exact fun s u => .of_eq rfl
  case S => exact fun w H a ns hl hO hS => ..
  case C => exact ..
(the tactic k_is has no namespace: write k_is) -/

/-! SHORT WORDS over the layer: a def of the text, its body, what a loop and a test want. -/
namespace L2
open PySem PySem.Spec PyProof.Rows

/-! ### the text by places -/
def defArgs (s : Stmt) : Arguments := match s with
  | .FunctionDef _ a _ _ _ _ _ _ _ _ => a
  | _ => { posonlyargs := [], args := [], vararg := none, kwonlyargs := [], kw_defaults := [], kwarg := none, defaults := [] }
def defBody (s : Stmt) : List Stmt := match s with
  | .FunctionDef _ _ b _ _ _ _ _ _ _ => b
  | _ => []
def defScope (s : Stmt) : Scope := match s with
  | .FunctionDef _ _ _ _ _ _ sc _ _ _ => sc
  | _ => { kind := .function, names := [], isGenerator := false, isCoroutine := false }

/-! ### no exception leaves a def -/
abbrev CX0 : CXT := fun _ _ _ _ _ _ => False
abbrev E0 : XK := fun _ _ _ => False
theorem pass0 {X : Cx} : Passes CX0 X E0 := fun _ _ _ _ _ _ _ h => h.elim

/-! ### a def (or method) of the text as it stands behind the top -/
structure Fun (K : PySem.W.Frag) (x qual : Str) (st : Stmt) (f : Addr) (fd : FuncData) : Prop where
  ex : ∃ (oc : Value) (od : Option Addr) (kV doc pm : Value) (an : Option Addr) (cdv ct : Value) (osl : Array (Option Value)),
    fd = PySem.W.fnOf x qual (defArgs st) (defBody st) (defScope st) .none kV doc pm an cdv ct ∧ K.lookup f = some ⟨oc, od, .func fd, osl⟩ ∧ PySem.W.codeIn K cdv qual = true
  kp : PySem.W.keepIn K (.ref f) = true
section
variable {P : Program} {w : World} {K : PySem.W.Frag} {mg : Str → Option Value} {base : Heap}
/-- THE RULE for a def: its body as a term of rules, and the reading of that term -/
theorem Fun.ok {x qual : Str} {st : Stmt} {f : Addr} {fd : FuncData} {N ps : List Str} {k : Nat} {sp : Sp} (F : Fun K x qual st f fd) (S : FnScope N ps (defScope st)) (len : ∀ vs H Q E, sp vs H Q E → vs.length = ps.length)
    (hbody : ∀ (cdv : Value) (A : Around) (outer : List Env) (s : Shared) (H : Hp) (vs : List V) (Q : VK) (E : XK), Room k (A.deeper (envOfC qual (defScope st) s.heap.objs.size f cdv)) → sp vs H Q E →
      ∃ t, PSs (cxOf CX0 P w K mg base N qual (defScope st) f cdv A outer s H E).nox (defBody st) t ∧ t { nx := fun _ H' => Q .non H', rt := Q } (start N vs) H) : FnOk P w K mg base CX0 (k + 1) f fd ps sp := by
  obtain ⟨oc, od, kV, doc, pm, an, cdv, ct, osl, rfl, lk, hcd⟩ := F.ex
  refine fn_of lk hcd S len fun A outer s H vs Q E hr hsp => ?_
  obtain ⟨t, h, q⟩ := hbody cdv A outer s H vs Q E hr hsp
  exact ⟨t, h.nox, q⟩
/-- how its arguments bind (no defaults): h is «fun _ _ _ _ _ _ us hl => match us, hl with | [_, _], _ => rfl», one _ a parameter -/
theorem Fun.binds {x qual : Str} {st : Stmt} {f : Addr} {fd : FuncData} {ps : List Str} (F : Fun K x qual st f fd)
    (h : ∀ (kV doc pm : Value) (an : Option Addr) (cdv ct : Value) (us : List Value), us.length = ps.length → bindArgs (PySem.W.fnOf x qual (defArgs st) (defBody st) (defScope st) .none kV doc pm an cdv ct) ⟨us, []⟩ = pure (ps.zip us)) : Binds K fd ps [] := by
  obtain ⟨oc, od, kV, doc, pm, an, cdv, ct, osl, rfl, lk, hcd⟩ := F.ex
  exact .all (h kV doc pm an cdv ct)
theorem fun_mk {x qual : Str} {st : Stmt} {f : Addr} {oc : Value} {od an : Option Addr} {osl : Array (Option Value)} {kV doc pm cdv ct : Value} (l : K.lookup f = some ⟨oc, od, .func (PySem.W.fnOf x qual (defArgs st) (defBody st) (defScope st) .none kV doc pm an cdv ct), osl⟩)
    (c : PySem.W.codeIn K cdv qual = true) (k : PySem.W.keepIn K (.ref f) = true) : Fun K x qual st f (PySem.W.fnOf x qual (defArgs st) (defBody st) (defScope st) .none kV doc pm an cdv ct) := ⟨⟨oc, od, kV, doc, pm, an, cdv, ct, osl, rfl, l, c⟩, k⟩
end
/-! ### expressions in short: the name that stands in the i-th slot -/
section
variable {X : Cx}
theorem pv (i : Nat) {x : Str} {pos : Pos} (hN : X.N[i]? = some x := by rfl) (hv : Vis X.env.scope x := by first | exact Or.inl rfl | exact Or.inr (Or.inl rfl) | exact Or.inr (Or.inr rfl)) (hd : (x == ("__debug__" : Str)) = false := by decide)
    (hcd : (x == ("__classdict__" : Str)) = false := by decide) : PE X (.Name x pos) (tVar i) := pe_var hN hv hd hcd
end

/-! ### tests -/
/-! ### heaps -/
/-- all that was tracked is as it was -/
def Same (H H' : Hp) : Prop := ∀ b o, H b = some o → H' b = some o
theorem Same.refl (H : Hp) : Same H H := fun _ _ h => h
theorem Same.trans {H H1 H2 : Hp} (a : Same H H1) (b : Same H1 H2) : Same H H2 := fun c o h => b c o (a c o h)
theorem Same.free {H H' : Hp} (e : Same H H') {l : Addr} (h : H' l = Option.none) : H l = Option.none := by
  cases q : H l with
  | none => rfl
  | some o =>
    rw [e l o q] at h
    cases h
theorem Same.seq {K : PySem.W.Frag} {H H' : Hp} {a : Addr} {xs : List V} (e : Same H H') (h : SqL K H a xs) : SqL K H' a xs := by
  rcases h with (h | ⟨o, h⟩) | h
  · exact .inl (.inl (e _ _ h))
  · exact .inl (.inr ⟨o, e _ _ h⟩)
  · exact .inr h

end L2

namespace L2
open PySem PySem.Spec PyProof.Rows
section
variable {X : Cx}
end
/-! ### a dict's pairs: keys that differ -/
section
variable {κ : Type} [DecidableEq κ]
end
end L2


set_option maxHeartbeats 4000000

namespace DL
open PySem PySem.Spec PyProof.Rows L2

/-! ### data without the heap -/
inductive D where
  | non | bl (b : Bool) | int (i : Int) | str (x : Str) | tup (ds : List D) | lst (ds : List D)

/-- an exception: its class's name, its fields -/
structure XV where
  cls : Str
  ns : List Str
  ds : List D

inductive M (α : Type) where
  | ok (a : α) | ex (x : XV) | bad
def M.bind {α β : Type} (r : M α) (k : α → M β) : M β := match r with
  | .ok a => k a
  | .ex x => .ex x
  | .bad => .bad
@[simp] theorem M.bind_ok {α β : Type} (a : α) (k : α → M β) : (M.ok a).bind k = k a := rfl
@[simp] theorem M.bind_ex {α β : Type} (x : XV) (k : α → M β) : (M.ex x : M α).bind k = .ex x := rfl
@[simp] theorem M.bind_bad {α β : Type} (k : α → M β) : (M.bad : M α).bind k = .bad := rfl

/-- a slot: data that stays; a list, a dict (keys: tuples of ints and texts; ints and texts) of our own that may still change -/
inductive S where
  | im (d : D) | ow (ds : List D) | od (kvs : List (List Key × D)) | dk (kvs : List (Key × D)) | xc (x : XV)
def S.own : S → Bool
  | .im _ => false
  | .xc _ => false
  | _ => true
abbrev DSt := List (Option S)

section
variable (K : PySem.W.Frag) (H : Hp)
mutual
def Rep : D → V → Prop
  | .non, v => v = .non
  | .bl b, v => v = .bl b
  | .int i, v => v = .int i
  | .str x, v => v = .str x
  | .tup ds, v => ∃ a xs, v = .ref a ∧ H a = some (.tup xs) ∧ Reps ds xs
  | .lst ds, v => ∃ a xs, v = .ref a ∧ SqL K H a xs ∧ Reps ds xs
def Reps : List D → List V → Prop
  | [], xs => xs = []
  | d :: ds, xs => ∃ x r, xs = x :: r ∧ Rep d x ∧ Reps ds r
end
end

/-- a dict's pairs -/
def RepKV (K : PySem.W.Frag) (H : Hp) {κ : Type} : List (κ × D) → List (κ × V) → Prop := Paired fun p q => p.1 = q.1 ∧ Rep K H p.2 q.2
/-- what is owned stands at p -/
def S.at (K : PySem.W.Frag) (Hf H : Hp) (p : Addr) : S → Prop
  | .im _ => False
  | .xc _ => False
  | .ow ds => ∃ xs, H p = some (.lst xs) ∧ Reps K Hf ds xs
  | .od kvs => ∃ ys, H p = some (.dT ys) ∧ RepKV K Hf kvs ys
  | .dk kvs => ∃ ys, H p = some (.dK ys) ∧ RepKV K Hf kvs ys
theorem _root_.L2.Same.seqT {K : PySem.W.Frag} {H H' : Hp} {a : Addr} {xs : List V} (e : Same H H') (h : SqT K H a xs) : SqT K H' a xs := by
  rcases h with (h | ⟨o, h⟩) | h
  · exact .inl (.inl (e _ _ h))
  · exact .inl (.inr ⟨o, e _ _ h⟩)
  · exact .inr h

section
variable {K : PySem.W.Frag} {H H' : Hp}
mutual
theorem Rep.mono (e : Same H H') : ∀ {d : D} {v : V}, Rep K H d v → Rep K H' d v
  | .non, _, h => by unfold Rep at h ⊢; exact h
  | .bl _, _, h => by unfold Rep at h ⊢; exact h
  | .int _, _, h => by unfold Rep at h ⊢; exact h
  | .str _, _, h => by unfold Rep at h ⊢; exact h
  | .tup ds, _, h => by
    unfold Rep at h ⊢
    obtain ⟨a, xs, e1, e2, e3⟩ := h
    exact ⟨a, xs, e1, e _ _ e2, Reps.mono e e3⟩
  | .lst ds, _, h => by
    unfold Rep at h ⊢
    obtain ⟨a, xs, e1, e2, e3⟩ := h
    exact ⟨a, xs, e1, e.seq e2, Reps.mono e e3⟩
theorem Reps.mono (e : Same H H') : ∀ {ds : List D} {xs : List V}, Reps K H ds xs → Reps K H' ds xs
  | [], _, h => by unfold Reps at h ⊢; exact h
  | d :: ds, _, h => by
    unfold Reps at h ⊢
    obtain ⟨x, r, e1, e2, e3⟩ := h
    exact ⟨x, r, e1, Rep.mono e e2, Reps.mono e e3⟩
end
theorem rep_non {v : V} : Rep K H .non v ↔ v = .non := by unfold Rep; exact Iff.rfl
theorem rep_bl {b : Bool} {v : V} : Rep K H (.bl b) v ↔ v = .bl b := by unfold Rep; exact Iff.rfl
theorem rep_int {i : Int} {v : V} : Rep K H (.int i) v ↔ v = .int i := by unfold Rep; exact Iff.rfl
theorem rep_str {x : Str} {v : V} : Rep K H (.str x) v ↔ v = .str x := by unfold Rep; exact Iff.rfl
theorem rep_tup {ds : List D} {v : V} : Rep K H (.tup ds) v ↔ ∃ a xs, v = .ref a ∧ H a = some (.tup xs) ∧ Reps K H ds xs := by rw [Rep]
theorem rep_tupQ {ds : List D} {v : V} (h : Rep K H (.tup ds) v) : ∃ a xs, v = .ref a ∧ SqT K H a xs ∧ Reps K H ds xs := by
  obtain ⟨a, xs, e1, e2, e3⟩ := rep_tup.mp h
  exact ⟨a, xs, e1, SqT.of e2, e3⟩
theorem rep_lst {ds : List D} {v : V} : Rep K H (.lst ds) v ↔ ∃ a xs, v = .ref a ∧ SqL K H a xs ∧ Reps K H ds xs := by rw [Rep]
theorem reps_nil {xs : List V} : Reps K H [] xs ↔ xs = [] := by rw [Reps]
theorem reps_cons {d : D} {ds : List D} {xs : List V} : Reps K H (d :: ds) xs ↔ ∃ x r, xs = x :: r ∧ Rep K H d x ∧ Reps K H ds r := by rw [Reps]
theorem Reps.nil : Reps K H [] [] := reps_nil.mpr rfl
theorem Reps.cons {d : D} {ds : List D} {x : V} {xs : List V} (h : Rep K H d x) (t : Reps K H ds xs) : Reps K H (d :: ds) (x :: xs) := reps_cons.mpr ⟨x, xs, rfl, h, t⟩
theorem Reps.length : ∀ {ds : List D} {xs : List V}, Reps K H ds xs → ds.length = xs.length
  | [], _, h => by rw [reps_nil.mp h]; rfl
  | d :: ds, _, h => by
    obtain ⟨x, r, rfl, _, t⟩ := reps_cons.mp h
    rw [List.length_cons, List.length_cons, Reps.length t]
theorem Reps.get : ∀ {ds : List D} {xs : List V} {i : Nat} {d : D}, Reps K H ds xs → ds[i]? = some d → ∃ x, xs[i]? = some x ∧ Rep K H d x
  | [], _, _, _, _, e => by simp at e
  | _ :: ds, _, 0, _, h, e => by
    obtain ⟨x, r, rfl, q, t⟩ := reps_cons.mp h
    simp at e; subst e; exact ⟨x, rfl, q⟩
  | _ :: ds, _, i + 1, _, h, e => by
    obtain ⟨x, r, rfl, q, t⟩ := reps_cons.mp h
    obtain ⟨y, e1, e2⟩ := Reps.get (i := i) t (by simpa using e)
    exact ⟨y, by simpa using e1, e2⟩
theorem Reps.append : ∀ {ds es : List D} {xs ys : List V}, Reps K H ds xs → Reps K H es ys → Reps K H (ds ++ es) (xs ++ ys)
  | [], _, _, _, h, t => by rw [reps_nil.mp h]; exact t
  | _ :: ds, _, _, _, h, t => by
    obtain ⟨x, r, rfl, q, u⟩ := reps_cons.mp h
    exact .cons q (Reps.append u t)
theorem Reps.take : ∀ {ds : List D} {xs : List V} (n : Nat), Reps K H ds xs → Reps K H (ds.take n) (xs.take n)
  | _, _, 0, _ => by simpa using Reps.nil
  | [], _, n + 1, h => by rw [reps_nil.mp h]; simpa using Reps.nil
  | _ :: ds, _, n + 1, h => by
    obtain ⟨x, r, rfl, q, u⟩ := reps_cons.mp h
    exact .cons q (Reps.take n u)
theorem Reps.drop : ∀ {ds : List D} {xs : List V} (n : Nat), Reps K H ds xs → Reps K H (ds.drop n) (xs.drop n)
  | _, _, 0, h => by simpa using h
  | [], _, n + 1, h => by rw [reps_nil.mp h]; simpa using Reps.nil
  | _ :: ds, _, n + 1, h => by
    obtain ⟨x, r, rfl, q, u⟩ := reps_cons.mp h
    exact Reps.drop n u
theorem Reps.none_of {ds : List D} {xs : List V} {i : Nat} (h : Reps K H ds xs) (e : ds[i]? = none) : xs[i]? = none := by
  have := h.length
  rw [List.getElem?_eq_none_iff] at e ⊢
  omega
end

theorem RepKV.mono {K : PySem.W.Frag} {H H' : Hp} (e : Same H H') {κ : Type} {a : List (κ × D)} {b : List (κ × V)} (r : RepKV K H a b) : RepKV K H' a b := Paired.mapP r fun _ _ q => ⟨q.1, q.2.mono e⟩
theorem at_some {K : PySem.W.Frag} {Hf H : Hp} {p : Addr} {s : S} (h : S.at K Hf H p s) : ∃ o, H p = some o := by
  cases s with
  | im d => exact h.elim
  | xc x => exact h.elim
  | ow ds => obtain ⟨xs, e, _⟩ := h; exact ⟨_, e⟩
  | od kvs => obtain ⟨ys, e, _⟩ := h; exact ⟨_, e⟩
  | dk kvs => obtain ⟨ys, e, _⟩ := h; exact ⟨_, e⟩
theorem at_move {K : PySem.W.Frag} {Hf Hf' H H' : Hp} {p : Addr} {s : S} (h : S.at K Hf H p s) (e : Same Hf Hf') (q : ∀ o, H p = some o → H' p = some o) : S.at K Hf' H' p s := by
  cases s with
  | im d => exact h.elim
  | xc x => exact h.elim
  | ow ds => obtain ⟨xs, e1, e2⟩ := h; exact ⟨xs, q _ e1, e2.mono e⟩
  | od kvs => obtain ⟨ys, e1, e2⟩ := h; exact ⟨ys, q _ e1, e2.mono e⟩
  | dk kvs => obtain ⟨ys, e1, e2⟩ := h; exact ⟨ys, q _ e1, e2.mono e⟩

/-- an exception that was caught: its class, its dict -/
def XO (a : Addr) (C : Addr) (dx : Option Addr) : HO := .ext fun h => ∃ oe vs, h.get? a = some oe ∧ oe.cls = .ref C ∧ oe.dict = dx ∧ oe.data = .fields vs
/-- its fields -/
def XF (Hf : Hp) (ns : List Str) (xs : List V) : Option Addr → Prop
  | none => ns = [] ∧ xs = []
  | some dx => Hf dx = some (.xd (ns.zip xs)) ∧ ns.length = xs.length
theorem XF.mono {H H' : Hp} (e : Same H H') {ns : List Str} {xs : List V} : ∀ {dx : Option Addr}, XF H ns xs dx → XF H' ns xs dx
  | none, h => h
  | some _, h => ⟨e _ _ h.1, h.2⟩
def RepE (K : PySem.W.Frag) (Hf : Hp) (x : XV) (v : V) : Prop :=
  ∃ a C dx xs, v = .ref a ∧ Hf a = some (XO a C dx) ∧ PySem.W.nsIn K mainGlobals x.cls = some (some (.ref C)) ∧ XF Hf x.ns xs dx ∧ Reps K Hf x.ds xs
theorem RepE.mono {K : PySem.W.Frag} {H H' : Hp} (e : Same H H') {x : XV} {v : V} (h : RepE K H x v) : RepE K H' x v := by
  obtain ⟨a, C, dx, xs, e1, e2, e3, e4, e5⟩ := h
  exact ⟨a, C, dx, xs, e1, e _ _ e2, e3, e4.mono e, e5.mono e⟩
/-- what a slot that stays holds -/
def RepS (K : PySem.W.Frag) (Hf : Hp) : S → V → Prop
  | .im d, v => Rep K Hf d v
  | .xc x, v => RepE K Hf x v
  | _, _ => True
theorem RepS.mono {K : PySem.W.Frag} {H H' : Hp} (e : Same H H') {t : S} {v : V} (h : RepS K H t v) : RepS K H' t v := by
  cases t with
  | im d => exact Rep.mono e h
  | xc x => exact RepE.mono e h
  | _ => trivial

/-! ### the heap grows: what is frozen stays frozen, what is there stays, what others own does not freeze -/
structure Gr (Hf H Hf' H' : Hp) : Prop where
  fz : Same Hf Hf'
  sub : Same Hf' H'
  all : Same H H'
  ban : ∀ a, H a ≠ none → Hf a = none → Hf' a = none
theorem Gr.refl {Hf H : Hp} (h : Same Hf H) : Gr Hf H Hf H := ⟨Same.refl _, h, Same.refl _, fun _ _ e => e⟩
theorem _root_.L2.Same.ne {H H' : Hp} (e : Same H H') {a : Addr} (h : H a ≠ none) : H' a ≠ none := by
  cases q : H a with
  | none => exact absurd q h
  | some o => rw [e a o q]; simp
theorem Gr.trans {Hf H Hf1 H1 Hf2 H2 : Hp} (a : Gr Hf H Hf1 H1) (b : Gr Hf1 H1 Hf2 H2) : Gr Hf H Hf2 H2 :=
  ⟨a.fz.trans b.fz, b.sub, a.all.trans b.all, fun c h e => b.ban c (a.all.ne h) (a.ban c h e)⟩
theorem same_upd {H : Hp} {p : Addr} (h : H p = none) (o : HO) : Same H (upd H p o) := fun b u q => by rw [upd_ne (ne_of_none q h)]; exact q
theorem _root_.L2.Same.upd {Hf H : Hp} (e : Same Hf H) (p : Addr) (o : HO) : Same (L2.upd Hf p o) (L2.upd H p o) := fun b u q => by
  by_cases hb : b = p
  · subst hb; rw [upd_same] at q ⊢; exact q
  · rw [upd_ne hb] at q ⊢; exact e b u q
theorem Gr.alloc {Hf H : Hp} (e : Same Hf H) {p : Addr} (h : H p = none) (o : HO) : Gr Hf H (upd Hf p o) (upd H p o) :=
  ⟨same_upd (e.free h) o, Same.upd e p o, same_upd h o, fun a ha ea => by
    have : a ≠ p := fun z => ha (z ▸ h)
    rw [upd_ne this]; exact ea⟩

/-! ### the state of a def's body -/
structure SR (K : PySem.W.Frag) (H0 : Hp) (B : Addr → Prop) (Hf : Hp) (sd : DSt) (σ : L2.St) (H : Hp) : Prop where
  sub : Same Hf H
  all : Same H0 H
  ban : ∀ a, B a → Hf a = none
  bt : ∀ a, B a → H0 a ≠ none
  len : sd.length = σ.length
  imS : ∀ (i : Nat) (t : S), sd[i]? = some (some t) → t.own = false → ∃ v, σ[i]? = some (some v) ∧ RepS K Hf t v
  ow : ∀ (i : Nat) (t : S), sd[i]? = some (some t) → t.own = true → ∃ p, σ[i]? = some (some (.ref p)) ∧ H0 p = none ∧ Hf p = none ∧ S.at K Hf H p t
  sep : ∀ (i j : Nat) (t u : S) (p : Addr), i ≠ j → sd[i]? = some (some t) → t.own = true → sd[j]? = some (some u) → u.own = true → σ[i]? = some (some (.ref p)) → σ[j]? = some (some (.ref p)) → False

section
variable {K : PySem.W.Frag} {H0 Hf Hf' H H' : Hp} {B : Addr → Prop} {sd : DSt} {σ : L2.St}
theorem SR.im (r : SR K H0 B Hf sd σ H) : ∀ (i : Nat) (d : D), sd[i]? = some (some (.im d)) → ∃ v, σ[i]? = some (some v) ∧ Rep K Hf d v := fun i _ e => r.imS i _ e rfl
theorem SR.gr (r : SR K H0 B Hf sd σ H) (g : Gr Hf H Hf' H') : SR K H0 B Hf' sd σ H' where
  sub := g.sub
  all := r.all.trans g.all
  ban := fun a h => g.ban a (r.all.ne (r.bt a h)) (r.ban a h)
  bt := r.bt
  len := r.len
  imS := fun i d e z => let ⟨v, e1, e2⟩ := r.imS i d e z; ⟨v, e1, e2.mono g.fz⟩
  ow := fun i t e ho => by
    obtain ⟨p, e1, e2, e3, e4⟩ := r.ow i t e ho
    obtain ⟨o, eo⟩ := at_some e4
    exact ⟨p, e1, e2, g.ban p (by rw [eo]; simp) e3, at_move e4 g.fz fun o h => g.all _ _ h⟩
  sep := r.sep
theorem SR.set_st (r : SR K H0 B Hf sd σ H) (i : Nat) {d : S} {v : V} (hd : d.own = false) (h : RepS K Hf d v) : SR K H0 B Hf (sd.set i (some d)) (σ.set i (some v)) H where
  sub := r.sub
  all := r.all
  ban := r.ban
  bt := r.bt
  len := by rw [List.length_set, List.length_set]; exact r.len
  imS := fun j d' e z => by
    by_cases hj : i = j
    · subst hj
      have hi : i < sd.length := by
        have := (List.getElem?_eq_some_iff.mp e).1; simpa using this
      rw [List.getElem?_set_self hi] at e
      cases e
      exact ⟨v, by rw [List.getElem?_set_self (by rw [← r.len]; exact hi)], h⟩
    · rw [List.getElem?_set_ne hj] at e ⊢
      exact r.imS j d' e z
  ow := fun j t e ho => by
    by_cases hj : i = j
    · subst hj
      have hi : i < sd.length := by
        have := (List.getElem?_eq_some_iff.mp e).1; simpa using this
      rw [List.getElem?_set_self hi] at e
      cases e
      rw [hd] at ho; cases ho
    · rw [List.getElem?_set_ne hj] at e ⊢
      exact r.ow j t e ho
  sep := fun j k t u p hjk e1 o1 e2 o2 e3 e4 => by
    have ne : ∀ {l : Nat} {fs : S}, (sd.set i (some d))[l]? = some (some fs) → fs.own = true → i ≠ l := fun {l fs} e o z => by
      subst z
      have hi : i < sd.length := by
        have := (List.getElem?_eq_some_iff.mp e).1; simpa using this
      rw [List.getElem?_set_self hi] at e
      cases e
      rw [hd] at o; cases o
    have n1 := ne e1 o1
    have n2 := ne e2 o2
    rw [List.getElem?_set_ne n1] at e1 e3
    rw [List.getElem?_set_ne n2] at e2 e4
    exact r.sep j k t u p hjk e1 o1 e2 o2 e3 e4
theorem SR.set_im (r : SR K H0 B Hf sd σ H) (i : Nat) {d : D} {v : V} (h : Rep K Hf d v) : SR K H0 B Hf (sd.set i (some (.im d))) (σ.set i (some v)) H := r.set_st (d := .im d) i rfl h
theorem SR.set_own (r : SR K H0 B Hf sd σ H) (i : Nat) {p : Addr} {o : HO} {t : S} (hp : H p = none) (ho : t.own = true) (h : S.at K Hf (upd H p o) p t) : SR K H0 B Hf (sd.set i (some t)) (σ.set i (some (.ref p))) (upd H p o) where
  sub := r.sub.trans (same_upd hp _)
  all := r.all.trans (same_upd hp _)
  ban := r.ban
  bt := r.bt
  len := by rw [List.length_set, List.length_set]; exact r.len
  imS := fun j d' e z => by
    by_cases hj : i = j
    · subst hj
      have hi : i < sd.length := by
        have := (List.getElem?_eq_some_iff.mp e).1; simpa using this
      rw [List.getElem?_set_self hi] at e
      cases e
      rw [ho] at z; cases z
    · rw [List.getElem?_set_ne hj] at e ⊢
      exact r.imS j d' e z
  ow := fun j u e hu => by
    by_cases hj : i = j
    · subst hj
      have hi : i < sd.length := by
        have := (List.getElem?_eq_some_iff.mp e).1; simpa using this
      rw [List.getElem?_set_self hi] at e
      cases e
      exact ⟨p, by rw [List.getElem?_set_self (by rw [← r.len]; exact hi)], r.all.free hp, r.sub.free hp, h⟩
    · rw [List.getElem?_set_ne hj] at e ⊢
      obtain ⟨q, e1, e2, e3, e4⟩ := r.ow j u e hu
      exact ⟨q, e1, e2, e3, at_move e4 (Same.refl _) fun o h => same_upd hp _ _ _ h⟩
  sep := fun j k u w q hjk e1 o1 e2 o2 e3 e4 => by
    have new : ∀ {l : Nat}, i = l → (σ.set i (some (V.ref p)))[l]? = some (some (.ref q)) → q = p := fun {l} z e => by
      subst z
      have hi : i < σ.length := by
        have := (List.getElem?_eq_some_iff.mp e).1; simpa using this
      rw [List.getElem?_set_self hi] at e
      cases e; rfl
    have old : ∀ {l : Nat} {u : S}, i ≠ l → (sd.set i (some t))[l]? = some (some u) → u.own = true → (σ.set i (some (V.ref p)))[l]? = some (some (.ref q)) → q ≠ p := fun {l u} n e ou z => by
      rw [List.getElem?_set_ne n] at e z
      obtain ⟨q', e1, _, _, e4⟩ := r.ow l u e ou
      rw [z] at e1
      cases e1
      obtain ⟨o, eo⟩ := at_some e4
      exact ne_of_none eo hp
    by_cases n1 : i = j
    · have n2 : i ≠ k := fun z => hjk (n1.symm.trans z)
      exact old n2 e2 o2 e4 (new n1 e3)
    · by_cases n2 : i = k
      · exact old n1 e1 o1 e3 (new n2 e4)
      · rw [List.getElem?_set_ne n1] at e1 e3
        rw [List.getElem?_set_ne n2] at e2 e4
        exact r.sep j k u w q hjk e1 o1 e2 o2 e3 e4
/-- what slot i owns is changed -/
theorem SR.change (r : SR K H0 B Hf sd σ H) {i : Nat} {p : Addr} {o : HO} {t u : S} (ht : sd[i]? = some (some t)) (ot : t.own = true) (hi : σ[i]? = some (some (.ref p))) (ou : u.own = true) (h : S.at K Hf (upd H p o) p u) : SR K H0 B Hf (sd.set i (some u)) σ (upd H p o) := by
  obtain ⟨p', z1, z2, z3, z4⟩ := r.ow i t ht ot
  rw [hi] at z1
  cases z1
  have hl : i < sd.length := (List.getElem?_eq_some_iff.mp ht).1
  have back : ∀ {j : Nat} {w : S}, i ≠ j → (sd.set i (some u))[j]? = some (some w) → sd[j]? = some (some w) := fun {j w} n e => by rwa [List.getElem?_set_ne n] at e
  refine ⟨fun b v q => ?_, fun b v q => ?_, r.ban, r.bt, by rw [List.length_set]; exact r.len, fun j d e z => ?_, fun j w e ow => ?_, fun j k w x q hjk e1 o1 e2 o2 e3 e4 => ?_⟩
  · rw [upd_ne (ne_of_none q z3)]; exact r.sub b v q
  · rw [upd_ne (ne_of_none q z2)]; exact r.all b v q
  · by_cases n : i = j
    · subst n
      rw [List.getElem?_set_self hl] at e
      cases e
      rw [ou] at z; cases z
    · exact r.imS j d (back n e) z
  · by_cases n : i = j
    · subst n
      rw [List.getElem?_set_self hl] at e
      cases e
      exact ⟨p, hi, z2, z3, h⟩
    · obtain ⟨q, e1, e2, e3, e4⟩ := r.ow j w (back n e) ow
      refine ⟨q, e1, e2, e3, at_move e4 (Same.refl _) fun o' h' => ?_⟩
      have : q ≠ p := fun z => by
        subst z
        exact r.sep i j t w q n ht ot (back n e) ow hi e1
      rw [upd_ne this]; exact h'
  · have get : ∀ {l : Nat} {w : S}, (sd.set i (some u))[l]? = some (some w) → w.own = true → ∃ w', sd[l]? = some (some w') ∧ w'.own = true := fun {l w} e ow => by
      by_cases n : i = l
      · subst n; exact ⟨t, ht, ot⟩
      · exact ⟨w, back n e, ow⟩
    obtain ⟨w', a1, a2⟩ := get e1 o1
    obtain ⟨x', b1, b2⟩ := get e2 o2
    exact r.sep j k w' x' q hjk a1 a2 b1 b2 e3 e4
/-- what slot i owns is frozen -/
theorem SR.freeze (r : SR K H0 B Hf sd σ H) {i : Nat} {ds : List D} (ht : sd[i]? = some (some (.ow ds))) : ∃ Hf', Same Hf Hf' ∧ SR K H0 B Hf' (sd.set i (some (.im (.lst ds)))) σ H := by
  obtain ⟨p, z1, z2, z3, xs, z4, z5⟩ := r.ow i _ ht rfl
  have hl : i < sd.length := (List.getElem?_eq_some_iff.mp ht).1
  have back : ∀ {j : Nat} {w : S}, i ≠ j → (sd.set i (some (S.im (.lst ds))))[j]? = some (some w) → sd[j]? = some (some w) := fun {j w} n e => by rwa [List.getElem?_set_ne n] at e
  have sm := same_upd z3 (.lst xs)
  refine ⟨upd Hf p (.lst xs), sm, fun b v q => ?_, r.all, fun a h => ?_, r.bt, by rw [List.length_set]; exact r.len, fun j d e z => ?_, fun j w e ow => ?_, fun j k w x q hjk e1 o1 e2 o2 e3 e4 => ?_⟩
  · by_cases hb : b = p
    · subst hb; rw [upd_same] at q; rw [z4]; exact q
    · rw [upd_ne hb] at q; exact r.sub b v q
  · have : a ≠ p := fun z => r.bt a h (z ▸ z2)
    rw [upd_ne this]; exact r.ban a h
  · by_cases n : i = j
    · subst n
      rw [List.getElem?_set_self hl] at e
      cases e
      exact ⟨_, z1, (rep_lst.mpr ⟨p, xs, rfl, SqL.of upd_same, z5.mono sm⟩ : Rep K _ (.lst ds) _)⟩
    · obtain ⟨v, e1, e2⟩ := r.imS j d (back n e) z
      exact ⟨v, e1, e2.mono sm⟩
  · by_cases n : i = j
    · subst n
      rw [List.getElem?_set_self hl] at e
      cases e
      cases ow
    · obtain ⟨q, e1, e2, e3, e4⟩ := r.ow j w (back n e) ow
      refine ⟨q, e1, e2, ?_, at_move e4 sm fun o' h' => h'⟩
      have : q ≠ p := fun z => by
        subst z
        exact r.sep i j _ w q n ht rfl (back n e) ow z1 e1
      rw [upd_ne this]; exact e3
  · have ne : ∀ {l : Nat} {w : S}, (sd.set i (some (S.im (.lst ds))))[l]? = some (some w) → w.own = true → i ≠ l := fun {l w} e o z => by
      subst z
      rw [List.getElem?_set_self hl] at e
      cases e
      cases o
    exact r.sep j k w x q hjk (back (ne e1 o1) e1) o1 (back (ne e2 o2) e2) o2 e3 e4
end

/-! ### exceptions (how one lies: later) -/
def RepX (K : PySem.W.Frag) (Hf _H : Hp) (x : XV) (c : Value) (dx : Option Addr) : Prop :=
  ∃ C xs, c = .ref C ∧ PySem.W.nsIn K mainGlobals x.cls = some (some (.ref C)) ∧ XF Hf x.ns xs dx ∧ Reps K Hf x.ds xs

/-! ### what is wanted of a result -/
def Po (K : PySem.W.Frag) (E : XK) {α β : Type} (R : Hp → Hp → α → β → Prop) (Hf H : Hp) (r : M α) (Q : β → Hp → Prop) : Prop := match r with
  | .ok a => ∀ b Hf' H', Gr Hf H Hf' H' → R Hf' H' a b → Q b H'
  | .ex x => ∀ c dx Hf' H', Gr Hf H Hf' H' → RepX K Hf' H' x c dx → E c dx H'
  | .bad => False
def rV (K : PySem.W.Frag) (Hf _H : Hp) (d : D) (v : V) : Prop := Rep K Hf d v
def rA (K : PySem.W.Frag) (Hf _H : Hp) (ds : List D) (vs : List V) : Prop := Reps K Hf ds vs
def rQ {α : Type} (_Hf _H : Hp) (a b : α) : Prop := a = b

section
variable {K : PySem.W.Frag} {E : XK} {α β γ δ : Type} {R : Hp → Hp → α → β → Prop} {T : Hp → Hp → γ → δ → Prop} {Hf H Hf1 H1 : Hp}
theorem Po.weak {r : M α} {Q : β → Hp → Prop} (g : Gr Hf H Hf1 H1) (h : Po K E R Hf H r Q) : Po K E R Hf1 H1 r Q := by
  cases r with
  | ok a => exact fun b Hf' H' g' q => h b Hf' H' (g.trans g') q
  | ex x => exact fun c dx Hf' H' g' q => h c dx Hf' H' (g.trans g') q
  | bad => exact h
theorem Po.bind {r : M α} {k : α → M γ} {Q : δ → Hp → Prop} {Q1 : β → Hp → Prop} (h : Po K E T Hf H (r.bind k) Q)
    (s : ∀ a b Hf1 H1, r = .ok a → Gr Hf H Hf1 H1 → R Hf1 H1 a b → Po K E T Hf1 H1 (k a) Q → Q1 b H1) : Po K E R Hf H r Q1 := by
  cases r with
  | ok a => exact fun b Hf' H' g q => s a b Hf' H' rfl g q (Po.weak g h)
  | ex x => exact h
  | bad => exact h
theorem Po.ret {a : α} {b : β} {Q : β → Hp → Prop} (e : Same Hf H) (h : Po K E R Hf H (.ok a) Q) (q : R Hf H a b) : Q b H := h b Hf H (Gr.refl e) q
end

/-! ### the judgements -/
def PEd (X : Cx) (E : XK) (e : Expr) (f : DSt → M D) : Prop :=
  ∃ t : TE, PE X e t ∧ ∀ (H0 : Hp) (B : Addr → Prop) (Hf : Hp) (sd : DSt) (σ : L2.St) (H : Hp) (Q : VK), SR X.K H0 B Hf sd σ H → Po X.K E (rV X.K) Hf H (f sd) Q → t σ H Q
def PAd (X : Cx) (E : XK) (es : List Expr) (f : DSt → M (List D)) : Prop :=
  ∃ t : TA, PA X es t ∧ ∀ (H0 : Hp) (B : Addr → Prop) (Hf : Hp) (sd : DSt) (σ : L2.St) (H : Hp) (Q : List V → Hp → Prop), SR X.K H0 B Hf sd σ H → Po X.K E (rA X.K) Hf H (f sd) Q → t σ H Q
def PTd (X : Cx) (E : XK) (e : Expr) (f : DSt → M Bool) : Prop :=
  ∃ t : TT, PT X e t ∧ ∀ (H0 : Hp) (B : Addr → Prop) (Hf : Hp) (sd : DSt) (σ : L2.St) (H : Hp) (Q : Bool → Hp → Prop), SR X.K H0 B Hf sd σ H → Po X.K E rQ Hf H (f sd) Q → t σ H Q
def PWd (X : Cx) (E : XK) (e : Expr) (f : DSt → M Bool) : Prop :=
  ∃ t : TT, PW X e t ∧ ∀ (H0 : Hp) (B : Addr → Prop) (Hf : Hp) (sd : DSt) (σ : L2.St) (H : Hp) (Q : Bool → Hp → Prop), SR X.K H0 B Hf sd σ H → Po X.K E rQ Hf H (f sd) Q → t σ H Q
def POd (X : Cx) (E : XK) (e : Option Expr) (f : DSt → M (Option Int)) : Prop :=
  ∃ t : TO, PO X e t ∧ ∀ (H0 : Hp) (B : Addr → Prop) (Hf : Hp) (sd : DSt) (σ : L2.St) (H : Hp) (Q : Option Int → Hp → Prop), SR X.K H0 B Hf sd σ H → Po X.K E rQ Hf H (f sd) Q → t σ H Q

/-- behind a statement -/
inductive O where
  | nx (sd : DSt) | rt (s : S) | bk (sd : DSt) | ct (sd : DSt)
structure Fin' (H0 : Hp) (B : Addr → Prop) (Hf H : Hp) : Prop where
  sub : Same Hf H
  all : Same H0 H
  ban : ∀ a, B a → Hf a = none
def RS (K : PySem.W.Frag) (H0 Hf H : Hp) : S → V → Prop
  | .im d, v => Rep K Hf d v
  | .xc x, v => RepE K Hf x v
  | t, v => ∃ p, v = .ref p ∧ H0 p = none ∧ Hf p = none ∧ S.at K Hf H p t
def PoS (K : PySem.W.Frag) (E : XK) (H0 : Hp) (B : Addr → Prop) (Hf : Hp) (r : M O) (D : Ends) : Prop := match r with
  | .ok (.nx sd') => ∀ σ' Hf' H', Same Hf Hf' → SR K H0 B Hf' sd' σ' H' → D.nx σ' H'
  | .ok (.bk sd') => ∀ σ' Hf' H', Same Hf Hf' → SR K H0 B Hf' sd' σ' H' → D.bk σ' H'
  | .ok (.ct sd') => ∀ σ' Hf' H', Same Hf Hf' → SR K H0 B Hf' sd' σ' H' → D.ct σ' H'
  | .ok (.rt s) => ∀ v Hf' H', Same Hf Hf' → Fin' H0 B Hf' H' → RS K H0 Hf' H' s v → D.rt v H'
  | .ex x => ∀ c dx Hf' H', Same Hf Hf' → Fin' H0 B Hf' H' → RepX K Hf' H' x c dx → E c dx H'
  | .bad => False
theorem SR.fin {K : PySem.W.Frag} {H0 Hf H : Hp} {B : Addr → Prop} {sd : DSt} {σ : L2.St} (r : SR K H0 B Hf sd σ H) : Fin' H0 B Hf H := ⟨r.sub, r.all, r.ban⟩
def PSd (X : Cx) (E : XK) (st : Stmt) (f : DSt → M O) : Prop :=
  ∃ t : TS, PS X st t ∧ ∀ (H0 : Hp) (B : Addr → Prop) (Hf : Hp) (sd : DSt) (σ : L2.St) (H : Hp) (D : Ends), SR X.K H0 B Hf sd σ H → PoS X.K E H0 B Hf (f sd) D → t D σ H
def PSsd (X : Cx) (E : XK) (st : List Stmt) (f : DSt → M O) : Prop :=
  ∃ t : TS, PSs X st t ∧ ∀ (H0 : Hp) (B : Addr → Prop) (Hf : Hp) (sd : DSt) (σ : L2.St) (H : Hp) (D : Ends), SR X.K H0 B Hf sd σ H → PoS X.K E H0 B Hf (f sd) D → t D σ H
theorem PoS.weak {K : PySem.W.Frag} {E : XK} {H0 Hf Hf1 : Hp} {B : Addr → Prop} {r : M O} {D : Ends} (g : Same Hf Hf1) (h : PoS K E H0 B Hf r D) : PoS K E H0 B Hf1 r D := by
  cases r with
  | ok o =>
    cases o with
    | nx sd => exact fun σ' Hf' H' e q => h σ' Hf' H' (g.trans e) q
    | bk sd => exact fun σ' Hf' H' e q => h σ' Hf' H' (g.trans e) q
    | ct sd => exact fun σ' Hf' H' e q => h σ' Hf' H' (g.trans e) q
    | rt s => exact fun v Hf' H' e q => h v Hf' H' (g.trans e) q
  | ex x => exact fun c dx Hf' H' e q => h c dx Hf' H' (g.trans e) q
  | bad => exact h
/-- an expression within a statement -/
theorem PoS.bind {K : PySem.W.Frag} {E : XK} {H0 Hf H : Hp} {B : Addr → Prop} {sd : DSt} {σ : L2.St} {α β : Type} {R : Hp → Hp → α → β → Prop} {r : M α} {k : α → M O} {D : Ends} {Q1 : β → Hp → Prop} (sr : SR K H0 B Hf sd σ H) (h : PoS K E H0 B Hf (r.bind k) D)
    (s : ∀ a b Hf1 H1, r = .ok a → Gr Hf H Hf1 H1 → SR K H0 B Hf1 sd σ H1 → R Hf1 H1 a b → PoS K E H0 B Hf1 (k a) D → Q1 b H1) : Po K E R Hf H r Q1 := by
  cases r with
  | ok a => exact fun b Hf' H' g q => s a b Hf' H' rfl g (sr.gr g) q (PoS.weak g.fz h)
  | ex x => exact fun c dx Hf' H' g q => h c dx Hf' H' g.fz (sr.gr g).fin q
  | bad => exact h

/-! ### expressions -/
section
variable {X : Cx} {E : XK} {pos : Pos} {a b : Expr}
def eVar (i : Nat) (sd : DSt) : M D := match sd[i]? with
  | some (some (.im d)) => .ok d
  | _ => .bad
theorem pd_var (i : Nat) {x : Str} (hN : X.N[i]? = some x := by rfl) (hv : Vis X.env.scope x := by first | exact Or.inl rfl | exact Or.inr (Or.inl rfl) | exact Or.inr (Or.inr rfl)) (hd : (x == ("__debug__" : Str)) = false := by decide)
    (hcd : (x == ("__classdict__" : Str)) = false := by decide) : PEd X E (.Name x pos) (eVar i) := by
  refine ⟨_, pe_var hN hv hd hcd, fun H0 B Hf sd σ H Q sr h => ?_⟩
  unfold eVar at h
  split at h
  · rename_i d e
    obtain ⟨v, e1, e2⟩ := sr.im i d e
    exact ⟨v, e1, Po.ret sr.sub h e2⟩
  · exact h.elim
def eC (d : D) (_ : DSt) : M D := .ok d
theorem pd_int {i : Int} {j} : PEd X E (.Constant (.int i) j pos) (eC (.int i)) := ⟨_, pe_int, fun _ _ _ _ _ _ _ sr h => Po.ret sr.sub h (rep_int.mpr rfl)⟩
theorem pd_bl {i : Bool} {j} : PEd X E (.Constant (.bool i) j pos) (eC (.bl i)) := ⟨_, pe_bl, fun _ _ _ _ _ _ _ sr h => Po.ret sr.sub h (rep_bl.mpr rfl)⟩
theorem pd_non {j} : PEd X E (.Constant .none j pos) (eC .non) := ⟨_, pe_non, fun _ _ _ _ _ _ _ sr h => Po.ret sr.sub h (rep_non.mpr rfl)⟩
theorem pd_str {x} {j} : PEd X E (.Constant (.str x) j pos) (eC (.str x)) := ⟨_, pe_str, fun _ _ _ _ _ _ _ sr h => Po.ret sr.sub h (rep_str.mpr rfl)⟩

/-! ### operators -/
/-- f upon data is g -/
def OpD (X : Cx) (E : XK) (f : Value → Value → Sem Value) (g : D → D → M D) : Prop :=
  ∃ r : R2, OpR X f r ∧ ∀ (Hf H : Hp) (x y : V) (dx dy : D) (Q : VK), Same Hf H → Rep X.K Hf dx x → Rep X.K Hf dy y → Po X.K E (rV X.K) Hf H (g dx dy) Q → r x y H Q
def eOp (g : D → D → M D) (fa fb : DSt → M D) (sd : DSt) : M D := (fa sd).bind fun x => (fb sd).bind fun y => g x y
theorem two {fa fb : DSt → M D} {g : D → D → M D} {ta tb : TE} {r : R2} {H0 : Hp} {B : Addr → Prop} {Hf : Hp} {sd : DSt} {σ : L2.St} {H : Hp} {Q : VK}
    (ha : ∀ (H0 : Hp) (B : Addr → Prop) (Hf : Hp) (sd : DSt) (σ : L2.St) (H : Hp) (Q : VK), SR X.K H0 B Hf sd σ H → Po X.K E (rV X.K) Hf H (fa sd) Q → ta σ H Q)
    (hb : ∀ (H0 : Hp) (B : Addr → Prop) (Hf : Hp) (sd : DSt) (σ : L2.St) (H : Hp) (Q : VK), SR X.K H0 B Hf sd σ H → Po X.K E (rV X.K) Hf H (fb sd) Q → tb σ H Q)
    (hr : ∀ (Hf H : Hp) (x y : V) (dx dy : D) (Q : VK), Same Hf H → Rep X.K Hf dx x → Rep X.K Hf dy y → Po X.K E (rV X.K) Hf H (g dx dy) Q → r x y H Q)
    (sr : SR X.K H0 B Hf sd σ H) (h : Po X.K E (rV X.K) Hf H (eOp g fa fb sd) Q) : tOp r ta tb σ H Q := by
  refine ha H0 B Hf sd σ H _ sr (Po.bind h fun dx x Hf1 H1 _ g1 rx h1 => ?_)
  have sr1 := sr.gr g1
  refine hb H0 B Hf1 sd σ H1 _ sr1 (Po.bind h1 fun dy y Hf2 H2 _ g2 ry h2 => ?_)
  exact hr Hf2 H2 x y dx dy Q g2.sub (Rep.mono g2.fz rx) ry h2
theorem pd_op {op : Operator} {g : D → D → M D} {fa fb : DSt → M D} (ho : OpD X E (binaryOp op) g) (ha : PEd X E a fa) (hb : PEd X E b fb) : PEd X E (.BinOp a op b pos) (eOp g fa fb) := by
  obtain ⟨r, hr, qr⟩ := ho
  obtain ⟨ta, pa, qa⟩ := ha
  obtain ⟨tb, pb, qb⟩ := hb
  exact ⟨_, pe_op hr pa pb, fun H0 B Hf sd σ H Q sr h => two qa qb qr sr h⟩
theorem pd_cmp {op : CmpOp} {g : D → D → M D} {fa fb : DSt → M D} (ho : OpD X E (compareOp op) g) (ha : PEd X E a fa) (hb : PEd X E b fb) (hm : behindInMarks op b = false) : PEd X E (.Compare a [op] [b] pos) (eOp g fa fb) := by
  obtain ⟨r, hr, qr⟩ := ho
  obtain ⟨ta, pa, qa⟩ := ha
  obtain ⟨tb, pb, qb⟩ := hb
  exact ⟨_, pe_cmpR hr pa pb hm, fun H0 B Hf sd σ H Q sr h => two qa qb qr sr h⟩
theorem OpD.or {f : Value → Value → Sem Value} {g g' : D → D → M D} (h : OpD X E f g) (h' : OpD X E f g') (p : D → D → Bool) : OpD X E f (fun x y => if p x y then g x y else g' x y) := by
  obtain ⟨r, hr, qr⟩ := h
  obtain ⟨r', hr', qr'⟩ := h'
  refine ⟨_, hr.or hr', fun Hf H x y dx dy Q e rx ry q => ?_⟩
  dsimp only at q
  by_cases c : p dx dy = true
  · rw [if_pos c] at q
    exact .inl (qr Hf H x y dx dy Q e rx ry q)
  · rw [if_neg c] at q
    exact .inr (qr' Hf H x y dx dy Q e rx ry q)
/-- two ints -/
def gI (c : Int → Int → Bool) (g : Int → Int → D) : D → D → M D
  | .int i, .int j => if c i j then .ok (g i j) else .bad
  | _, _ => .bad
def gI0 (g : Int → Int → D) : D → D → M D
  | .int i, .int j => .ok (g i j)
  | _, _ => .bad
theorem od_I0 {f : Value → Value → Sem Value} {gv : Int → Int → V} {gd : Int → Int → D} (h : OpR X f (rI0 gv)) (hg : ∀ i j (H : Hp), Rep X.K H (gd i j) (gv i j)) : OpD X E f (gI0 gd) := by
  refine ⟨_, h, fun Hf H x y dx dy Q e rx ry q => ?_⟩
  unfold gI0 at q
  split at q
  · rename_i i j
    exact ⟨i, j, rep_int.mp rx, rep_int.mp ry, Po.ret e q (hg i j Hf)⟩
  · exact q.elim
theorem od_I {f : Value → Value → Sem Value} {C : Int → Int → Prop} {c : Int → Int → Bool} {gv : Int → Int → V} {gd : Int → Int → D} (h : OpR X f (rI C gv)) (hc : ∀ i j, c i j = true → C i j) (hg : ∀ i j (H : Hp), Rep X.K H (gd i j) (gv i j)) : OpD X E f (gI c gd) := by
  refine ⟨_, h, fun Hf H x y dx dy Q e rx ry q => ?_⟩
  unfold gI at q
  split at q
  · rename_i i j
    split at q
    · rename_i hcc
      exact ⟨i, j, rep_int.mp rx, rep_int.mp ry, hc i j hcc, Po.ret e q (hg i j Hf)⟩
    · exact q.elim
  · exact q.elim
def gSub : D → D → M D := gI0 fun i j => .int (i - j)
def gLt : D → D → M D := gI0 fun i j => .bl (decide (i < j))
def gLe : D → D → M D := gI0 fun i j => .bl (decide (i ≤ j))
def gGt : D → D → M D := gI0 fun i j => .bl (decide (j < i))
def gGe : D → D → M D := gI0 fun i j => .bl (decide (j ≤ i))
theorem od_sub : OpD X E (binaryOp .Sub) gSub := od_I0 op_sub fun _ _ _ => rep_int.mpr rfl
theorem od_lt : OpD X E (compareOp .Lt) gLt := od_I0 op_lt fun _ _ _ => rep_bl.mpr rfl
theorem od_le : OpD X E (compareOp .LtE) gLe := od_I0 op_le fun _ _ _ => rep_bl.mpr rfl
theorem od_gt : OpD X E (compareOp .Gt) gGt := od_I0 op_gt fun _ _ _ => rep_bl.mpr rfl
theorem od_ge : OpD X E (compareOp .GtE) gGe := od_I0 op_ge fun _ _ _ => rep_bl.mpr rfl
end
end DL

set_option maxHeartbeats 4000000

namespace DL
open PySem PySem.Spec PyProof.Rows L2

/-! ### big ints -/
section
variable {X : Cx} {E : XK} {pos : Pos} {a b : Expr}
theorem bits_of {i : Int} (h : i.natAbs < 2 ^ 4000) : Builtin.Int.intBits i ≤ 2 ^ 20 := by
  unfold Builtin.Int.intBits
  split
  · exact Nat.zero_le _
  · rename_i hz
    have hn : i.natAbs ≠ 0 := fun z => hz (by rw [Int.natAbs_eq_zero.mp z]; rfl)
    have : i.natAbs.log2 < 4000 := (Nat.log2_lt hn).mpr h
    have e : (2 : Nat) ^ 20 = 1048576 := rfl
    omega
def CBig (i j : Int) : Prop := i.natAbs < 2 ^ 4000 ∧ j.natAbs < 2 ^ 4000
def CNz (_i j : Int) : Prop := j ≠ 0 ∧ j.natAbs < 2 ^ 4000
theorem log_of {j : Int} (h : j.natAbs < 2 ^ 4000) : j.natAbs.log2 < 9000 := by
  by_cases hn : j.natAbs = 0
  · rw [hn]; decide
  · have : j.natAbs.log2 < 4000 := (Nat.log2_lt hn).mpr h
    omega
theorem op_mulB : OpR X (binaryOp .Mult) (rI CBig fun i j => .int (i * j)) := opI fun _ _ _ _ _ _ _ hc q => mul_int q (IntMulOk.of_bits (bits_of hc.1) (bits_of hc.2))
theorem op_fdivB : OpR X (binaryOp .FloorDiv) (rI CNz fun i j => .int (i.fdiv j)) := opI fun _ _ _ _ _ _ _ hc q => floordiv_int hc.1 q (.inl (PyProof.noPylong_of_log2 (log_of hc.2)))
def sm (i : Int) : Bool := decide (i.natAbs < 2 ^ 4000)
theorem sm_iff {i : Int} : sm i = true ↔ i.natAbs < 2 ^ 4000 := decide_eq_true_iff
def gMul : D → D → M D := gI (fun i j => sm i && sm j) fun i j => .int (i * j)
def gFdiv : D → D → M D := gI (fun _ j => j != 0 && sm j) fun i j => .int (i.fdiv j)
def gMod : D → D → M D := gI (fun _ j => j != 0) fun i j => .int (i.fmod j)
def gPow : D → D → M D := gI (fun i j => decide (0 ≤ j ∧ j ≤ 1000 ∧ i.natAbs < 1000)) fun i j => .int (i ^ j.toNat)
theorem od_mul : OpD X E (binaryOp .Mult) gMul := od_I op_mulB (fun i j h => by
  rw [Bool.and_eq_true] at h
  exact ⟨sm_iff.mp h.1, sm_iff.mp h.2⟩) fun _ _ _ => rep_int.mpr rfl
theorem od_fdiv : OpD X E (binaryOp .FloorDiv) gFdiv := od_I op_fdivB (fun i j h => by
  rw [Bool.and_eq_true] at h
  exact ⟨by simpa using h.1, sm_iff.mp h.2⟩) fun _ _ _ => rep_int.mpr rfl
theorem od_mod : OpD X E (binaryOp .Mod) gMod := od_I op_modN (fun i j h => by simpa using h) fun _ _ _ => rep_int.mpr rfl
theorem od_pow : OpD X E (binaryOp .Pow) gPow := od_I op_pow (fun i j h => by
  have h := of_decide_eq_true h
  refine ⟨h.1, by omega, ?_⟩
  have e : (2 : Nat) ^ 64 = 18446744073709551616 := rfl
  omega) fun _ _ _ => rep_int.mpr rfl

/-! ### sequences of data -/
theorem atI_rep {K : PySem.W.Frag} {H : Hp} {ds : List D} {xs : List V} {i : Int} {d : D} (r : Reps K H ds xs) (e : atI ds i = some d) : ∃ x, atI xs i = some x ∧ Rep K H d x := by
  unfold atI at e ⊢
  rw [← r.length]
  cases q : ixN ds.length i with
  | none => rw [q] at e; cases e
  | some j =>
    rw [q] at e
    exact r.get e
def gIx : D → D → M D
  | .lst ds, .int i => match atI ds i with
    | some d => .ok d
    | none => .bad
  | .tup ds, .int i => match atI ds i with
    | some d => .ok d
    | none => .bad
  | .str z, .int i => if z.length ≤ sizeLine then (match atI z.cps.toList i with
    | some c => .ok (.str ⟨#[c]⟩)
    | none => .bad) else .bad
  | _, _ => .bad
theorem pd_ix {fa fb : DSt → M D} (ha : PEd X E a fa) (hb : PEd X E b fb) (hs : PlainIx b) : PEd X E (.Subscript a b pos) (eOp gIx fa fb) := by
  obtain ⟨ta, pa, qa⟩ := ha
  obtain ⟨tb, pb, qb⟩ := hb
  refine ⟨_, pe_ix ix_seq pa pb hs, fun H0 B Hf sd σ H Q sr h => two qa qb (fun Hf H x y dx dy Q e rx ry q => ?_) sr h⟩
  unfold gIx at q
  split at q
  · rename_i ds i
    split at q
    · rename_i d ei
      obtain ⟨p, xs, rfl, hp, hr⟩ := rep_lst.mp rx
      obtain ⟨v, e1, e2⟩ := atI_rep hr ei
      exact .inl ⟨p, xs, i, v, rfl, rep_int.mp ry, e.seq hp, e1, Po.ret e q e2⟩
    · exact q.elim
  · rename_i ds i
    split at q
    · rename_i d ei
      obtain ⟨p, xs, rfl, hp, hr⟩ := rep_tupQ rx
      obtain ⟨v, e1, e2⟩ := atI_rep hr ei
      exact .inr (.inl ⟨p, xs, i, v, rfl, rep_int.mp ry, Same.seqT e hp, e1, Po.ret e q e2⟩)
    · exact q.elim
  · rename_i z i
    split at q
    · rename_i hz
      split at q
      · rename_i c ei
        exact .inr (.inr ⟨z, i, c, rep_str.mp rx, rep_int.mp ry, hz, ei, Po.ret e q (rep_str.mpr rfl)⟩)
      · exact q.elim
    · exact q.elim
  · exact q.elim

/-! ### argument lists, displays -/
def aNil (_ : DSt) : M (List D) := .ok []
def aCons (fa : DSt → M D) (fr : DSt → M (List D)) (sd : DSt) : M (List D) := (fa sd).bind fun d => (fr sd).bind fun ds => .ok (d :: ds)
theorem pad_nil : PAd X E [] aNil := ⟨_, pa_nil, fun _ _ _ _ _ _ _ sr h => Po.ret sr.sub h Reps.nil⟩
theorem pad_cons {es : List Expr} {fa : DSt → M D} {fr : DSt → M (List D)} (ha : PEd X E a fa) (hr : PAd X E es fr) (hs : starEach (a :: es) X.env = (false, eval a X.env) :: starEach es X.env := by rfl) : PAd X E (a :: es) (aCons fa fr) := by
  obtain ⟨ta, pa, qa⟩ := ha
  obtain ⟨tr, pr, qr⟩ := hr
  refine ⟨_, pa_cons pa pr hs, fun H0 B Hf sd σ H Q sr h => ?_⟩
  refine qa H0 B Hf sd σ H _ sr (Po.bind h fun d v Hf1 H1 _ g1 rv h1 => ?_)
  refine qr H0 B Hf1 sd σ H1 _ (sr.gr g1) (Po.bind h1 fun ds vs Hf2 H2 _ g2 rs h2 => ?_)
  exact Po.ret g2.sub h2 (Reps.cons (Rep.mono g2.fz rv) rs)
def few (ds : List D) : Bool := decide (ds.length ≤ 1000000)
theorem few_line {K : PySem.W.Frag} {H : Hp} {ds : List D} {xs : List V} (h : few ds = true) (r : Reps K H ds xs) : xs.length ≤ sizeLine := by
  have := of_decide_eq_true h
  have e := sizeLine_eq
  rw [← r.length, e]
  omega
def eTup (fs : DSt → M (List D)) (sd : DSt) : M D := (fs sd).bind fun ds => if few ds then .ok (.tup ds) else .bad
def eLst (fs : DSt → M (List D)) (sd : DSt) : M D := (fs sd).bind fun ds => if few ds then .ok (.lst ds) else .bad
theorem Gr.tup {K : PySem.W.Frag} {Hf H : Hp} {p : Addr} {ds : List D} {xs : List V} (e : Same Hf H) (hp : H p = none) (r : Reps K Hf ds xs) : Rep K (upd Hf p (.tup xs)) (.tup ds) (.ref p) :=
  rep_tup.mpr ⟨p, xs, rfl, upd_same, r.mono (same_upd (e.free hp) _)⟩
theorem Gr.lst {K : PySem.W.Frag} {Hf H : Hp} {p : Addr} {ds : List D} {xs : List V} (e : Same Hf H) (hp : H p = none) (r : Reps K Hf ds xs) : Rep K (upd Hf p (.lst xs)) (.lst ds) (.ref p) :=
  rep_lst.mpr ⟨p, xs, rfl, SqL.of upd_same, r.mono (same_upd (e.free hp) _)⟩
theorem pd_tup {es : List Expr} {fs : DSt → M (List D)} {x1} (h : PAd X E es fs) : PEd X E (.Tuple es x1 pos) (eTup fs) := by
  obtain ⟨t, p, q⟩ := h
  refine ⟨_, pe_tup p, fun H0 B Hf sd σ H Q sr h => ?_⟩
  refine q H0 B Hf sd σ H _ sr (Po.bind h fun ds vs Hf1 H1 _ g1 rs h1 => ?_)
  split at h1
  · rename_i hf
    exact ⟨few_line hf rs, fun p hp => h1 _ _ _ (Gr.alloc g1.sub hp _) (Gr.tup g1.sub hp rs)⟩
  · exact h1.elim
theorem pd_lst {es : List Expr} {fs : DSt → M (List D)} (h : PAd X E es fs) : PEd X E (.List es pos) (eLst fs) := by
  obtain ⟨t, p, q⟩ := h
  refine ⟨_, pe_lst p, fun H0 B Hf sd σ H Q sr h => ?_⟩
  refine q H0 B Hf sd σ H _ sr (Po.bind h fun ds vs Hf1 H1 _ g1 rs h1 => ?_)
  split at h1
  · rename_i hf
    exact ⟨few_line hf rs, fun p hp => h1 _ _ _ (Gr.alloc g1.sub hp _) (Gr.lst g1.sub hp rs)⟩
  · exact h1.elim

/-! ### builtin functions upon data -/
def CallD (X : Cx) (E : XK) (f : Value) (g : List D → M D) : Prop :=
  ∃ r, CallR X f r ∧ ∀ (Hf H : Hp) (xs : List V) (ds : List D) (Q : VK), Same Hf H → Reps X.K Hf ds xs → Po X.K E (rV X.K) Hf H (g ds) Q → r xs H Q
def eCB (g : List D → M D) (fs : DSt → M (List D)) (sd : DSt) : M D := (fs sd).bind g
theorem pd_callB {x : Str} {id : String} {p : Pos} {g : List D → M D} {e : Expr} {es : List Expr} {fs : DSt → M (List D)} (hc : CallD X E (.builtin id) g) (hg : Gl X x) (hm : X.mg x = none) (hv : bootBuiltins x = some (.builtin id)) (ha : PAd X E (e :: es) fs)
    (hn : x ≠ "__name__" := by decide) (hdb : (x == ("__debug__" : Str)) = false := by decide)
    (he : starEach (e :: es) X.env = (false, eval e X.env) :: starEach es X.env := by rfl) (hpl : (backTo pos (starEach es X.env)).any (·.1) = false := by rfl) : PEd X E (.Call (.Name x p) (e :: es) [] pos) (eCB g fs) := by
  obtain ⟨r, hr, qr⟩ := hc
  obtain ⟨t, pt, qt⟩ := ha
  refine ⟨_, pe_callB hr hg hm hv pt hn hdb he hpl, fun H0 B Hf sd σ H Q sr h => ?_⟩
  exact qt H0 B Hf sd σ H _ sr (Po.bind h fun ds vs Hf1 H1 _ g1 rs h1 => qr Hf1 H1 vs ds Q g1.sub rs h1)
theorem pd_callT {x : Str} {T : String} {p : Pos} {g : List D → M D} {e : Expr} {es : List Expr} {fs : DSt → M (List D)} (hc : CallD X E (.type T) g) (hg : Gl X x) (hm : X.mg x = none) (hv : bootBuiltins x = some (.type T)) (ha : PAd X E (e :: es) fs)
    (hn : x ≠ "__name__" := by decide) (hdb : (x == ("__debug__" : Str)) = false := by decide)
    (he : starEach (e :: es) X.env = (false, eval e X.env) :: starEach es X.env := by rfl) (hpl : (backTo pos (starEach es X.env)).any (·.1) = false := by rfl) : PEd X E (.Call (.Name x p) (e :: es) [] pos) (eCB g fs) := by
  obtain ⟨r, hr, qr⟩ := hc
  obtain ⟨t, pt, qt⟩ := ha
  refine ⟨_, pe_callTy hr hg hm hv pt hn hdb he hpl, fun H0 B Hf sd σ H Q sr h => ?_⟩
  exact qt H0 B Hf sd σ H _ sr (Po.bind h fun ds vs Hf1 H1 _ g1 rs h1 => qr Hf1 H1 vs ds Q g1.sub rs h1)
theorem reps1 {K : PySem.W.Frag} {H : Hp} {d : D} {xs : List V} (r : Reps K H [d] xs) : ∃ x, xs = [x] ∧ Rep K H d x := by
  obtain ⟨x, t, rfl, h, r2⟩ := reps_cons.mp r
  rw [reps_nil.mp r2]; exact ⟨x, rfl, h⟩
theorem reps2 {K : PySem.W.Frag} {H : Hp} {d e : D} {xs : List V} (r : Reps K H [d, e] xs) : ∃ x y, xs = [x, y] ∧ Rep K H d x ∧ Rep K H e y := by
  obtain ⟨x, t, rfl, h, r2⟩ := reps_cons.mp r
  obtain ⟨y, rfl, h2⟩ := reps1 r2
  exact ⟨x, y, rfl, h, h2⟩
def bAbs : List D → M D
  | [.int i] => .ok (.int (if i < 0 then -i else i))
  | _ => .bad
theorem cd_abs : CallD X E (.builtin "abs") bAbs := by
  refine ⟨_, call_abs, fun Hf H xs ds Q e r q => ?_⟩
  unfold bAbs at q
  split at q
  · obtain ⟨x, rfl, h⟩ := reps1 r
    rw [rep_int.mp h]
    exact ⟨_, rfl, Po.ret e q (rep_int.mpr rfl)⟩
  · exact q.elim
def bInt : List D → M D
  | [.int i] => .ok (.int i)
  | [.bl b] => .ok (.int (if b then 1 else 0))
  | _ => .bad
theorem cd_int : CallD X E (.type "int") bInt := by
  refine ⟨_, call_int1, fun Hf H xs ds Q e r q => ?_⟩
  unfold bInt at q
  split at q
  · obtain ⟨x, rfl, h⟩ := reps1 r
    rw [rep_int.mp h]
    exact .inl ⟨_, rfl, Po.ret e q (rep_int.mpr rfl)⟩
  · obtain ⟨x, rfl, h⟩ := reps1 r
    rw [rep_bl.mp h]
    exact .inr ⟨_, rfl, Po.ret e q (rep_int.mpr rfl)⟩
  · exact q.elim
def bLen : List D → M D
  | [.lst ds] => .ok (.int ds.length)
  | [.tup ds] => .ok (.int ds.length)
  | [.str z] => if z.length ≤ sizeLine then .ok (.int z.length) else .bad
  | _ => .bad
theorem cd_len : CallD X E (.builtin "len") bLen := by
  refine ⟨_, call_len_seq.or call_len_str, fun Hf H xs ds Q e r q => ?_⟩
  unfold bLen at q
  split at q
  · obtain ⟨x, rfl, h⟩ := reps1 r
    obtain ⟨p, ys, rfl, hp, hr⟩ := rep_lst.mp h
    refine .inl ⟨p, ys, rfl, .inl (e.seq hp), ?_⟩
    rw [← hr.length]
    exact Po.ret e q (rep_int.mpr rfl)
  · obtain ⟨x, rfl, h⟩ := reps1 r
    obtain ⟨p, ys, rfl, hp, hr⟩ := rep_tupQ h
    refine .inl ⟨p, ys, rfl, .inr (Same.seqT e hp), ?_⟩
    rw [← hr.length]
    exact Po.ret e q (rep_int.mpr rfl)
  · split at q
    · rename_i hz
      obtain ⟨x, rfl, h⟩ := reps1 r
      rw [rep_str.mp h]
      exact .inr ⟨_, rfl, hz, Po.ret e q (rep_int.mpr rfl)⟩
    · exact q.elim
  · exact q.elim
def bList : List D → M D
  | [.lst ds] => .ok (.lst ds)
  | [.tup ds] => .ok (.lst ds)
  | _ => .bad
theorem cd_list : CallD X E (.type "list") bList := by
  refine ⟨_, call_list_of, fun Hf H xs ds Q e r q => ?_⟩
  unfold bList at q
  split at q
  · obtain ⟨x, rfl, h⟩ := reps1 r
    obtain ⟨p, ys, rfl, hp, hr⟩ := rep_lst.mp h
    exact ⟨p, ys, rfl, .inl (e.seq hp), fun l hl => q _ _ _ (Gr.alloc e hl _) (Gr.lst e hl hr)⟩
  · obtain ⟨x, rfl, h⟩ := reps1 r
    obtain ⟨p, ys, rfl, hp, hr⟩ := rep_tupQ h
    exact ⟨p, ys, rfl, .inr (Same.seqT e hp), fun l hl => q _ _ _ (Gr.alloc e hl _) (Gr.lst e hl hr)⟩
  · exact q.elim
def bTuple : List D → M D
  | [.lst ds] => .ok (.tup ds)
  | [.tup ds] => .ok (.tup ds)
  | _ => .bad
theorem cd_tuple : CallD X E (.type "tuple") bTuple := by
  refine ⟨_, call_tuple_of, fun Hf H xs ds Q e r q => ?_⟩
  unfold bTuple at q
  split at q
  · obtain ⟨x, rfl, h⟩ := reps1 r
    obtain ⟨p, ys, rfl, hp, hr⟩ := rep_lst.mp h
    exact ⟨p, ys, rfl, .inl ⟨e.seq hp, fun l hl => q _ _ _ (Gr.alloc e hl _) (Gr.tup e hl hr)⟩⟩
  · obtain ⟨x, rfl, h⟩ := reps1 r
    obtain ⟨p, ys, rfl, hp, hr⟩ := rep_tupQ h
    exact ⟨p, ys, rfl, .inr ⟨Same.seqT e hp, Po.ret e q (h)⟩⟩
  · exact q.elim

/-! ### tests -/
def asB : D → M Bool
  | .bl b => .ok b
  | _ => .bad
def tB (f : DSt → M D) (sd : DSt) : M Bool := (f sd).bind asB
def tN (f : DSt → M Bool) (sd : DSt) : M Bool := (f sd).bind fun b => .ok (!b)
def tA (f g : DSt → M Bool) (sd : DSt) : M Bool := (f sd).bind fun b => if b then g sd else .ok false
def tO (f g : DSt → M Bool) (sd : DSt) : M Bool := (f sd).bind fun b => if b then .ok true else g sd
theorem ptd_val {e : Expr} {f : DSt → M D} (h : PEd X E e f) (he : ∀ whole, isTrue e X.env whole = (do let v ← whole; standAt e.pos; holding [v] (truthy v)) := by intro _; rfl) : PTd X E e (tB f) := by
  obtain ⟨t, p, q⟩ := h
  refine ⟨_, pt_val p he, fun H0 B Hf sd σ H Q sr h => ?_⟩
  refine q H0 B Hf sd σ H _ sr (Po.bind h fun d v Hf1 H1 _ g1 rv h1 => ?_)
  unfold asB at h1
  split at h1
  · exact ⟨_, rep_bl.mp rv, Po.ret (R := rQ) g1.sub h1 rfl⟩
  · exact h1.elim
theorem ptd_cmp {op : CmpOp} {g : D → D → M D} {fa fb : DSt → M D} (ho : OpD X E (compareOp op) g) (ha : PEd X E a fa) (hb : PEd X E b fb) (hm : behindInMarks op b = false) : PTd X E (.Compare a [op] [b] pos) (tB (eOp g fa fb)) := by
  obtain ⟨r, hr, qr⟩ := ho
  obtain ⟨ta, pa, qa⟩ := ha
  obtain ⟨tb, pb, qb⟩ := hb
  refine ⟨_, pt_cmpR hr pa pb hm, fun H0 B Hf sd σ H Q sr h => ?_⟩
  refine two qa qb qr sr (Po.bind h fun d v Hf1 H1 _ g1 rv h1 => ?_)
  unfold asB at h1
  split at h1
  · exact ⟨_, rep_bl.mp rv, Po.ret (R := rQ) g1.sub h1 rfl⟩
  · exact h1.elim
theorem ptd_not {f : DSt → M Bool} (h : PTd X E a f) : PTd X E (.UnaryOp .Not a pos) (tN f) := by
  obtain ⟨t, p, q⟩ := h
  refine ⟨_, pt_not p, fun H0 B Hf sd σ H Q sr h => ?_⟩
  refine q H0 B Hf sd σ H _ sr (Po.bind h fun b v Hf1 H1 _ g1 rv h1 => ?_)
  have e : b = v := rv
  subst e
  exact Po.ret (R := rQ) g1.sub h1 rfl
theorem PWd.pt {f : DSt → M Bool} {e : Expr} (h : PWd X E e f) : PTd X E e f := by
  obtain ⟨t, p, q⟩ := h
  exact ⟨t, p.pt, q⟩
theorem pwd_or1 {f : DSt → M Bool} (h : PTd X E a f) : PWd X E (.BoolOp .Or [a] pos) f := by
  obtain ⟨t, p, q⟩ := h
  exact ⟨t, pw_or1 p, q⟩
theorem pwd_or {rest : List Expr} {f g : DSt → M Bool} (h : PTd X E a f) (h2 : PWd X E (.BoolOp .Or (b :: rest) pos) g) : PWd X E (.BoolOp .Or (a :: b :: rest) pos) (tO f g) := by
  obtain ⟨t, p, q⟩ := h
  obtain ⟨t2, p2, q2⟩ := h2
  refine ⟨_, pw_or p p2, fun H0 B Hf sd σ H Q sr h => ?_⟩
  refine q H0 B Hf sd σ H _ sr (Po.bind h fun b v Hf1 H1 _ g1 rv h1 => ?_)
  have e : b = v := rv
  subst e
  cases b with
  | true => rw [if_pos rfl] at h1 ⊢; exact Po.ret (R := rQ) g1.sub h1 rfl
  | false => rw [if_neg Bool.false_ne_true] at h1 ⊢; exact q2 H0 B Hf1 sd σ H1 Q (sr.gr g1) h1
/-! values: and, or, not, x if c else y -/
def eAnd (f g : DSt → M D) (sd : DSt) : M D := (f sd).bind fun d => (asB d).bind fun b => if b then g sd else .ok (.bl false)
def eOr (f g : DSt → M D) (sd : DSt) : M D := (f sd).bind fun d => (asB d).bind fun b => if b then .ok (.bl true) else g sd
def eNot (f : DSt → M D) (sd : DSt) : M D := (f sd).bind fun d => (asB d).bind fun b => .ok (.bl (!b))
def eIf (c : DSt → M Bool) (f g : DSt → M D) (sd : DSt) : M D := (c sd).bind fun b => if b then f sd else g sd
theorem pd_one {op} {f : DSt → M D} (h : PEd X E a f) : PEd X E (.BoolOp op [a] pos) f := by
  obtain ⟨t, p, q⟩ := h
  exact ⟨t, pe_one p, q⟩
theorem asB_ok {d : D} {b : Bool} (h : asB d = .ok b) : d = .bl b := by
  unfold asB at h
  split at h
  · cases h; rfl
  · cases h
theorem asB_noex {d : D} {x : XV} (h : asB d = .ex x) : False := by
  unfold asB at h
  split at h <;> cases h
theorem Po.asB {K : PySem.W.Frag} {α β : Type} {R : Hp → Hp → α → β → Prop} {Hf H : Hp} {d : D} {k : Bool → M α} {Q : β → Hp → Prop} (h : Po K E R Hf H ((asB d).bind k) Q) : ∃ b, d = .bl b ∧ Po K E R Hf H (k b) Q := by
  cases q : DL.asB d with
  | ok b => rw [q] at h; exact ⟨b, asB_ok q, h⟩
  | ex x => exact (asB_noex q).elim
  | bad => rw [q] at h; exact h.elim
theorem pd_and {rest : List Expr} {f g : DSt → M D} (h : PEd X E a f) (h2 : PEd X E (.BoolOp .And (b :: rest) pos) g) : PEd X E (.BoolOp .And (a :: b :: rest) pos) (eAnd f g) := by
  obtain ⟨t, p, q⟩ := h
  obtain ⟨t2, p2, q2⟩ := h2
  refine ⟨_, pe_and p p2, fun H0 B Hf sd σ H Q sr h => ?_⟩
  refine q H0 B Hf sd σ H _ sr (Po.bind h fun d v Hf1 H1 _ g1 rv h1 => ?_)
  obtain ⟨c, rfl, h2⟩ := Po.asB h1
  refine ⟨c, rep_bl.mp rv, ?_⟩
  cases c with
  | true => rw [if_pos rfl] at h2 ⊢; exact q2 H0 B Hf1 sd σ H1 Q (sr.gr g1) h2
  | false => rw [if_neg Bool.false_ne_true] at h2 ⊢; exact Po.ret (R := rV X.K) g1.sub h2 (rep_bl.mpr rfl)
theorem pd_or {rest : List Expr} {f g : DSt → M D} (h : PEd X E a f) (h2 : PEd X E (.BoolOp .Or (b :: rest) pos) g) : PEd X E (.BoolOp .Or (a :: b :: rest) pos) (eOr f g) := by
  obtain ⟨t, p, q⟩ := h
  obtain ⟨t2, p2, q2⟩ := h2
  refine ⟨_, pe_or p p2, fun H0 B Hf sd σ H Q sr h => ?_⟩
  refine q H0 B Hf sd σ H _ sr (Po.bind h fun d v Hf1 H1 _ g1 rv h1 => ?_)
  obtain ⟨c, rfl, h2⟩ := Po.asB h1
  refine ⟨c, rep_bl.mp rv, ?_⟩
  cases c with
  | true => rw [if_pos rfl] at h2 ⊢; exact Po.ret (R := rV X.K) g1.sub h2 (rep_bl.mpr rfl)
  | false => rw [if_neg Bool.false_ne_true] at h2 ⊢; exact q2 H0 B Hf1 sd σ H1 Q (sr.gr g1) h2
theorem pd_not {f : DSt → M D} (h : PEd X E a f) : PEd X E (.UnaryOp .Not a pos) (eNot f) := by
  obtain ⟨t, p, q⟩ := h
  refine ⟨_, pe_not p, fun H0 B Hf sd σ H Q sr h => ?_⟩
  refine q H0 B Hf sd σ H _ sr (Po.bind h fun d v Hf1 H1 _ g1 rv h1 => ?_)
  obtain ⟨c, rfl, h2⟩ := Po.asB h1
  exact ⟨c, rep_bl.mp rv, Po.ret (R := rV X.K) g1.sub h2 (rep_bl.mpr rfl)⟩
theorem pd_ifexp {c : Expr} {f g : DSt → M D} {k : DSt → M Bool} (hc : PTd X E c k) (h : PEd X E a f) (h2 : PEd X E b g) : PEd X E (.IfExp c a b pos) (eIf k f g) := by
  obtain ⟨t, p, q⟩ := hc
  obtain ⟨t1, p1, q1⟩ := h
  obtain ⟨t2, p2, q2⟩ := h2
  refine ⟨_, pe_ifExp p p1 p2, fun H0 B Hf sd σ H Q sr h => ?_⟩
  refine q H0 B Hf sd σ H _ sr (Po.bind h fun c v Hf1 H1 _ g1 rv h1 => ?_)
  have e : c = v := rv
  subst e
  cases c with
  | true => rw [if_pos rfl] at h1 ⊢; exact q1 H0 B Hf1 sd σ H1 Q (sr.gr g1) h1
  | false => rw [if_neg Bool.false_ne_true] at h1 ⊢; exact q2 H0 B Hf1 sd σ H1 Q (sr.gr g1) h1
end

/-! ### statements -/
section
variable {X : Cx} {E : XK} {pos : Pos} {a b : Expr}
def sNil (sd : DSt) : M O := .ok (.nx sd)
def sSeq (f g : DSt → M O) (sd : DSt) : M O := (f sd).bind fun o => match o with
  | .nx sd' => g sd'
  | o => .ok o
theorem psd_nil : PSsd X E [] sNil := ⟨_, pss_nil, fun _ _ Hf _ _ _ _ sr h => h _ Hf _ (Same.refl _) sr⟩
theorem psd_one {st : Stmt} {f : DSt → M O} (h : PSd X E st f) : PSsd X E [st] f := by
  obtain ⟨t, p, q⟩ := h
  exact ⟨t, pss_one p, q⟩
theorem psd_cons {st : Stmt} {rest : List Stmt} {f g : DSt → M O} (h : PSd X E st f) (h2 : PSsd X E rest g) : PSsd X E (st :: rest) (sSeq f g) := by
  obtain ⟨t, p, q⟩ := h
  obtain ⟨t2, p2, q2⟩ := h2
  refine ⟨_, pss_cons p p2, fun H0 B Hf sd σ H D sr h => ?_⟩
  refine q H0 B Hf sd σ H _ sr ?_
  unfold sSeq at h
  cases e : f sd with
  | ok o =>
    rw [e] at h
    cases o with
    | nx sd' => exact fun σ' Hf' H' e' sr' => q2 H0 B Hf' sd' σ' H' D sr' (PoS.weak e' h)
    | rt s => exact h
    | bk sd' => exact h
    | ct sd' => exact h
  | ex x => rw [e] at h; exact h
  | bad => rw [e] at h; exact h
def sSet (i : Nat) (f : DSt → M D) (sd : DSt) : M O := (f sd).bind fun d => .ok (.nx (sd.set i (some (.im d))))
theorem psd_set (i : Nat) {x : Str} {e : Expr} {f : DSt → M D} {pos' : Pos} (hN : X.N.Nodup) (h : PEd X E e f) (hi : X.N[i]? = some x := by rfl) (hx : Loc X.env.scope x := by first | exact Or.inl rfl | exact Or.inr rfl)
    (hs : swapsWith e (some (.Name x pos')) pos.line X.env = pure false := by rfl) (hf : X.fn x = true ∨ X.env.scope.names.lookup x = some .local := by first | exact .inl rfl | exact .inr rfl | assumption) :
    PSd X E (.Assign [.Name x pos'] e pos) (sSet i f) := by
  obtain ⟨t, p, q⟩ := h
  refine ⟨_, ps_set hN hi hx p hs hf, fun H0 B Hf sd σ H D sr h => ?_⟩
  refine q H0 B Hf sd σ H _ sr (PoS.bind sr h fun d v Hf1 H1 _ g1 sr1 rv h1 => ?_)
  exact h1 _ Hf1 H1 (Same.refl _) (sr1.set_im i rv)
def sRet (f : DSt → M D) (sd : DSt) : M O := (f sd).bind fun d => .ok (.rt (.im d))
theorem psd_ret {e : Expr} {f : DSt → M D} (h : PEd X E e f) : PSd X E (.Return (some e) pos) (sRet f) := by
  obtain ⟨t, p, q⟩ := h
  refine ⟨_, ps_ret p, fun H0 B Hf sd σ H D sr h => ?_⟩
  refine q H0 B Hf sd σ H _ sr (PoS.bind sr h fun d v Hf1 H1 _ g1 sr1 rv h1 => ?_)
  exact h1 v Hf1 H1 (Same.refl _) sr1.fin rv
def sIf (c : DSt → M Bool) (f g : DSt → M O) (sd : DSt) : M O := (c sd).bind fun b => if b then f sd else g sd
theorem psd_if {c : Expr} {xs ys : List Stmt} {k : DSt → M Bool} {f g : DSt → M O} (hc : PTd X E c k) (h : PSsd X E xs f) (h2 : PSsd X E ys g) : PSd X E (.If c xs ys pos) (sIf k f g) := by
  obtain ⟨t, p, q⟩ := hc
  obtain ⟨t1, p1, q1⟩ := h
  obtain ⟨t2, p2, q2⟩ := h2
  refine ⟨_, ps_if p p1 p2, fun H0 B Hf sd σ H D sr h => ?_⟩
  refine q H0 B Hf sd σ H _ sr (PoS.bind (R := rQ) sr h fun c v Hf1 H1 _ g1 sr1 rv h1 => ?_)
  have e : c = v := rv
  subst e
  cases c with
  | true => rw [if_pos rfl] at h1 ⊢; exact q1 H0 B Hf1 sd σ H1 D sr1 h1
  | false => rw [if_neg Bool.false_ne_true] at h1 ⊢; exact q2 H0 B Hf1 sd σ H1 D sr1 h1

/-! ### while, by the number of turns -/
def whileD (c : DSt → M Bool) (f : DSt → M O) : Nat → DSt → M O
  | 0, _ => .bad
  | n + 1, sd => (c sd).bind fun b => if b then ((f sd).bind fun o => match o with
      | .nx sd' => whileD c f n sd'
      | .ct sd' => whileD c f n sd'
      | .bk sd' => .ok (.nx sd')
      | .rt s => .ok (.rt s)) else .ok (.nx sd)
open Classical in
noncomputable def sWhile (c : DSt → M Bool) (f : DSt → M O) (sd : DSt) : M O := if h : ∃ n, whileD c f n sd ≠ .bad then whileD c f (choose h) sd else .bad
theorem whileD_mono (c : DSt → M Bool) (f : DSt → M O) : ∀ (n m : Nat) (sd : DSt), n ≤ m → whileD c f n sd ≠ .bad → whileD c f m sd = whileD c f n sd
  | 0, _, _, _, h => absurd rfl h
  | n + 1, 0, _, hm, _ => absurd hm (by omega)
  | n + 1, m + 1, sd, hm, h => by
    unfold whileD at h ⊢
    cases e : c sd with
    | ok b =>
      rw [e] at h
      simp only [M.bind_ok] at h ⊢
      cases b with
      | false => rfl
      | true =>
        simp only [if_true] at h ⊢
        cases e2 : f sd with
        | ok o =>
          rw [e2] at h
          simp only [M.bind_ok] at h ⊢
          cases o with
          | nx sd' => exact whileD_mono c f n m sd' (by omega) h
          | ct sd' => exact whileD_mono c f n m sd' (by omega) h
          | bk sd' => rfl
          | rt s => rfl
        | ex x => rfl
        | bad => rfl
    | ex x => rfl
    | bad => rfl
theorem sWhile_eq {c : DSt → M Bool} {f : DSt → M O} {n : Nat} {sd : DSt} (h : whileD c f n sd ≠ .bad) : sWhile c f sd = whileD c f n sd := by
  unfold sWhile
  have hx : ∃ n, whileD c f n sd ≠ .bad := ⟨n, h⟩
  rw [dif_pos hx]
  have h2 := Classical.choose_spec hx
  rcases Nat.le_total n (Classical.choose hx) with l | l
  · exact whileD_mono c f _ _ sd l h
  · exact (whileD_mono c f _ _ sd l h2).symm
theorem psd_while {c : Expr} {body : List Stmt} {k : DSt → M Bool} {f : DSt → M O} (hp : PassesOwn (model X.prog X.w) X.A X.env X.xe) (hc : PTd X E c k) (h : PSsd X E body f) : PSd X E (.While c body [] pos) (sWhile k f) := by
  obtain ⟨t, p, q⟩ := hc
  obtain ⟨t1, p1, q1⟩ := h
  refine ⟨_, ps_while hp p p1, fun H0 B Hf sd σ H D sr h => ?_⟩
  obtain ⟨n, hn⟩ : ∃ n, PoS X.K E H0 B Hf (whileD k f n sd) D := by
    unfold sWhile at h
    split at h
    · exact ⟨_, h⟩
    · exact h.elim
  refine ⟨fun m σ' H' => ∃ Hf' sd', Same Hf Hf' ∧ SR X.K H0 B Hf' sd' σ' H' ∧ PoS X.K E H0 B Hf' (whileD k f m sd') D, ⟨n, Hf, sd, Same.refl _, sr, hn⟩, ?_⟩
  rintro m σ1 H1 ⟨Hf1, sd1, e1, sr1, h1⟩
  cases m with
  | zero => exact h1.elim
  | succ m =>
    unfold whileD at h1
    refine q H0 B Hf1 sd1 σ1 H1 _ sr1 (PoS.bind (R := rQ) sr1 h1 fun c v Hf2 H2 _ g2 sr2 rv h2 => ?_)
    have e : c = v := rv
    subst e
    cases c with
    | false =>
      rw [if_neg Bool.false_ne_true] at h2 ⊢
      exact h2 σ1 Hf2 H2 (Same.refl _) sr2
    | true =>
      rw [if_pos rfl] at h2 ⊢
      refine ⟨fun σ' H' => ∃ Hf' sd', Same Hf Hf' ∧ SR X.K H0 B Hf' sd' σ' H' ∧ PoS X.K E H0 B Hf' (whileD k f m sd') D, fun σ' H' w => ⟨m, Nat.lt_succ_self m, w⟩, ?_⟩
      refine q1 H0 B Hf2 sd1 σ1 H2 _ sr2 ?_
      cases e2 : f sd1 with
      | ok o =>
        rw [e2] at h2
        cases o with
        | nx sd' => exact fun σ' Hf' H' e' sr' => ⟨Hf', sd', e1.trans (g2.fz.trans e'), sr', PoS.weak e' h2⟩
        | ct sd' => exact fun σ' Hf' H' e' sr' => ⟨Hf', sd', e1.trans (g2.fz.trans e'), sr', PoS.weak e' h2⟩
        | bk sd' => exact h2
        | rt s => exact h2
      | ex x => rw [e2] at h2; exact h2
      | bad => rw [e2] at h2; exact h2
end
end DL

set_option maxHeartbeats 4000000

namespace DL
open PySem PySem.Spec PyProof.Rows L2

/-! ### a list unpacked -/
section
variable {prog : Program} {w : World} {A : Around} {E : Value → Shared → Prop}
theorem draw_list {it t : Addr} {items : Array Value} (hne : t ≠ it) : ∀ (n i : Nat) (s : Shared) (Q : List Value → Shared → Prop), s.heap.IsListIter it t i → s.heap.IsList t items → i + n ≤ items.size →
    (∀ h', h'.IsListIter it t (i + n) → Heap.SameBut it s.heap h' → Q ((items.toList.drop i).take n) { s with heap := h' }) → wpAny (model prog w) A (draw (.ref it) n) Q E s
  | 0, i, s, Q, hit, _, _, hQ => by
    show wpAny _ _ (pure []) Q E s
    exact wpAny_pure (by simpa using hQ s.heap hit (Heap.SameBut.refl ..))
  | n + 1, i, s, Q, hit, ht, hle, hQ => by
    have hlt : i < items.size := by omega
    show wpAny _ _ (pyNext (.ref it) >>= _) Q E s
    refine wpAny_bind (wpAny_pyNext_list_item hit ht (x := items[i]) (by simp [hlt]) fun h₁ hit₁ hs₁ => ?_)
    refine wpAny_bind (wpAny_holding (draw_list hne n (i + 1) _ _ hit₁ (ht.extBut hs₁.extBut hne) (by omega) fun h₂ hit₂ hs₂ => wpAny_pure ?_))
    have hd : items.toList.drop i = items[i] :: items.toList.drop (i + 1) := by simp [List.drop_eq_getElem_cons, hlt]
    have := hQ h₂ (by rw [show i + (n + 1) = i + 1 + n by omega]; exact hit₂) (hs₁.trans hs₂)
    rw [hd, List.take_succ_cons] at this
    exact this
theorem unpackItems_list {s : Shared} {t : Addr} {items : Array Value} {Q : List Value → Shared → Prop} (hh : A.handled = none) (ht : s.heap.IsList t items)
    (hQ : ∀ h', Heap.ExtBut s.heap.objs.size s.heap h' → Q items.toList { s with heap := h' }) : wpAny (model prog w) A (unpackItems (.ref t) items.size none) Q E s := by
  have hlt : t ≠ s.heap.objs.size := by obtain ⟨o, ho, _⟩ := ht; exact Nat.ne_of_lt (Heap.lt_size ho)
  unfold unpackItems
  refine wpAny_bind ?_
  · unfold notIterableAtAll
    refine wpAny_bind (wpAny_specialOf ht.typeIs slot_list_iter.lookup ?_)
    refine wpAny_pure ?_
    simp only [Bool.false_eq_true, if_false]
    refine wpAny_bind (wpAny_holding (wpAny_pyIter_list ht ?_))
    refine wpAny_bind (wpAny_holding (draw_list hlt items.size 0 _ _ ⟨_, Heap.get?_push_size _ rfl, rfl, rfl⟩ (ht.push _) (by omega) fun h₁ hit₁ hs₁ => ?_))
    have hall : List.take items.size (List.drop 0 items.toList) = items.toList := by
      rw [List.drop_zero]; exact List.take_of_length_le (by simp)
    rw [hall]
    rw [if_neg (by simp)]
    have ht₁ : h₁.IsList t items := (ht.push _).extBut hs₁.extBut hlt
    refine wpAny_bind (wpAny_holding (wpAny_pyNext_list_end hh hit₁ ht₁ (by simp) fun h₂ he₂ => ?_))
    simp only [Option.isSome_none, Bool.false_eq_true, if_false]
    refine wpAny_pure (hQ h₂ fun b o hb e => he₂ b o hb (hs₁.extBut b o hb (Heap.get?_push_of_some _ e)))
theorem assign_Tuple_list {s : Shared} {env : Env} {elts : List Expr} {x1} {pos : Pos} {t : Addr} {items : Array Value} {Q : Unit → Shared → Prop} (hh : A.handled = none) (ht : s.heap.IsList t items)
    (hn : (assignEach elts env).length = items.size) (hstar : (assignEach elts env).findIdx? (·.1) = none)
    (h : ∀ h', Heap.ExtBut s.heap.objs.size s.heap h' → wpAny (model prog w) A (assignInOrder ((assignEach elts env).map (·.2)) items.toList) Q E { s with heap := h' }) :
    wpAny (model prog w) A (assign (.Tuple elts x1 pos) env (.ref t)) Q E s := by
  rw [assign_Tuple]
  refine wpAny_bind (wpAny_standAt ?_)
  unfold unpack
  rw [hn, hstar]
  exact wpAny_bind (wpAny_holding (unpackItems_list hh ht h))
def chs (x : Str) : List V := x.cps.toList.map fun c => V.str ⟨#[c]⟩
theorem draw_str {it : Addr} {x : Str} {t : Tok} : ∀ (n i : Nat) (s : Shared) (Q : List Value → Shared → Prop), s.heap.IsStrIter it "str_ascii_iterator" x t i → i + n ≤ x.cps.size →
    (∀ h' tk us, h'.IsStrIter it "str_ascii_iterator" x t (i + n) → Heap.SameBut it s.heap h' → Vals (((chs x).drop i).take n) us → Q us { s with heap := h', toks := tk }) → wpAny (model prog w) A (draw (.ref it) n) Q E s
  | 0, i, s, Q, hit, _, hQ => by
    show wpAny _ _ (pure []) Q E s
    exact wpAny_pure (hQ s.heap s.toks [] hit (Heap.SameBut.refl ..) (by simpa using Paired.nil))
  | n + 1, i, s, Q, hit, hle, hQ => by
    have hlt : i < x.cps.size := by omega
    show wpAny _ _ (pyNext (.ref it) >>= _) Q E s
    refine wpAny_bind (wpAny_pyNext_ascii_item hit (c := x.cps[i]) (by simp [hlt]) fun h₁ hit₁ hs₁ => ?_)
    refine wpAny_bind (wpAny_holding (draw_str n (i + 1) _ _ hit₁ (by omega) fun h₂ tk us hit₂ hs₂ hv => wpAny_pure ?_))
    have hd : (chs x).drop i = V.str ⟨#[x.cps[i]]⟩ :: (chs x).drop (i + 1) := by
      have hl : i < (chs x).length := by simp [chs, hlt]
      rw [List.drop_eq_getElem_cons hl]; simp [chs]
    refine hQ h₂ tk _ (by rw [show i + (n + 1) = i + 1 + n by omega]; exact hit₂) (hs₁.trans hs₂) ?_
    rw [hd, List.take_succ_cons]
    exact .cons ⟨_, rfl⟩ hv
theorem unpackItems_str {s : Shared} {x : Str} {t : Tok} {Q : List Value → Shared → Prop} (hh : A.handled = none) (ha : x.cps.all (· < 128) = true)
    (hQ : ∀ h' tk us, Heap.ExtBut s.heap.objs.size s.heap h' → Vals (chs x) us → Q us { s with heap := h', toks := tk }) : wpAny (model prog w) A (unpackItems (.str x t) x.cps.size none) Q E s := by
  unfold unpackItems
  refine wpAny_bind ?_
  · unfold notIterableAtAll
    refine wpAny_bind (wpAny_specialOf (typeIs_str s x t) PySem.F.slot_str_iter.lookup ?_)
    refine wpAny_pure ?_
    simp only [Bool.false_eq_true, if_false]
    refine wpAny_bind (wpAny_holding (wpAny_pyIter_ascii ha ?_))
    refine wpAny_bind (wpAny_holding (draw_str x.cps.size 0 _ _ ⟨_, Heap.get?_push_size _ rfl, rfl, rfl⟩ (by omega) fun h₁ tk us hit₁ hs₁ hv => ?_))
    have hall : List.take x.cps.size (List.drop 0 (chs x)) = chs x := by
      rw [List.drop_zero]; exact List.take_of_length_le (by simp [chs])
    rw [hall] at hv
    have hl : us.length = x.cps.size := by rw [← hv.length]; simp [chs]
    rw [if_neg (by simp [hl])]
    refine wpAny_bind (wpAny_holding (wpAny_pyNext_ascii_end hh hit₁ (by simp) fun h₂ he₂ => ?_))
    simp only [Option.isSome_none, Bool.false_eq_true, if_false]
    refine wpAny_pure (hQ h₂ tk us (fun b o hb e => he₂ b o hb (hs₁.extBut b o hb (Heap.get?_push_of_some _ e))) hv)
theorem assign_Tuple_str {s : Shared} {env : Env} {elts : List Expr} {x1} {pos : Pos} {x : Str} {t : Tok} {Q : Unit → Shared → Prop} (hh : A.handled = none) (ha : x.cps.all (· < 128) = true)
    (hn : (assignEach elts env).length = x.cps.size) (hstar : (assignEach elts env).findIdx? (·.1) = none)
    (h : ∀ h' tk us, Heap.ExtBut s.heap.objs.size s.heap h' → Vals (chs x) us → wpAny (model prog w) A (assignInOrder ((assignEach elts env).map (·.2)) us) Q E { s with heap := h', toks := tk }) :
    wpAny (model prog w) A (assign (.Tuple elts x1 pos) env (.str x t)) Q E s := by
  rw [assign_Tuple]
  refine wpAny_bind (wpAny_standAt ?_)
  unfold unpack
  rw [hn, hstar]
  exact wpAny_bind (wpAny_holding (unpackItems_str hh ha h))
end
section
variable {X : Cx} {pos : Pos}
/-- (a, b, ..) = a tuple or a list of that length -/
def gSeq (K : PySem.W.Frag) (n : Nat) (t : TGs) : TG := fun v σ H Q => (∃ a xs, v = .ref a ∧ (SqT K H a xs ∨ SqL K H a xs) ∧ xs.length = n ∧ t xs σ H Q) ∨ ∃ x : Str, v = .str x ∧ x.cps.all (· < 128) = true ∧ x.cps.size = n ∧ t (chs x) σ H Q
theorem pg_seq {es : List Expr} {k : Nat} {t : TGs} {n : Nat} (hc : X.calm = true) (h : PGs X es t)
    (hn : (assignEach es X.env).length = n := by rfl) (hst : (assignEach es X.env).findIdx? (·.1) = none := by rfl) : PG X (.Tuple es k pos) (gSeq X.K n t) := by
  intro pins s σ H v u Q I r hw
  rcases hw with ⟨a, xs, e1, hq, hl, hw⟩ | ⟨x, e1, ha, hl, hw⟩
  case inr =>
    subst e1
    obtain ⟨tk, rfl⟩ := (show ∃ t, u = Value.str x t from r)
    refine assign_Tuple_str (I.ok.hd hc) ha (by rw [hn, hl]) hst fun h' tk us hx hv => ?_
    have I1 : Inv X pins σ H { s with heap := h', toks := tk } := I.kept (t' := tk) fun b o e => hx b o (Nat.ne_of_lt (Heap.lt_size e)) e
    exact h pins _ σ H (chs x) _ Q I1 hv hw
  subst e1
  cases r
  rcases hq with hq | hq
  · obtain ⟨its, rv, ht, hz⟩ := I.tuple hq
    refine assign_Tuple_tuple (I.ok.hd hc) ht (by simp [hn, ← hl, rv.length]) hst fun h' hx => ?_
    have I1 : Inv X pins σ H { s with heap := h' } := I.kept (t' := s.toks) fun b o e => hx b o (Nat.ne_of_lt (Heap.lt_size e)) e
    exact h pins _ σ H xs _ Q I1 (by simpa using rv) hw
  · obtain ⟨its, rv, ht, hz⟩ := I.list hq
    refine assign_Tuple_list (I.ok.hd hc) ht.isList (by simp [hn, ← hl, rv.length]) hst fun h' hx => ?_
    have I1 : Inv X pins σ H { s with heap := h' } := I.kept (t' := s.toks) fun b o e => hx b o (Nat.ne_of_lt (Heap.lt_size e)) e
    exact h pins _ σ H xs _ Q I1 (by simpa using rv) hw
end

/-! ### targets -/
def PGd (X : Cx) (tg : Expr) (g : D → DSt → M DSt) : Prop :=
  ∃ t : TG, PG X tg t ∧ ∀ (H0 : Hp) (B : Addr → Prop) (Hf : Hp) (sd : DSt) (σ : L2.St) (H : Hp) (v : V) (d : D) (sd' : DSt) (Q : L2.St → Hp → Prop), SR X.K H0 B Hf sd σ H → Rep X.K Hf d v → g d sd = .ok sd' →
    (∀ σ', SR X.K H0 B Hf sd' σ' H → Q σ' H) → t v σ H Q
def PGsd (X : Cx) (ts : List Expr) (g : List D → DSt → M DSt) : Prop :=
  ∃ t : TGs, PGs X ts t ∧ ∀ (H0 : Hp) (B : Addr → Prop) (Hf : Hp) (sd : DSt) (σ : L2.St) (H : Hp) (vs : List V) (ds : List D) (sd' : DSt) (Q : L2.St → Hp → Prop), SR X.K H0 B Hf sd σ H → Reps X.K Hf ds vs → g ds sd = .ok sd' →
    (∀ σ', SR X.K H0 B Hf sd' σ' H → Q σ' H) → t vs σ H Q
section
variable {X : Cx} {E : XK} {pos : Pos} {a b : Expr}
def gNm (i : Nat) (d : D) (sd : DSt) : M DSt := .ok (sd.set i (some (.im d)))
theorem pgd_name (i : Nat) {x : Str} (hN : X.N.Nodup) (hi : X.N[i]? = some x := by rfl) (hx : Loc X.env.scope x := by first | exact Or.inl rfl | exact Or.inr rfl) (hf : X.fn x = true ∨ X.env.scope.names.lookup x = some .local := by first | exact .inl rfl | exact .inr rfl | assumption) :
    PGd X (.Name x pos) (gNm i) := by
  refine ⟨_, pg_name hN hi hx hf, fun H0 B Hf sd σ H v d sd' Q sr r e h => ?_⟩
  cases e
  exact h _ (sr.set_im i r)
def gsNil : List D → DSt → M DSt
  | [], sd => .ok sd
  | _, _ => .bad
def gsCons (g : D → DSt → M DSt) (gs : List D → DSt → M DSt) : List D → DSt → M DSt
  | d :: ds, sd => (g d sd).bind fun sd' => gs ds sd'
  | _, _ => .bad
theorem pgsd_nil : PGsd X [] gsNil := by
  refine ⟨_, pgs_nil, fun H0 B Hf sd σ H vs ds sd' Q sr r e h => ?_⟩
  cases ds with
  | nil => cases e; exact ⟨reps_nil.mp r, h σ sr⟩
  | cons d ds => cases e
theorem pgsd_cons {es : List Expr} {g : D → DSt → M DSt} {gs : List D → DSt → M DSt} (h1 : PGd X a g) (h2 : PGsd X es gs) (hs : (assignEach (a :: es) X.env).map (·.2) = assign a X.env :: (assignEach es X.env).map (·.2) := by rfl) : PGsd X (a :: es) (gsCons g gs) := by
  obtain ⟨t, p, q⟩ := h1
  obtain ⟨t2, p2, q2⟩ := h2
  refine ⟨_, pgs_cons p p2 hs, fun H0 B Hf sd σ H vs ds sd' Q sr r e h => ?_⟩
  cases ds with
  | nil => cases e
  | cons d ds =>
    obtain ⟨v, vr, rfl, rv, rr⟩ := reps_cons.mp r
    cases e1 : g d sd with
    | ok sd1 =>
      have e' : gs ds sd1 = .ok sd' := by
        have e : (g d sd).bind (fun sd' => gs ds sd') = .ok sd' := e
        rw [e1] at e
        exact e
      exact ⟨v, vr, rfl, q H0 B Hf sd σ H v d sd1 _ sr rv e1 fun σ1 sr1 => q2 H0 B Hf sd1 σ1 H vr ds sd' Q sr1 rr e' h⟩
    | ex x => have e : (g d sd).bind (fun sd' => gs ds sd') = .ok sd' := e; rw [e1] at e; cases e
    | bad => have e : (g d sd).bind (fun sd' => gs ds sd') = .ok sd' := e; rw [e1] at e; cases e
def gTupD (n : Nat) (gs : List D → DSt → M DSt) : D → DSt → M DSt
  | .tup ds, sd => if ds.length = n then gs ds sd else .bad
  | .lst ds, sd => if ds.length = n then gs ds sd else .bad
  | .str x, sd => if x.cps.size = n ∧ x.cps.all (· < 128) = true then gs (x.cps.toList.map fun c => .str ⟨#[c]⟩) sd else .bad
  | _, _ => .bad
theorem reps_chs {K : PySem.W.Frag} {H : Hp} : ∀ l : List Nat, Reps K H (l.map fun c => D.str ⟨#[c]⟩) (l.map fun c => V.str ⟨#[c]⟩)
  | [] => Reps.nil
  | _ :: l => Reps.cons (rep_str.mpr rfl) (reps_chs l)
theorem pgd_tup {es : List Expr} {k : Nat} {gs : List D → DSt → M DSt} {n : Nat} (hc : X.calm = true) (h : PGsd X es gs)
    (hn : (assignEach es X.env).length = n := by rfl) (hst : (assignEach es X.env).findIdx? (·.1) = none := by rfl) : PGd X (.Tuple es k pos) (gTupD n gs) := by
  obtain ⟨t, p, q⟩ := h
  refine ⟨_, pg_seq hc p hn hst, fun H0 B Hf sd σ H v d sd' Q sr r e h => ?_⟩
  unfold gTupD at e
  split at e
  · rename_i ds
    split at e
    · rename_i hl
      obtain ⟨a, xs, rfl, ha, hr⟩ := rep_tupQ r
      exact .inl ⟨a, xs, rfl, .inl (Same.seqT sr.sub ha), by rw [← hr.length]; exact hl, q H0 B Hf sd σ H xs ds sd' Q sr hr e h⟩
    · cases e
  · rename_i ds
    split at e
    · rename_i hl
      obtain ⟨a, xs, rfl, ha, hr⟩ := rep_lst.mp r
      exact .inl ⟨a, xs, rfl, .inr (sr.sub.seq ha), by rw [← hr.length]; exact hl, q H0 B Hf sd σ H xs ds sd' Q sr hr e h⟩
    · cases e
  · rename_i x
    split at e
    · rename_i hl
      exact .inr ⟨x, rep_str.mp r, hl.2, hl.1, q H0 B Hf sd σ H (chs x) _ sd' Q sr (reps_chs x.cps.toList) e h⟩
    · cases e
  · cases e
def sAsg (f : DSt → M D) (g : D → DSt → M DSt) (sd : DSt) : M O := (f sd).bind fun d => match g d sd with
  | .ok sd' => .ok (.nx sd')
  | _ => .bad
theorem psd_asg {e tg : Expr} {f : DSt → M D} {g : D → DSt → M DSt} (h : PEd X E e f) (hg : PGd X tg g) (hs : swapsWithSole [tg] e pos.line X.env = pure false := by rfl) (hw : swappedStores [tg] e X.env = pure none := by rfl)
    (h1 : (assignEach [tg] X.env).map (·.2) = [assign tg X.env] := by rfl) : PSd X E (.Assign [tg] e pos) (sAsg f g) := by
  obtain ⟨t, p, q⟩ := h
  obtain ⟨tg', pg, qg⟩ := hg
  refine ⟨_, ps_asg p pg hs hw h1, fun H0 B Hf sd σ H D sr h => ?_⟩
  refine q H0 B Hf sd σ H _ sr (PoS.bind sr h fun d v Hf1 H1 _ g1 sr1 rv h1 => ?_)
  split at h1
  · rename_i sd' e1
    exact qg H0 B Hf1 sd σ H1 v d sd' _ sr1 rv e1 fun σ' sr' => h1 σ' Hf1 H1 (Same.refl _) sr'
  · exact h1.elim
/-- a, b = x, y with plain local names -/
def sPar (i j : Nat) (fs : DSt → M (List D)) (sd : DSt) : M O := (fs sd).bind fun ds => match ds with
  | [d, e] => .ok (.nx ((sd.set i (some (.im d))).set j (some (.im e))))
  | _ => .bad
theorem psd_par (i j : Nat) {x y : Str} {fs : DSt → M (List D)} {px py pt : Pos} {kt k2 pt2} (hc : X.calm = true) (hN : X.N.Nodup) (ha : PAd X E [a, b] fs)
    (hw : swappedStores [.Tuple [.Name x px, .Name y py] kt pt] (.Tuple [a, b] k2 pt2) X.env = pure (some [x, y])) (hi : X.N[i]? = some x := by rfl) (hj : X.N[j]? = some y := by rfl) (hij : i ≠ j := by decide)
    (hx : X.env.scope.names.lookup x = some .local := by rfl) (hy : X.env.scope.names.lookup y = some .local := by rfl)
    (hs : swapsWithSole [.Tuple [.Name x px, .Name y py] kt pt] (.Tuple [a, b] k2 pt2) pos.line X.env = pure false := by rfl) :
    PSd X E (.Assign [.Tuple [.Name x px, .Name y py] kt pt] (.Tuple [a, b] k2 pt2) pos) (sPar i j fs) := by
  obtain ⟨t, p, q⟩ := ha
  refine ⟨_, ps_par hc hN hi hj hij hx hy p hw hs, fun H0 B Hf sd σ H D sr h => ?_⟩
  refine q H0 B Hf sd σ H _ sr (PoS.bind sr h fun ds vs Hf1 H1 _ g1 sr1 rs h1 => ?_)
  split at h1
  · rename_i d e
    obtain ⟨v, w, rfl, rv, rw'⟩ := reps2 rs
    exact ⟨v, w, rfl, h1 _ Hf1 H1 (Same.refl _) ((sr1.set_im i rv).set_im j rw')⟩
  · exact h1.elim

/-! ### defs -/
def S.toD : S → M D
  | .im d => .ok d
  | .ow ds => .ok (.lst ds)
  | .od _ => .bad
  | .dk _ => .bad
  | .xc _ => .bad
/-- a def that raises nothing, by a function of its arguments -/
def spN (K : PySem.W.Frag) (F : List D → M S) : Sp := fun vs H Q _ => ∃ Hf ds s, Same Hf H ∧ Reps K Hf ds vs ∧ F ds = .ok s ∧ ∀ v Hf' H', Gr Hf H Hf' H' → RS K H Hf' H' s v → Q v H'
def fin' (r : M O) : M S := r.bind fun o => match o with
  | .rt s => .ok s
  | .nx _ => .ok (.im .non)
  | _ => .bad
def fnD (n m : Nat) (f : DSt → M O) (ds : List D) : M S := if ds.length = n then fin' (f (ds.map (fun d => some (S.im d)) ++ List.replicate m none)) else .bad
theorem sr_start {K : PySem.W.Frag} {N : List Str} {Hf H : Hp} {ds : List D} {vs : List V} {m : Nat} (e : Same Hf H) (r : Reps K Hf ds vs) (hN : N.length = ds.length + m) :
    SR K H (fun a => H a ≠ none ∧ Hf a = none) Hf (ds.map (fun d => some (S.im d)) ++ List.replicate m none) (L2.start N vs) H where
  sub := e
  all := Same.refl _
  ban := fun _ h => h.2
  bt := fun _ h => h.1
  len := by
    unfold L2.start
    have := r.length
    simp only [List.length_append, List.length_map, List.length_replicate]
    omega
  imS := fun i d hi hz => by
    unfold L2.start
    by_cases hl : i < ds.length
    · rw [List.getElem?_append_left (by simpa using hl), List.getElem?_map] at hi
      cases q : ds[i]? with
      | none => rw [q] at hi; cases hi
      | some d' =>
        rw [q] at hi
        cases hi
        obtain ⟨v, e1, e2⟩ := r.get q
        refine ⟨v, ?_, e2⟩
        have : i < vs.length := (List.getElem?_eq_some_iff.mp e1).1
        rw [List.getElem?_append_left (by simpa using this), List.getElem?_map, e1]
        rfl
    · rw [List.getElem?_append_right (by simpa using hl), List.getElem?_replicate] at hi
      split at hi <;> cases hi
  ow := fun i t hi ho => by
    by_cases hl : i < ds.length
    · rw [List.getElem?_append_left (by simpa using hl), List.getElem?_map] at hi
      cases q : ds[i]? with
      | none => rw [q] at hi; cases hi
      | some d' => rw [q] at hi; cases hi; cases ho
    · rw [List.getElem?_append_right (by simpa using hl), List.getElem?_replicate] at hi
      split at hi <;> cases hi
  sep := fun i j t _ p _ hi ho _ _ _ _ => by
    by_cases hl : i < ds.length
    · rw [List.getElem?_append_left (by simpa using hl), List.getElem?_map] at hi
      cases q : ds[i]? with
      | none => rw [q] at hi; cases hi
      | some d' => rw [q] at hi; cases hi; cases ho
    · rw [List.getElem?_append_right (by simpa using hl), List.getElem?_replicate] at hi
      split at hi <;> cases hi
theorem fn_d {P : Program} {w : World} {K : PySem.W.Frag} {mg : Str → Option Value} {base : Heap} {x qual : Str} {st : Stmt} {f : Addr} {fd : FuncData} {N ps : List Str} {k m n : Nat} {fb : DSt → M O} (F : Fun K x qual st f fd) (sc : FnScope N ps (defScope st))
    (hn : ps.length = n) (hN : N.length = n + m)
    (hbody : ∀ (cdv : Value) (A : Around) (outer : List Env) (s : Shared) (H : Hp) (E : XK), Room k (A.deeper (envOfC qual (defScope st) s.heap.objs.size f cdv)) →
      PSsd (cxOf CX0 P w K mg base N qual (defScope st) f cdv A outer s H E).nox E0 (defBody st) fb) : FnOk P w K mg base CX0 (k + 1) f fd ps (spN K (fnD n m fb)) := by
  refine F.ok sc (fun vs H Q E h => ?_) (fun cdv A outer s H vs Q E hr h => ?_)
  · obtain ⟨Hf, ds, s, e, r, hF, _⟩ := h
    unfold fnD at hF
    split at hF
    · rename_i hl
      rw [← r.length, hl, hn]
    · cases hF
  · obtain ⟨Hf, ds, s', e, r, hF, q⟩ := h
    obtain ⟨t, p, qt⟩ := hbody cdv A outer s H E hr
    unfold fnD at hF
    split at hF
    · rename_i hl
      refine ⟨t, p, qt H _ Hf _ (L2.start N vs) H _ (sr_start (N := N) (m := m) e r (by omega)) ?_⟩
      generalize fb (List.map (fun d => some (S.im d)) ds ++ List.replicate m none) = ro at hF
      have back : ∀ {v : V} {Hf' H' : Hp} {s : DL.S}, Same Hf Hf' → Fin' H (fun a => H a ≠ none ∧ Hf a = none) Hf' H' → RS K H Hf' H' s v → s = s' → Q v H' := fun {v Hf' H' s} e1 e2 e3 e4 => by
        subst e4
        exact q v Hf' H' ⟨e1, e2.sub, e2.all, fun a h1 h2 => e2.ban a ⟨h1, h2⟩⟩ e3
      cases ro with
      | ok o =>
        cases o with
        | rt s2 =>
          have e' : s2 = s' := by cases hF; rfl
          exact fun v Hf' H' e1 e2 e3 => back e1 e2 e3 e'
        | nx sd' =>
          have e' : DL.S.im .non = s' := by cases hF; rfl
          exact fun σ' Hf' H' e1 sr' => back (v := .non) (s := DL.S.im .non) e1 sr'.fin (show Rep K Hf' .non .non from rep_non.mpr rfl) e'
        | bk sd' => cases hF
        | ct sd' => cases hF
      | ex x => cases hF
      | bad => cases hF
    · cases hF
def eCall (F : List D → M S) (fs : DSt → M (List D)) (sd : DSt) : M D := (fs sd).bind fun ds => match F ds with
  | .ok s => s.toD
  | _ => .bad
theorem pd_call {k : Nat} {f : Addr} {fd : FuncData} {ps : List Str} {F : List D → M S} {x : Str} {p : Pos} {es : List Expr} {fs : DSt → M (List D)} (G : FnOk X.prog X.w X.K X.mg X.base CX0 k f fd ps (spN X.K F)) (hr : Room k X.A) (hm : X.mg x = some (.ref f)) (hk : PySem.W.keepIn X.K (.ref f) = true) (hb : Binds X.K fd ps [])
    (ha : PAd X E (a :: es) fs) (hg : Gl X x := by rfl) (hdb : (x == ("__debug__" : Str)) = false := by decide) (he : starEach (a :: es) X.env = (false, eval a X.env) :: starEach es X.env := by rfl) (hpl : (backTo pos (starEach es X.env)).any (·.1) = false := by rfl) :
    PEd X E (.Call (.Name x p) (a :: es) [] pos) (eCall F fs) := by
  obtain ⟨t, pt, qt⟩ := ha
  refine ⟨_, pe_call (dvs := []) (E := E0) G hr hg hm hk hb .nil pass0 pt hdb he hpl, fun H0 B Hf sd σ H Q sr h => ?_⟩
  refine qt H0 B Hf sd σ H _ sr (Po.bind h fun ds vs Hf1 H1 _ g1 rs h1 => ?_)
  split at h1
  · rename_i s e
    refine ⟨Hf1, ds, s, g1.sub, by rw [List.append_nil]; exact rs, e, fun v Hf' H' g2 rv => ?_⟩
    cases s with
    | im d => exact h1 v Hf' H' g2 rv
    | ow es =>
      obtain ⟨p, rfl, e1, e2, xs, e3, e4⟩ := rv
      refine h1 _ (upd Hf' p (.lst xs)) H' ⟨g2.fz.trans (same_upd e2 _), fun b u q => ?_, g2.all, fun a h1 h2 => ?_⟩ (rep_lst.mpr ⟨p, xs, rfl, SqL.of upd_same, e4.mono (same_upd e2 _)⟩)
      · by_cases hb : b = p
        · subst hb; rw [upd_same] at q; rw [e3]; exact q
        · rw [upd_ne hb] at q; exact g2.sub b u q
      · have : a ≠ p := fun z => h1 (z ▸ e1)
        rw [upd_ne this]; exact g2.ban a h1 h2
    | od kvs => exact h1.elim
    | dk kvs => exact h1.elim
    | xc x => exact h1.elim
  · exact h1.elim
end
end DL

set_option maxHeartbeats 4000000

namespace DL
open PySem PySem.Spec PyProof.Rows L2

/-! ### data that is alike -/
mutual
def D.eq : D → D → Bool
  | .non, .non => true
  | .bl a, .bl b => a == b
  | .bl a, .int b => (if a then 1 else 0) == b
  | .int a, .bl b => a == (if b then 1 else 0)
  | .int a, .int b => a == b
  | .str a, .str b => a == b
  | .tup xs, .tup ys => D.eqs xs ys
  | .lst xs, .lst ys => D.eqs xs ys
  | _, _ => false
def D.eqs : List D → List D → Bool
  | [], [] => true
  | x :: xs, y :: ys => D.eq x y && D.eqs xs ys
  | _, _ => false
end
mutual
def D.dep : D → Nat
  | .tup ds => D.deps ds + 1
  | .lst ds => D.deps ds + 1
  | _ => 0
def D.deps : List D → Nat
  | [] => 0
  | d :: ds => max (D.dep d) (D.deps ds)
end
mutual
theorem D.eq_refl : ∀ d : D, D.eq d d = true
  | .non => by rw [D.eq]
  | .bl b => by rw [D.eq]; simp
  | .int i => by rw [D.eq]; simp
  | .str x => by rw [D.eq]; simp
  | .tup ds => by rw [D.eq]; exact D.eqs_refl ds
  | .lst ds => by rw [D.eq]; exact D.eqs_refl ds
theorem D.eqs_refl : ∀ ds : List D, D.eqs ds ds = true
  | [] => by rw [D.eqs]
  | d :: ds => by rw [D.eqs, D.eq_refl d, D.eqs_refl ds]; rfl
end
theorem D.eqs_all : ∀ ds es : List D, D.eqs ds es = ((List.range (min ds.length es.length)).all (fun j => D.eq (ds.getD j .non) (es.getD j .non)) && ds.length == es.length)
  | [], [] => by rw [D.eqs]; rfl
  | [], _ :: _ => by rw [D.eqs]; simp; all_goals (intros; simp_all)
  | _ :: _, [] => by rw [D.eqs]; simp; all_goals (intros; simp_all)
  | d :: ds, e :: es => by
    have h : min (d :: ds).length (e :: es).length = min ds.length es.length + 1 := by simp only [List.length_cons]; omega
    rw [D.eqs, D.eqs_all ds es, h, List.range_succ_eq_map, List.all_cons, List.all_map, Bool.and_assoc]
    congr 1
    simp only [List.length_cons]
    congr 1
    by_cases q : ds.length = es.length
    · simp [q]
    · have q' : ¬ ds.length + 1 = es.length + 1 := by omega
      simp [q]

section
variable {X : Cx} {pins : List (Addr × Obj)} {σ : L2.St} {H : Hp} {s : Shared}
theorem seq_tl (I : Inv X pins σ H s) {a : Addr} {xs ys : List V} (h1 : SqT X.K H a xs) (h2 : SqL X.K H a ys) : False := by
  obtain ⟨its, _, ⟨o, e, c, _⟩, _⟩ := I.tuple h1
  obtain ⟨its2, _, p, _⟩ := I.list h2
  obtain ⟨o2, e2, c2, _⟩ := p.isList
  rw [e] at e2
  cases e2
  rw [c] at c2
  exact absurd c2 (by decide)
mutual
theorem rep_inj (I : Inv X pins σ H s) : ∀ (d d' : D) (v : V), Rep X.K H d v → Rep X.K H d' v → d = d'
  | .non, d', v, h1, h2 => by
    rw [rep_non] at h1; subst h1
    cases d' with
    | non => rfl
    | bl b => rw [rep_bl] at h2; cases h2
    | int b => rw [rep_int] at h2; cases h2
    | str b => rw [rep_str] at h2; cases h2
    | tup b => rw [rep_tup] at h2; obtain ⟨_, _, e, _⟩ := h2; cases e
    | lst b => rw [rep_lst] at h2; obtain ⟨_, _, e, _⟩ := h2; cases e
  | .bl a, d', v, h1, h2 => by
    rw [rep_bl] at h1; subst h1
    cases d' with
    | non => rw [rep_non] at h2; cases h2
    | bl b => rw [rep_bl] at h2; cases h2; rfl
    | int b => rw [rep_int] at h2; cases h2
    | str b => rw [rep_str] at h2; cases h2
    | tup b => rw [rep_tup] at h2; obtain ⟨_, _, e, _⟩ := h2; cases e
    | lst b => rw [rep_lst] at h2; obtain ⟨_, _, e, _⟩ := h2; cases e
  | .int a, d', v, h1, h2 => by
    rw [rep_int] at h1; subst h1
    cases d' with
    | non => rw [rep_non] at h2; cases h2
    | bl b => rw [rep_bl] at h2; cases h2
    | int b => rw [rep_int] at h2; cases h2; rfl
    | str b => rw [rep_str] at h2; cases h2
    | tup b => rw [rep_tup] at h2; obtain ⟨_, _, e, _⟩ := h2; cases e
    | lst b => rw [rep_lst] at h2; obtain ⟨_, _, e, _⟩ := h2; cases e
  | .str a, d', v, h1, h2 => by
    rw [rep_str] at h1; subst h1
    cases d' with
    | non => rw [rep_non] at h2; cases h2
    | bl b => rw [rep_bl] at h2; cases h2
    | int b => rw [rep_int] at h2; cases h2
    | str b => rw [rep_str] at h2; cases h2; rfl
    | tup b => rw [rep_tup] at h2; obtain ⟨_, _, e, _⟩ := h2; cases e
    | lst b => rw [rep_lst] at h2; obtain ⟨_, _, e, _⟩ := h2; cases e
  | .tup ds, d', v, h1, h2 => by
    obtain ⟨a, xs, rfl, ha, hr⟩ := rep_tupQ h1
    cases d' with
    | non => rw [rep_non] at h2; cases h2
    | bl b => rw [rep_bl] at h2; cases h2
    | int b => rw [rep_int] at h2; cases h2
    | str b => rw [rep_str] at h2; cases h2
    | tup es =>
      obtain ⟨b, ys, e, hb, hr2⟩ := rep_tupQ h2
      cases e
      have := I.tuple_inj ha hb
      subst this
      rw [reps_inj I ds es xs hr hr2]
    | lst es =>
      obtain ⟨b, ys, e, hb, hr2⟩ := rep_lst.mp h2
      cases e
      exact (seq_tl I ha hb).elim
  | .lst ds, d', v, h1, h2 => by
    obtain ⟨a, xs, rfl, ha, hr⟩ := rep_lst.mp h1
    cases d' with
    | non => rw [rep_non] at h2; cases h2
    | bl b => rw [rep_bl] at h2; cases h2
    | int b => rw [rep_int] at h2; cases h2
    | str b => rw [rep_str] at h2; cases h2
    | tup es =>
      obtain ⟨b, ys, e, hb, hr2⟩ := rep_tupQ h2
      cases e
      exact (seq_tl I hb ha).elim
    | lst es =>
      obtain ⟨b, ys, e, hb, hr2⟩ := rep_lst.mp h2
      cases e
      have := I.list_inj ha hb
      subst this
      rw [reps_inj I ds es xs hr hr2]
theorem reps_inj (I : Inv X pins σ H s) : ∀ (ds es : List D) (vs : List V), Reps X.K H ds vs → Reps X.K H es vs → ds = es
  | [], [], _, _, _ => rfl
  | [], e :: es, vs, h1, h2 => by
    rw [reps_nil] at h1; subst h1
    obtain ⟨_, _, z, _⟩ := reps_cons.mp h2
    cases z
  | d :: ds, [], vs, h1, h2 => by
    rw [reps_nil] at h2; subst h2
    obtain ⟨_, _, z, _⟩ := reps_cons.mp h1
    cases z
  | d :: ds, e :: es, vs, h1, h2 => by
    obtain ⟨v, r, rfl, a1, a2⟩ := reps_cons.mp h1
    obtain ⟨v', r', z, b1, b2⟩ := reps_cons.mp h2
    cases z
    rw [rep_inj I d e v a1 b1, reps_inj I ds es r a2 b2]
end

theorem EqAt.of_eq {A : Around} {u v : Value} {b c : Bool} (h : SeqAt.EqAt A s u v b) (e : b = c) : SeqAt.EqAt A s u v c := e ▸ h
structure Cm (A : Around) (s : Shared) (u v : Value) (b : Bool) : Prop where
  rc : SeqAt.RcAt A s u v b
  ne : SeqAt.RcNeAt A s u v (!b)
  eq : SeqAt.EqAt A s u v b

mutual
theorem cmp_at (I : Inv X pins σ H s) : ∀ (x y : D) (A : Around) (v w : V) (u1 u2 : Value), A.units + x.dep < cLine → Rep X.K H x v → Rep X.K H y w → RelV v u1 → RelV w u2 → Cm A s u1 u2 (D.eq x y)
  | .non, y, A, v, w, u1, u2, hu, rx, ry, r1, r2 => by
    rw [rep_non] at rx; subst rx
    have r1 : u1 = Value.none := r1
    subst r1
    have hu' : A.units < cLine := by omega
    cases y with
    | non => rw [rep_non] at ry; subst ry; cases (show u2 = Value.none from r2); rw [D.eq]; exact ⟨.none_none, .none_none, .same _⟩
    | bl b => rw [rep_bl] at ry; subst ry; cases (show u2 = Value.bool b from r2); rw [D.eq]; exact ⟨.none_bool b, .none_bool b, .none_bool b⟩; all_goals (intros; simp_all)
    | int b => rw [rep_int] at ry; subst ry; obtain ⟨t, q⟩ := (show ∃ t, u2 = Value.int b t from r2); subst q; rw [D.eq]; exact ⟨.none_int b t, .none_int b t, .none_int b t⟩; all_goals (intros; simp_all)
    | str b => rw [rep_str] at ry; subst ry; obtain ⟨t, q⟩ := (show ∃ t, u2 = Value.str b t from r2); subst q; rw [D.eq]; exact ⟨.none_str b t, .none_str b t, .none_str b t⟩; all_goals (intros; simp_all)
    | tup es =>
      obtain ⟨p, xs, rfl, hp, hr⟩ := rep_tupQ ry
      cases (show u2 = Value.ref p from r2)
      obtain ⟨its, _, ht, _⟩ := I.tuple hp
      rw [D.eq]
      exact ⟨.none_tuple ht hu', .none_tuple ht hu', .none_tuple ht hu'⟩
      all_goals (intros; simp_all)
    | lst es =>
      obtain ⟨p, xs, rfl, hp, hr⟩ := rep_lst.mp ry
      cases (show u2 = Value.ref p from r2)
      obtain ⟨its, _, ht, _⟩ := I.list hp
      rw [D.eq]
      exact ⟨.none_list ht.isList hu', .none_list ht.isList hu', .none_list ht.isList hu'⟩
      all_goals (intros; simp_all)
  | .bl a, y, A, v, w, u1, u2, hu, rx, ry, r1, r2 => by
    rw [rep_bl] at rx; subst rx
    have r1 : u1 = Value.bool a := r1
    subst r1
    have hu' : A.units < cLine := by omega
    cases y with
    | non => rw [rep_non] at ry; subst ry; cases (show u2 = Value.none from r2); rw [D.eq]; exact ⟨.bool_none a, .bool_none a, .bool_none a⟩; all_goals (intros; simp_all)
    | bl b => rw [rep_bl] at ry; subst ry; cases (show u2 = Value.bool b from r2); rw [D.eq]; exact ⟨.bool_bool a b, .bool_bool a b, .bool_bool a b⟩
    | int b => rw [rep_int] at ry; subst ry; obtain ⟨t, q⟩ := (show ∃ t, u2 = Value.int b t from r2); subst q; rw [D.eq]; exact ⟨.bool_int a b t, .bool_int a b t, .bool_int a b t⟩
    | str b => rw [rep_str] at ry; subst ry; obtain ⟨t, q⟩ := (show ∃ t, u2 = Value.str b t from r2); subst q; rw [D.eq]; exact ⟨.bool_str a b t, .bool_str a b t, .bool_str a b t⟩; all_goals (intros; simp_all)
    | tup es =>
      obtain ⟨p, xs, rfl, hp, hr⟩ := rep_tupQ ry
      cases (show u2 = Value.ref p from r2)
      obtain ⟨its, _, ht, _⟩ := I.tuple hp
      rw [D.eq]
      exact ⟨.bool_tuple a ht hu', .bool_tuple a ht hu', .bool_tuple a ht hu'⟩
      all_goals (intros; simp_all)
    | lst es =>
      obtain ⟨p, xs, rfl, hp, hr⟩ := rep_lst.mp ry
      cases (show u2 = Value.ref p from r2)
      obtain ⟨its, _, ht, _⟩ := I.list hp
      rw [D.eq]
      exact ⟨.bool_list a ht.isList hu', .bool_list a ht.isList hu', .bool_list a ht.isList hu'⟩
      all_goals (intros; simp_all)
  | .int a, y, A, v, w, u1, u2, hu, rx, ry, r1, r2 => by
    rw [rep_int] at rx; subst rx
    obtain ⟨t1, q1⟩ := (show ∃ t, u1 = Value.int a t from r1)
    subst q1
    have hu' : A.units < cLine := by omega
    cases y with
    | non => rw [rep_non] at ry; subst ry; cases (show u2 = Value.none from r2); rw [D.eq]; exact ⟨.int_none a t1, .int_none a t1, .int_none a t1⟩; all_goals (intros; simp_all)
    | bl b => rw [rep_bl] at ry; subst ry; cases (show u2 = Value.bool b from r2); rw [D.eq]; exact ⟨.int_bool a t1 b, .int_bool a t1 b, .int_bool a t1 b⟩
    | int b => rw [rep_int] at ry; subst ry; obtain ⟨t, q⟩ := (show ∃ t, u2 = Value.int b t from r2); subst q; rw [D.eq]; exact ⟨.int_int a t1 b t, .int_int a t1 b t, .int_int a t1 b t⟩
    | str b => rw [rep_str] at ry; subst ry; obtain ⟨t, q⟩ := (show ∃ t, u2 = Value.str b t from r2); subst q; rw [D.eq]; exact ⟨.int_str a t1 b t, .int_str a t1 b t, .int_str a t1 b t⟩; all_goals (intros; simp_all)
    | tup es =>
      obtain ⟨p, xs, rfl, hp, hr⟩ := rep_tupQ ry
      cases (show u2 = Value.ref p from r2)
      obtain ⟨its, _, ht, _⟩ := I.tuple hp
      rw [D.eq]
      exact ⟨.int_tuple a t1 ht hu', .int_tuple a t1 ht hu', .int_tuple a t1 ht hu'⟩
      all_goals (intros; simp_all)
    | lst es =>
      obtain ⟨p, xs, rfl, hp, hr⟩ := rep_lst.mp ry
      cases (show u2 = Value.ref p from r2)
      obtain ⟨its, _, ht, _⟩ := I.list hp
      rw [D.eq]
      exact ⟨.int_list a t1 ht.isList hu', .int_list a t1 ht.isList hu', .int_list a t1 ht.isList hu'⟩
      all_goals (intros; simp_all)
  | .str a, y, A, v, w, u1, u2, hu, rx, ry, r1, r2 => by
    rw [rep_str] at rx; subst rx
    obtain ⟨t1, q1⟩ := (show ∃ t, u1 = Value.str a t from r1)
    subst q1
    have hu' : A.units < cLine := by omega
    cases y with
    | non => rw [rep_non] at ry; subst ry; cases (show u2 = Value.none from r2); rw [D.eq]; exact ⟨.str_none a t1, .str_none a t1, .str_none a t1⟩; all_goals (intros; simp_all)
    | bl b => rw [rep_bl] at ry; subst ry; cases (show u2 = Value.bool b from r2); rw [D.eq]; exact ⟨.str_bool a t1 b, .str_bool a t1 b, .str_bool a t1 b⟩; all_goals (intros; simp_all)
    | int b => rw [rep_int] at ry; subst ry; obtain ⟨t, q⟩ := (show ∃ t, u2 = Value.int b t from r2); subst q; rw [D.eq]; exact ⟨.str_int a t1 b t, .str_int a t1 b t, .str_int a t1 b t⟩; all_goals (intros; simp_all)
    | str b => rw [rep_str] at ry; subst ry; obtain ⟨t, q⟩ := (show ∃ t, u2 = Value.str b t from r2); subst q; rw [D.eq]; exact ⟨.str_str a t1 b t, .str_str a t1 b t, .str_str a t1 b t⟩
    | tup es =>
      obtain ⟨p, xs, rfl, hp, hr⟩ := rep_tupQ ry
      cases (show u2 = Value.ref p from r2)
      obtain ⟨its, _, ht, _⟩ := I.tuple hp
      rw [D.eq]
      exact ⟨.str_tuple a t1 ht hu', .str_tuple a t1 ht hu', .str_tuple a t1 ht hu'⟩
      all_goals (intros; simp_all)
    | lst es =>
      obtain ⟨p, xs, rfl, hp, hr⟩ := rep_lst.mp ry
      cases (show u2 = Value.ref p from r2)
      obtain ⟨its, _, ht, _⟩ := I.list hp
      rw [D.eq]
      exact ⟨.str_list a t1 ht.isList hu', .str_list a t1 ht.isList hu', .str_list a t1 ht.isList hu'⟩
      all_goals (intros; simp_all)
  | .tup ds, y, A, v, w, u1, u2, hu, rx, ry, r1, r2 => by
    rw [D.dep] at hu
    have hu' : A.units < cLine := by omega
    obtain ⟨p1, xs1, rfl, hp1, hr1⟩ := rep_tupQ rx
    cases (show u1 = Value.ref p1 from r1)
    obtain ⟨its1, rv1, ht1, _⟩ := I.tuple hp1
    cases y with
    | non => rw [rep_non] at ry; subst ry; cases (show u2 = Value.none from r2); rw [D.eq]; exact ⟨.tuple_none ht1 hu', .tuple_none ht1 hu', .tuple_none ht1 hu'⟩; all_goals (intros; simp_all)
    | bl b => rw [rep_bl] at ry; subst ry; cases (show u2 = Value.bool b from r2); rw [D.eq]; exact ⟨.tuple_bool b ht1 hu', .tuple_bool b ht1 hu', .tuple_bool b ht1 hu'⟩; all_goals (intros; simp_all)
    | int b => rw [rep_int] at ry; subst ry; obtain ⟨t, q⟩ := (show ∃ t, u2 = Value.int b t from r2); subst q; rw [D.eq]; exact ⟨.tuple_int b t ht1 hu', .tuple_int b t ht1 hu', .tuple_int b t ht1 hu'⟩; all_goals (intros; simp_all)
    | str b => rw [rep_str] at ry; subst ry; obtain ⟨t, q⟩ := (show ∃ t, u2 = Value.str b t from r2); subst q; rw [D.eq]; exact ⟨.tuple_str b t ht1 hu', .tuple_str b t ht1 hu', .tuple_str b t ht1 hu'⟩; all_goals (intros; simp_all)
    | tup es =>
      obtain ⟨p2, xs2, rfl, hp2, hr2⟩ := rep_tupQ ry
      cases (show u2 = Value.ref p2 from r2)
      obtain ⟨its2, rv2, ht2, _⟩ := I.tuple hp2
      have l1 : its1.toArray.size = ds.length := by rw [List.size_toArray, ← rv1.length, ← hr1.length]
      have l2 : its2.toArray.size = es.length := by rw [List.size_toArray, ← rv2.length, ← hr2.length]
      have items := cmps_at I ds es A.in1 xs1 xs2 its1 its2 (by show A.units + 1 + _ < _; omega) hr1 hr2 rv1 rv2
      have he : ∀ j (h1 : j < its1.toArray.size) (h2 : j < its2.toArray.size), SeqAt.EqAt A.in1 s its1.toArray[j] its2.toArray[j] (D.eq (ds.getD j .non) (es.getD j .non)) := fun j h1 h2 => by
        refine items j _ _ _ _ ?_ ?_ ?_ ?_
        · rw [List.getD_eq_getElem?_getD, List.getElem?_eq_getElem (by omega)]; simp
        · rw [List.getD_eq_getElem?_getD, List.getElem?_eq_getElem (by omega)]; simp
        · simp
        · simp
      have rc := SeqAt.RcAt.tuples ht1 ht2 hu' he
      have ne := SeqAt.RcNeAt.tuples ht1 ht2 hu' he
      rw [l1, l2, ← D.eqs_all] at rc ne
      rw [D.eq]
      refine ⟨rc, ne, ?_⟩
      by_cases hpp : p1 = p2
      · subst hpp
        have := rep_inj I _ _ _ rx ry
        cases this
        rw [D.eqs_refl]
        exact .same _
      · exact .of_refs hpp rc
    | lst es =>
      obtain ⟨p2, xs2, rfl, hp2, hr2⟩ := rep_lst.mp ry
      cases (show u2 = Value.ref p2 from r2)
      obtain ⟨its2, rv2, ht2, _⟩ := I.list hp2
      rw [D.eq]
      exact ⟨.tuple_list ht1 ht2.isList hu', .tuple_list ht1 ht2.isList hu', .tuple_list ht1 ht2.isList hu'⟩
      all_goals (intros; simp_all)
  | .lst ds, y, A, v, w, u1, u2, hu, rx, ry, r1, r2 => by
    rw [D.dep] at hu
    have hu' : A.units < cLine := by omega
    obtain ⟨p1, xs1, rfl, hp1, hr1⟩ := rep_lst.mp rx
    cases (show u1 = Value.ref p1 from r1)
    obtain ⟨its1, rv1, pl1, _⟩ := I.list hp1
    have ht1 := pl1.isList
    cases y with
    | non => rw [rep_non] at ry; subst ry; cases (show u2 = Value.none from r2); rw [D.eq]; exact ⟨.list_none ht1 hu', .list_none ht1 hu', .list_none ht1 hu'⟩; all_goals (intros; simp_all)
    | bl b => rw [rep_bl] at ry; subst ry; cases (show u2 = Value.bool b from r2); rw [D.eq]; exact ⟨.list_bool b ht1 hu', .list_bool b ht1 hu', .list_bool b ht1 hu'⟩; all_goals (intros; simp_all)
    | int b => rw [rep_int] at ry; subst ry; obtain ⟨t, q⟩ := (show ∃ t, u2 = Value.int b t from r2); subst q; rw [D.eq]; exact ⟨.list_int b t ht1 hu', .list_int b t ht1 hu', .list_int b t ht1 hu'⟩; all_goals (intros; simp_all)
    | str b => rw [rep_str] at ry; subst ry; obtain ⟨t, q⟩ := (show ∃ t, u2 = Value.str b t from r2); subst q; rw [D.eq]; exact ⟨.list_str b t ht1 hu', .list_str b t ht1 hu', .list_str b t ht1 hu'⟩; all_goals (intros; simp_all)
    | tup es =>
      obtain ⟨p2, xs2, rfl, hp2, hr2⟩ := rep_tupQ ry
      cases (show u2 = Value.ref p2 from r2)
      obtain ⟨its2, rv2, ht2, _⟩ := I.tuple hp2
      rw [D.eq]
      exact ⟨.list_tuple ht1 ht2 hu', .list_tuple ht1 ht2 hu', .list_tuple ht1 ht2 hu'⟩
      all_goals (intros; simp_all)
    | lst es =>
      obtain ⟨p2, xs2, rfl, hp2, hr2⟩ := rep_lst.mp ry
      cases (show u2 = Value.ref p2 from r2)
      obtain ⟨its2, rv2, pl2, _⟩ := I.list hp2
      have ht2 := pl2.isList
      have l1 : its1.toArray.size = ds.length := by rw [List.size_toArray, ← rv1.length, ← hr1.length]
      have l2 : its2.toArray.size = es.length := by rw [List.size_toArray, ← rv2.length, ← hr2.length]
      have items := cmps_at I ds es A.in1 xs1 xs2 its1 its2 (by show A.units + 1 + _ < _; omega) hr1 hr2 rv1 rv2
      have he : ∀ j (h1 : j < its1.toArray.size) (h2 : j < its2.toArray.size), SeqAt.EqAt A.in1 s its1.toArray[j] its2.toArray[j] (D.eq (ds.getD j .non) (es.getD j .non)) := fun j h1 h2 => by
        refine items j _ _ _ _ ?_ ?_ ?_ ?_
        · rw [List.getD_eq_getElem?_getD, List.getElem?_eq_getElem (by omega)]; simp
        · rw [List.getD_eq_getElem?_getD, List.getElem?_eq_getElem (by omega)]; simp
        · simp
        · simp
      have both : SeqAt.RcAt A s (.ref p1) (.ref p2) (D.eqs ds es) ∧ SeqAt.RcNeAt A s (.ref p1) (.ref p2) (!D.eqs ds es) := by
        by_cases hl : ds.length = es.length
        · have rc := SeqAt.RcAt.lists ht1 ht2 (by omega) hu' he
          have ne := SeqAt.RcNeAt.lists ht1 ht2 (by omega) hu' he
          have e : D.eqs ds es = (List.range its1.toArray.size).all fun j => D.eq (ds.getD j .non) (es.getD j .non) := by
            rw [D.eqs_all, l1, ← hl, Nat.min_self]; simp
          rw [e]
          exact ⟨rc, ne⟩
        · have e : D.eqs ds es = false := by rw [D.eqs_all]; simp [hl]
          rw [e]
          have hs : (its1.toArray.size != its2.toArray.size) = true := by rw [l1, l2]; simpa using hl
          exact ⟨.lists_lengths ht1 ht2 hs hu', .lists_lengths ht1 ht2 hs hu'⟩
      rw [D.eq]
      refine ⟨both.1, both.2, ?_⟩
      by_cases hpp : p1 = p2
      · subst hpp
        have := rep_inj I _ _ _ rx ry
        cases this
        rw [D.eqs_refl]
        exact .same _
      · exact .of_refs hpp both.1
theorem cmps_at (I : Inv X pins σ H s) : ∀ (ds es : List D) (A : Around) (vs ws : List V) (us1 us2 : List Value), A.units + D.deps ds < cLine → Reps X.K H ds vs → Reps X.K H es ws → Vals vs us1 → Vals ws us2 →
    ∀ (j : Nat) (d e : D) (u1 u2 : Value), ds[j]? = some d → es[j]? = some e → us1[j]? = some u1 → us2[j]? = some u2 → SeqAt.EqAt A s u1 u2 (D.eq d e)
  | [], _, _, _, _, _, _, _, _, _, _, _, j, _, _, _, _, h, _, _, _ => by simp at h
  | _ :: _, [], _, _, _, _, _, _, _, _, _, _, j, _, _, _, _, _, h, _, _ => by simp at h
  | d0 :: ds, e0 :: es, A, vs, ws, us1, us2, hu, r1, r2, v1, v2, j, d, e, u1, u2, h1, h2, h3, h4 => by
    rw [D.deps] at hu
    obtain ⟨x, xr, rfl, a1, a2⟩ := reps_cons.mp r1
    obtain ⟨y, yr, rfl, b1, b2⟩ := reps_cons.mp r2
    cases v1 with
    | cons c1 c2 =>
      cases v2 with
      | cons d1 d2 =>
        cases j with
        | zero =>
          simp at h1 h2 h3 h4
          subst h1 h2 h3 h4
          exact (cmp_at I d0 e0 A x y _ _ (by omega) a1 b1 c1 d1).eq
        | succ j =>
          simp at h1 h2 h3 h4
          exact cmps_at I ds es A xr yr _ _ (by omega) a2 b2 c2 d2 j d e u1 u2 h1 h2 h3 h4
end
end

section
variable {X : Cx} {E : XK} {pos : Pos} {a b : Expr}
def gEq (x y : D) : M D := if x.dep ≤ 60 then .ok (.bl (D.eq x y)) else .bad
def gNe (x y : D) : M D := if x.dep ≤ 60 then .ok (.bl (!D.eq x y)) else .bad
theorem od_eq (hu : X.A.units + 64 < cLine) : OpD X E (compareOp .Eq) gEq := by
  refine ⟨fun x y H Q => ∃ dx dy, Rep X.K H dx x ∧ Rep X.K H dy y ∧ dx.dep ≤ 60 ∧ Q (.bl (D.eq dx dy)) H, fun pins s σ H x y v u Q I rx ry h => ?_, fun Hf H x y dx dy Q e rx ry q => ?_⟩
  · obtain ⟨dx, dy, h1, h2, h3, q⟩ := h
    exact (cmp_at I dx dy X.A x y v u (by omega) h1 h2 rx ry).rc _ _ _ _ ⟨.bl _, H, I, rfl, q⟩
  · unfold gEq at q
    split at q
    · rename_i hd
      exact ⟨dx, dy, rx.mono e, ry.mono e, hd, Po.ret e q (rep_bl.mpr rfl)⟩
    · exact q.elim
theorem od_ne (hu : X.A.units + 64 < cLine) : OpD X E (compareOp .NotEq) gNe := by
  refine ⟨fun x y H Q => ∃ dx dy, Rep X.K H dx x ∧ Rep X.K H dy y ∧ dx.dep ≤ 60 ∧ Q (.bl (!D.eq dx dy)) H, fun pins s σ H x y v u Q I rx ry h => ?_, fun Hf H x y dx dy Q e rx ry q => ?_⟩
  · obtain ⟨dx, dy, h1, h2, h3, q⟩ := h
    exact (cmp_at I dx dy X.A x y v u (by omega) h1 h2 rx ry).ne _ _ _ _ ⟨.bl _, H, I, rfl, q⟩
  · unfold gNe at q
    split at q
    · rename_i hd
      exact ⟨dx, dy, rx.mono e, ry.mono e, hd, Po.ret e q (rep_bl.mpr rfl)⟩
    · exact q.elim
end
end DL

set_option maxHeartbeats 4000000

namespace DL
open PySem PySem.Spec PyProof.Rows L2

/-! ### isinstance against a built-in kind -/
def tyD : D → String
  | .non => "NoneType"
  | .bl _ => "bool"
  | .int _ => "int"
  | .str _ => "str"
  | .tup _ => "tuple"
  | .lst _ => "list"
def isD (T : String) : D → Bool
  | .non => false
  | .bl _ => T == "bool" || T == "int"
  | .int _ => T == "int"
  | .str _ => T == "str"
  | .tup _ => T == "tuple"
  | .lst _ => T == "list"
theorem kit_ok (K : PySem.W.Frag) (d : D) {T : String} (hT : T ∈ ["int", "bool", "tuple", "list", "str"]) : PySem.W.kitOne K (.type (tyD d)) (.type T) = some (isD T d) := by
  simp only [List.mem_cons, List.not_mem_nil, or_false] at hT
  rcases hT with rfl | rfl | rfl | rfl | rfl <;> cases d <;> rfl
section
variable {X : Cx} {E : XK} {pos : Pos} {a b : Expr}
theorem call_isinst {T : String} (hT : T ∈ ["int", "bool", "tuple", "list", "str"]) : CallR X (.builtin "isinstance") (fun xs H Q => ∃ x d, xs = [x, .ty T] ∧ Rep X.K H d x ∧ Q (.bl (isD T d)) H) := by
  intro pins s σ H xs us Q I r h
  obtain ⟨x, d, rfl, hx, q⟩ := h
  obtain ⟨u, w', rfl, r1, r2⟩ := vals2 r
  cases (show w' = Value.type T from r2)
  have e := kit_ok X.K d hT
  have fin : ∀ tk, EP X pins σ Q (.bool (isD T d)) { s with toks := tk } := fun tk => ⟨.bl _, H, I.tok _, rfl, q⟩
  cases d with
  | non => rw [rep_non] at hx; subst hx; cases (show u = Value.none from r1); exact PySem.W.kia_one PySem.W.kitx_none I.kIn True.intro e (fun z => nomatch z) fin
  | bl y => rw [rep_bl] at hx; subst hx; cases (show u = Value.bool y from r1); exact PySem.W.kia_one PySem.W.kitx_bool I.kIn True.intro e (fun z => nomatch z) fin
  | int y => rw [rep_int] at hx; subst hx; obtain ⟨t, z⟩ := (show ∃ t, u = Value.int y t from r1); subst z; exact PySem.W.kia_one PySem.W.kitx_int I.kIn True.intro e (fun z => nomatch z) fin
  | str y => rw [rep_str] at hx; subst hx; obtain ⟨t, z⟩ := (show ∃ t, u = Value.str y t from r1); subst z; exact PySem.W.kia_one PySem.W.kitx_str I.kIn True.intro e (fun z => nomatch z) fin
  | tup ds =>
    obtain ⟨p, ys, rfl, hp, hr⟩ := rep_tupQ hx
    cases (show u = Value.ref p from r1)
    obtain ⟨its, _, ⟨o, h1, h2, _⟩, _⟩ := I.tuple hp
    exact PySem.W.kia_one PySem.W.kitx_tuple I.kIn ⟨o, h1, h2⟩ e (fun z => nomatch z) fin
  | lst ds =>
    obtain ⟨p, ys, rfl, hp, hr⟩ := rep_lst.mp hx
    cases (show u = Value.ref p from r1)
    obtain ⟨its, _, pl, _⟩ := I.list hp
    obtain ⟨o, h1, h2, _⟩ := pl.isList
    exact PySem.W.kia_one PySem.W.kitx_list I.kIn ⟨o, h1, h2⟩ e (fun z => nomatch z) fin
def eIs (T : String) (f : DSt → M D) (sd : DSt) : M D := (f sd).bind fun d => .ok (.bl (isD T d))
theorem pd_isinst (T : String) {p p2 : Pos} {f : DSt → M D} (hg : Gl X "isinstance") (hm : X.mg "isinstance" = none) (hmT : X.mg (Str.ofString T) = none) (hgT : Gl X (Str.ofString T)) (hvT : bootBuiltins (Str.ofString T) = some (.type T)) (h : PEd X E a f)
    (hT : T ∈ ["int", "bool", "tuple", "list", "str"] := by decide) (hnT : (Str.ofString T) ≠ "__name__" := by decide) (hdT : ((Str.ofString T) == ("__debug__" : Str)) = false := by decide)
    (he : starEach [a, .Name (Str.ofString T) p2] X.env = (false, eval a X.env) :: starEach [.Name (Str.ofString T) p2] X.env := by rfl) (he2 : starEach [.Name (Str.ofString T) p2] X.env = (false, eval (.Name (Str.ofString T) p2) X.env) :: starEach [] X.env := by rfl)
    (hpl : (backTo pos (starEach [.Name (Str.ofString T) p2] X.env)).any (·.1) = false := by rfl) (hv : bootBuiltins "isinstance" = some (.builtin "isinstance") := by rfl) :
    PEd X E (.Call (.Name "isinstance" p) [a, .Name (Str.ofString T) p2] [] pos) (eIs T f) := by
  obtain ⟨t, pt, qt⟩ := h
  refine ⟨_, pe_callB (call_isinst hT) hg hm hv (pa_cons pt (pa_cons (pe_bltn (v := .ty T) hgT hmT hvT rfl hnT hdT) pa_nil he2) he) (by decide) (by decide) he hpl, fun H0 B Hf sd σ H Q sr h => ?_⟩
  refine qt H0 B Hf sd σ H _ sr (Po.bind h fun d v Hf1 H1 _ g1 rv h1 => ?_)
  exact ⟨v, d, rfl, Rep.mono g1.sub rv, Po.ret (R := rV X.K) g1.sub h1 (rep_bl.mpr rfl)⟩

/-! ### all, any of a list of truths -/
def boolsOf : List D → Option (List Bool)
  | [] => some []
  | .bl b :: r => (boolsOf r).map (b :: ·)
  | _ :: _ => none
theorem boolsOf_reps {K : PySem.W.Frag} {H : Hp} : ∀ {ds : List D} {bs : List Bool} {xs : List V}, boolsOf ds = some bs → Reps K H ds xs → xs = bs.map V.bl
  | [], bs, xs, e, r => by
    rw [reps_nil.mp r]
    cases e
    rfl
  | .bl b :: ds, bs, xs, e, r => by
    obtain ⟨x, t, rfl, h1, h2⟩ := reps_cons.mp r
    unfold boolsOf at e
    cases q : boolsOf ds with
    | none => rw [q] at e; cases e
    | some cs =>
      rw [q] at e
      cases e
      rw [rep_bl.mp h1, boolsOf_reps q h2]
      rfl
  | .non :: _, _, _, e, _ => by cases e
  | .int _ :: _, _, _, e, _ => by cases e
  | .str _ :: _, _, _, e, _ => by cases e
  | .tup _ :: _, _, _, e, _ => by cases e
  | .lst _ :: _, _, _, e, _ => by cases e
theorem vals_bl {bs : List Bool} : ∀ {us : List Value}, Vals (bs.map V.bl) us → us = bs.map Value.bool := by
  induction bs with
  | nil => intro us r; cases r; rfl
  | cons b bs ih =>
    intro us r
    cases r with
    | cons r1 r2 => rw [ih r2]; cases (show _ = Value.bool b from r1); rfl
theorem range_all' (bs : List Bool) : ((List.range bs.length).all fun i => (bs[i]?).getD true) = bs.all id := by
  induction bs with
  | nil => rfl
  | cons b bs ih =>
    rw [List.length_cons, List.range_succ_eq_map, List.all_cons, List.all_map, List.all_cons]
    have : (((fun i => ((b :: bs)[i]?).getD true) ∘ Nat.succ) : Nat → Bool) = fun i => (bs[i]?).getD true := by funext i; simp
    rw [this, ih]
    simp
theorem range_any' (bs : List Bool) : ((List.range bs.length).any fun i => (bs[i]?).getD false) = bs.any id := by
  induction bs with
  | nil => rfl
  | cons b bs ih =>
    rw [List.length_cons, List.range_succ_eq_map, List.any_cons, List.any_map, List.any_cons]
    have : (((fun i => ((b :: bs)[i]?).getD false) ∘ Nat.succ) : Nat → Bool) = fun i => (bs[i]?).getD false := by funext i; simp
    rw [this, ih]
    simp
theorem kept_it {s : Shared} {h' : Heap} {o : Obj} (hk : ∀ b x, b ∉ [s.heap.objs.size] → (s.heap.push o).get? b = some x → h'.get? b = some x) : ∀ b x, s.heap.get? b = some x → h'.get? b = some x :=
  fun b x e => hk b x (fun hm => by rw [List.mem_singleton.mp hm] at e; exact Nat.lt_irrefl _ (Heap.lt_size e)) (Heap.get?_push_of_some _ e)
theorem call_allB (hc : X.calm = true) : CallR X (.builtin "all") (fun xs H Q => ∃ (p : Addr) (bs : List Bool), xs = [.ref p] ∧ SqL X.K H p (bs.map V.bl) ∧ Q (.bl (bs.all id)) H) := by
  intro pins s σ H xs us Q I r h
  obtain ⟨p, bs, rfl, hp, q⟩ := h
  obtain ⟨u, rfl, rx⟩ := vals1 r
  cases rx
  obtain ⟨its, rv, pl, _⟩ := I.list hp
  have hl := pl.isList
  have ei := vals_bl rv
  have hlt : p < s.heap.objs.size := by obtain ⟨_, e, _⟩ := hl; exact Heap.lt_size e
  refine call_all_walk (wpAny_pyIter_list hl ?_)
  refine ⟨s.heap.objs.size, [s.heap.objs.size, p], [s.heap.objs.size], its.toArray.size, _, _, fun i => (bs[i]?).getD true, rfl, Walks.list (A := X.A.in1) (I.ok.hd hc) _ p (Nat.ne_of_lt hlt) its.toArray,
    ⟨⟨_, Heap.get?_push_size _ rfl, rfl, rfl⟩, hl.push _⟩, fun i v s' Q' E' hP hQ => ?_, fun h' tk hk => ?_⟩
  · have hv : its[i]? = some v := by simpa using hP
    rw [ei, List.getElem?_map] at hv
    cases eb : bs[i]? with
    | none => rw [eb] at hv; cases hv
    | some b =>
      rw [eb] at hv
      cases hv
      simp only [eb, Option.getD_some] at hQ
      exact wpAny_truthy_bool hQ
  · have e : ((List.range its.toArray.size).all fun i => (bs[i]?).getD true) = bs.all id := by
      rw [List.size_toArray, ei, List.length_map]; exact range_all' bs
    rw [e]
    exact ⟨.bl _, H, I.kept (kept_it hk), rfl, q⟩
theorem call_anyB (hc : X.calm = true) : CallR X (.builtin "any") (fun xs H Q => ∃ (p : Addr) (bs : List Bool), xs = [.ref p] ∧ SqL X.K H p (bs.map V.bl) ∧ Q (.bl (bs.any id)) H) := by
  intro pins s σ H xs us Q I r h
  obtain ⟨p, bs, rfl, hp, q⟩ := h
  obtain ⟨u, rfl, rx⟩ := vals1 r
  cases rx
  obtain ⟨its, rv, pl, _⟩ := I.list hp
  have hl := pl.isList
  have ei := vals_bl rv
  have hlt : p < s.heap.objs.size := by obtain ⟨_, e, _⟩ := hl; exact Heap.lt_size e
  refine call_any_walk (wpAny_pyIter_list hl ?_)
  refine ⟨s.heap.objs.size, [s.heap.objs.size, p], [s.heap.objs.size], its.toArray.size, _, _, fun i => (bs[i]?).getD false, rfl, Walks.list (A := X.A.in1) (I.ok.hd hc) _ p (Nat.ne_of_lt hlt) its.toArray,
    ⟨⟨_, Heap.get?_push_size _ rfl, rfl, rfl⟩, hl.push _⟩, fun i v s' Q' E' hP hQ => ?_, fun h' tk hk => ?_⟩
  · have hv : its[i]? = some v := by simpa using hP
    rw [ei, List.getElem?_map] at hv
    cases eb : bs[i]? with
    | none => rw [eb] at hv; cases hv
    | some b =>
      rw [eb] at hv
      cases hv
      simp only [eb, Option.getD_some] at hQ
      exact wpAny_truthy_bool hQ
  · have e : ((List.range its.toArray.size).any fun i => (bs[i]?).getD false) = bs.any id := by
      rw [List.size_toArray, ei, List.length_map]; exact range_any' bs
    rw [e]
    exact ⟨.bl _, H, I.kept (kept_it hk), rfl, q⟩
def bAll : List D → M D
  | [.lst ds] => match boolsOf ds with
    | some bs => .ok (.bl (bs.all id))
    | none => .bad
  | _ => .bad
def bAny : List D → M D
  | [.lst ds] => match boolsOf ds with
    | some bs => .ok (.bl (bs.any id))
    | none => .bad
  | _ => .bad
theorem cd_all (hc : X.calm = true) : CallD X E (.builtin "all") bAll := by
  refine ⟨_, call_allB hc, fun Hf H xs ds Q e r q => ?_⟩
  unfold bAll at q
  split at q
  · split at q
    · rename_i bs hb
      obtain ⟨x, rfl, h⟩ := reps1 r
      obtain ⟨p, ys, rfl, hp, hr⟩ := rep_lst.mp h
      have := boolsOf_reps hb hr
      subst this
      exact ⟨p, bs, rfl, e.seq hp, Po.ret e q (rep_bl.mpr rfl)⟩
    · exact q.elim
  · exact q.elim
theorem cd_any (hc : X.calm = true) : CallD X E (.builtin "any") bAny := by
  refine ⟨_, call_anyB hc, fun Hf H xs ds Q e r q => ?_⟩
  unfold bAny at q
  split at q
  · split at q
    · rename_i bs hb
      obtain ⟨x, rfl, h⟩ := reps1 r
      obtain ⟨p, ys, rfl, hp, hr⟩ := rep_lst.mp h
      have := boolsOf_reps hb hr
      subst this
      exact ⟨p, bs, rfl, e.seq hp, Po.ret e q (rep_bl.mpr rfl)⟩
    · exact q.elim
  · exact q.elim

/-! ### sorted, of fewer than 64 ints -/
/-! ### + of ints, lists, tuples, texts -/
theorem op_catS : OpR X (binaryOp .Add) (fun x y H Q => ∃ l b xs zs, x = .ref l ∧ y = .ref b ∧ SqL X.K H l xs ∧ SqL X.K H b zs ∧ xs.length + zs.length ≤ sizeLine ∧ ∀ p, H p = none → Q (.ref p) (upd H p (.lst (xs ++ zs)))) := by
  intro pins s σ H x y v u Q I rx ry h
  obtain ⟨l, b, xs, zs, rfl, rfl, hH, hB, hz, q⟩ := h
  cases rx
  cases ry
  obtain ⟨its, r, pl, z⟩ := I.list hH
  obtain ⟨its2, r2, pl2, z2⟩ := I.list hB
  have l1 := r.length
  have l2 := r2.length
  obtain ⟨⟨cls, dd, data, sl⟩, ho, hc, n, hd⟩ := pl.isList
  obtain ⟨⟨cls2, dd2, data2, sl2⟩, ho2, hc2, n2, hd2⟩ := pl2.isList
  simp only at hc hd hc2 hd2
  subst hc hd hc2 hd2
  have e : its.toArray ++ its2.toArray = (its ++ its2).toArray := by simp
  refine concat_meets ⟨_, ho, rfl⟩ ⟨_, ho2, rfl⟩ noFill_list_add seq_list_add PySem.F.slot_list_add PySem.F.entry_list_add (PySem.F.args_list_add_2 _ _) (list_addW l b its.toArray its2.toArray n n2 dd dd2 sl sl2 (by rw [List.size_toArray, List.size_toArray]; omega)) ⟨ho, ho2, ?_⟩
  rw [e]
  exact ⟨.ref _, _, I.lnew (t' := s.toks) (r.append r2) (by rw [List.length_append]; omega), rfl, q _ I.fresh⟩
def gPlus : D → D → M D
  | .int i, .int j => .ok (.int (i + j))
  | .lst xs, .lst ys => if few (xs ++ ys) then .ok (.lst (xs ++ ys)) else .bad
  | .tup (x :: xs), .tup ys => if few (x :: xs ++ ys) then .ok (.tup (x :: xs ++ ys)) else .bad
  | .str i, .str j => if i.length + j.length ≤ sizeLine then .ok (.str (i ++ j)) else .bad
  | _, _ => .bad
theorem od_plus : OpD X E (binaryOp .Add) gPlus := by
  refine ⟨_, op_add.or (op_catS.or (op_catT.or op_add_str)), fun Hf H x y dx dy Q e rx ry q => ?_⟩
  unfold gPlus at q
  split at q
  · rename_i i j
    exact .inl ⟨i, j, rep_int.mp rx, rep_int.mp ry, Po.ret e q (rep_int.mpr rfl)⟩
  · rename_i xs ys
    split at q
    · rename_i hf
      obtain ⟨p1, us, rfl, h1, r1⟩ := rep_lst.mp rx
      obtain ⟨p2, ws, rfl, h2, r2⟩ := rep_lst.mp ry
      have hl := few_line hf (r1.append r2)
      rw [List.length_append] at hl
      exact .inr (.inl ⟨p1, p2, us, ws, rfl, rfl, e.seq h1, e.seq h2, hl, fun p hp => q _ _ _ (Gr.alloc e hp _) (Gr.lst e hp (r1.append r2))⟩)
    · exact q.elim
  · rename_i x0 xs ys
    split at q
    · rename_i hf
      obtain ⟨p1, us, rfl, h1, r1⟩ := rep_tupQ rx
      obtain ⟨p2, ws, rfl, h2, r2⟩ := rep_tupQ ry
      have hl := few_line hf (r1.append r2)
      rw [List.length_append] at hl
      have hne : us ≠ [] := fun z => by
        have := r1.length
        rw [z] at this
        cases this
      refine .inr (.inr (.inl ⟨p1, p2, us, ws, rfl, rfl, Same.seqT e h1, Same.seqT e h2, hne, hl, fun z => ?_, fun _ p hp => q _ _ _ (Gr.alloc e hp _) (Gr.tup e hp (r1.append r2))⟩))
      subst z
      have : ys = [] := List.length_eq_zero_iff.mp r2.length
      subst this
      rw [List.append_nil] at q
      exact Po.ret e q rx
    · exact q.elim
  · rename_i i j
    split at q
    · rename_i hl
      exact .inr (.inr (.inr ⟨i, j, rep_str.mp rx, rep_str.mp ry, hl, Po.ret e q (rep_str.mpr rfl)⟩))
    · exact q.elim
  · exact q.elim
def gTimes : D → D → M D := gMul
theorem od_times : OpD X E (binaryOp .Mult) gTimes := od_mul

/-! ### slices -/
def cutD (ds : List D) (lo hi : Option Int) : List D := (ds.drop (HT.sIx ds.length 0 lo)).take (HT.sIx ds.length ds.length hi - HT.sIx ds.length 0 lo)
theorem cut_reps {K : PySem.W.Frag} {H : Hp} {ds : List D} {xs : List V} (r : Reps K H ds xs) (lo hi : Option Int) : Reps K H (cutD ds lo hi) (cutV xs lo hi) := by
  unfold cutD cutV
  rw [← r.length]
  exact (r.drop _).take _
def gSl : D → Option Int → Option Int → M D
  | .lst ds, lo, hi => .ok (.lst (cutD ds lo hi))
  | .tup ds, lo, hi => if HT.sIx ds.length 0 lo = 0 ∧ HT.sIx ds.length ds.length hi = ds.length then .bad else .ok (.tup (cutD ds lo hi))
  | _, _, _ => .bad
def oNone (_ : DSt) : M (Option Int) := .ok none
def oSome (f : DSt → M D) (sd : DSt) : M (Option Int) := (f sd).bind fun d => match d with
  | .int i => .ok (some i)
  | _ => .bad
theorem pod_none : POd X E none oNone := ⟨_, po_none, fun _ _ _ _ _ _ _ sr h => Po.ret (R := rQ) sr.sub h rfl⟩
theorem pod_some {e : Expr} {f : DSt → M D} (h : PEd X E e f) : POd X E (some e) (oSome f) := by
  obtain ⟨t, p, q⟩ := h
  refine ⟨_, po_some p, fun H0 B Hf sd σ H Q sr h => ?_⟩
  refine q H0 B Hf sd σ H _ sr (Po.bind h fun d v Hf1 H1 _ g1 rv h1 => ?_)
  split at h1
  · exact ⟨_, rep_int.mp rv, Po.ret (R := rQ) g1.sub h1 rfl⟩
  · exact h1.elim
def eSl (f : DSt → M D) (lo hi : DSt → M (Option Int)) (sd : DSt) : M D := (f sd).bind fun d => (lo sd).bind fun l => (hi sd).bind fun h => gSl d l h
theorem pd_slice {e : Expr} {lo hi : Option Expr} {p2 : Pos} {f : DSt → M D} {fl fh : DSt → M (Option Int)} (h : PEd X E e f) (hl : POd X E lo fl) (hh : POd X E hi fh) : PEd X E (.Subscript e (.Slice lo hi none p2) pos) (eSl f fl fh) := by
  obtain ⟨t, p, q⟩ := h
  obtain ⟨tl, pl, ql⟩ := hl
  obtain ⟨th, ph, qh⟩ := hh
  refine ⟨_, pe_slice (sl_list.or sl_tup) p pl ph, fun H0 B Hf sd σ H Q sr h => ?_⟩
  refine q H0 B Hf sd σ H _ sr (Po.bind h fun d v Hf1 H1 _ g1 rv h1 => ?_)
  refine ql H0 B Hf1 sd σ H1 _ (sr.gr g1) (Po.bind h1 fun l l' Hf2 H2 _ g2 el h2 => ?_)
  have el : l = l' := el
  subst el
  refine qh H0 B Hf2 sd σ H2 _ ((sr.gr g1).gr g2) (Po.bind h2 fun u u' Hf3 H3 _ g3 eu h3 => ?_)
  have eu : u = u' := eu
  subst eu
  have rv3 := (Rep.mono g3.fz (Rep.mono g2.fz rv))
  unfold gSl at h3
  split at h3
  · rename_i ds
    obtain ⟨a, xs, rfl, ha, hr⟩ := rep_lst.mp rv3
    exact .inl ⟨a, xs, rfl, g3.sub.seq ha, fun p hp => h3 _ _ _ (Gr.alloc g3.sub hp _) (Gr.lst g3.sub hp (cut_reps hr _ _))⟩
  · rename_i ds
    split at h3
    · exact h3.elim
    · rename_i hw
      obtain ⟨a, xs, rfl, ha, hr⟩ := rep_tupQ rv3
      exact .inr ⟨a, xs, rfl, Same.seqT g3.sub ha, by rw [← hr.length]; exact hw, fun p hp => h3 _ _ _ (Gr.alloc g3.sub hp _) (Gr.tup g3.sub hp (cut_reps hr _ _))⟩
  · exact h3.elim

/-! ### what a loop walks -/
def ItOk (K : PySem.W.Frag) (Hf _H : Hp) (ds : List D) (J : It) : Prop := ∀ (i : Nat) (Hf1 H1 : Hp), Same Hf Hf1 → Same Hf1 H1 → match ds[i]? with
  | some d => J.go i H1 ∧ ∀ x H2, J.yld i H1 x H2 → ∃ Hf2, Gr Hf1 H1 Hf2 H2 ∧ Rep K Hf2 d x
  | none => J.stop i H1
def PId (X : Cx) (E : XK) (tg iter : Expr) (fi : DSt → M (List D)) : Prop :=
  ∃ wi : TI, PI X tg iter wi ∧ ∀ (H0 : Hp) (B : Addr → Prop) (Hf : Hp) (sd : DSt) (σ : L2.St) (H : Hp) (R : It → Hp → Prop), SR X.K H0 B Hf sd σ H → Po X.K E (ItOk X.K) Hf H (fi sd) R → wi σ H R
theorem itl_ok {K : PySem.W.Frag} {Hf H : Hp} {a : Addr} {xs : List V} {ds : List D} (h : SqL K Hf a xs) (r : Reps K Hf ds xs) : ItOk K Hf H ds (Itl K a) := by
  intro i Hf1 H1 e1 e2
  have h2 := e2.seq (e1.seq h)
  cases q : ds[i]? with
  | some d =>
    obtain ⟨x, ex, rx⟩ := r.get q
    refine ⟨⟨xs, x, h2, ex⟩, fun y H2 hy => ?_⟩
    obtain ⟨e, hy⟩ := hy
    subst e
    have ey := hy xs h2
    rw [ex] at ey
    cases ey
    exact ⟨Hf1, Gr.refl e2, rx.mono e1⟩
  | none =>
    refine ⟨xs, h2, ?_⟩
    have := r.none_of q
    exact List.getElem?_eq_none_iff.mp this
theorem itt_ok {K : PySem.W.Frag} {Hf H : Hp} {a : Addr} {xs : List V} {ds : List D} (h : SqT K Hf a xs) (r : Reps K Hf ds xs) : ItOk K Hf H ds (Itt K a) := by
  intro i Hf1 H1 e1 e2
  have h2 := Same.seqT e2 (Same.seqT e1 h)
  cases q : ds[i]? with
  | some d =>
    obtain ⟨x, ex, rx⟩ := r.get q
    refine ⟨⟨xs, x, h2, ex⟩, fun y H2 hy => ?_⟩
    obtain ⟨e, hy⟩ := hy
    subst e
    have ey := hy xs h2
    rw [ex] at ey
    cases ey
    exact ⟨Hf1, Gr.refl e2, rx.mono e1⟩
  | none =>
    refine ⟨xs, h2, ?_⟩
    have := r.none_of q
    exact List.getElem?_eq_none_iff.mp this
def rangeD (lo : Int) (n : Nat) : List D := (List.range n).map fun k => .int (lo + (k : Nat))
theorem itr_ok {K : PySem.W.Frag} {Hf H : Hp} (lo : Int) (n : Nat) : ItOk K Hf H (rangeD lo n) (Itr lo n) := by
  intro i Hf1 H1 e1 e2
  unfold rangeD
  rw [List.getElem?_map]
  by_cases hi : i < n
  · rw [List.getElem?_range hi]
    refine ⟨hi, fun y H2 hy => ?_⟩
    obtain ⟨e, hy⟩ := hy
    subst e
    exact ⟨Hf1, Gr.refl e2, rep_int.mpr hy⟩
  · rw [List.getElem?_eq_none (by simpa using hi)]
    exact Nat.le_of_not_lt hi
def iSeq (f : DSt → M D) (sd : DSt) : M (List D) := (f sd).bind fun d => match d with
  | .lst ds => .ok ds
  | .tup ds => .ok ds
  | _ => .bad
theorem pi_seq {tg l : Expr} {tl : TE} (hl : PE X l tl) : PI X tg l (fun σ H R => tl σ H fun x H1 => (∃ a, x = .ref a ∧ (∃ xs, SqL X.K H1 a xs) ∧ R (Itl X.K a) H1) ∨ ∃ a, x = .ref a ∧ (∃ xs, SqT X.K H1 a xs) ∧ R (Itt X.K a) H1) := by
  intro pins s σ H R I h
  refine thn (hl pins s σ H _ I h) fun v s1 ⟨x, H1, I1, r1, q1⟩ => ?_
  rcases q1 with ⟨a, e, ⟨xs, hq⟩, q⟩ | ⟨a, e, ⟨xs, hq⟩, q⟩
  · subst e
    cases r1
    obtain ⟨its, rv, p, hz⟩ := I1.list hq
    refine wpAny_pyIter_list p.isList ?_
    refine ⟨s1.heap.objs.size, [s1.heap.objs.size], _, _, H1, rfl, I1.kept (t' := s1.toks) fun b o e => Heap.get?_push_of_some _ e, turn_list a _, ⟨_, Heap.get?_push_size _ rfl, rfl, rfl⟩, fun b hb => ?_, q⟩
    have e : b = s1.heap.objs.size := by simpa using hb
    subst e
    exact I1.fpOk (Nat.le_refl _) (I1.hok.fresh (Nat.le_refl _))
  · subst e
    cases r1
    obtain ⟨its, rv, p, hz⟩ := I1.tuple hq
    refine wpAny_pyIter_tuple (show s1.heap.IsTuple a its.toArray from p) ?_
    refine ⟨s1.heap.objs.size, [s1.heap.objs.size], _, _, H1, rfl, I1.kept (t' := s1.toks) fun b o e => Heap.get?_push_of_some _ e, turn_tuple a _, ⟨_, Heap.get?_push_size _ rfl, rfl, rfl⟩, fun b hb => ?_, q⟩
    have e : b = s1.heap.objs.size := by simpa using hb
    subst e
    exact I1.fpOk (Nat.le_refl _) (I1.hok.fresh (Nat.le_refl _))
theorem pid_seq {tg l : Expr} {f : DSt → M D} (h : PEd X E l f) : PId X E tg l (iSeq f) := by
  obtain ⟨t, p, q⟩ := h
  refine ⟨_, pi_seq p, fun H0 B Hf sd σ H R sr h => ?_⟩
  refine q H0 B Hf sd σ H _ sr (Po.bind h fun d v Hf1 H1 _ g1 rv h1 => ?_)
  split at h1
  · rename_i ds
    obtain ⟨a, xs, rfl, ha, hr⟩ := rep_lst.mp rv
    exact .inl ⟨a, rfl, ⟨xs, g1.sub.seq ha⟩, Po.ret (R := ItOk X.K) g1.sub h1 (itl_ok ha hr)⟩
  · rename_i ds
    obtain ⟨a, xs, rfl, ha, hr⟩ := rep_tupQ rv
    exact .inr ⟨a, rfl, ⟨xs, Same.seqT g1.sub ha⟩, Po.ret (R := ItOk X.K) g1.sub h1 (itt_ok ha hr)⟩
  · exact h1.elim
def iRange1 (fs : DSt → M (List D)) (sd : DSt) : M (List D) := (fs sd).bind fun ds => match ds with
  | [.int j] => if -1000000 ≤ j ∧ j ≤ 1000000 then .ok (rangeD 0 j.toNat) else .bad
  | _ => .bad
theorem pid_range1 {tg a : Expr} {p : Pos} {fs : DSt → M (List D)} (hg : Gl X "range") (hm : X.mg "range" = none) (h : PAd X E [a] fs) (hs : starEach [a] X.env = [(false, eval a X.env)] := by rfl) : PId X E tg (.Call (.Name "range" p) [a] [] pos) (iRange1 fs) := by
  obtain ⟨t, pt, q⟩ := h
  refine ⟨_, pi_range1 hg hm pt hs, fun H0 B Hf sd σ H R sr h => ?_⟩
  refine q H0 B Hf sd σ H _ sr (Po.bind h fun ds vs Hf1 H1 _ g1 rs h1 => ?_)
  split at h1
  · split at h1
    · rename_i hj
      obtain ⟨v, rfl, rv⟩ := reps1 rs
      rw [rep_int.mp rv]
      exact ⟨_, rfl, by omega, by omega, Po.ret (R := ItOk X.K) g1.sub h1 (itr_ok 0 _)⟩
    · exact h1.elim
  · exact h1.elim
def loopD (g : D → DSt → M DSt) (f : DSt → M O) : List D → DSt → M O
  | [], sd => .ok (.nx sd)
  | d :: r, sd => match g d sd with
    | .ok sd1 => (f sd1).bind fun o => match o with
      | .nx sd2 => loopD g f r sd2
      | .ct sd2 => loopD g f r sd2
      | .bk sd2 => .ok (.nx sd2)
      | .rt s => .ok (.rt s)
    | _ => .bad
def sFor (fi : DSt → M (List D)) (g : D → DSt → M DSt) (f : DSt → M O) (sd : DSt) : M O := (fi sd).bind fun ds => loopD g f ds sd
theorem psd_for {tg iter : Expr} {body : List Stmt} {fi : DSt → M (List D)} {g : D → DSt → M DSt} {f : DSt → M O} (hp : PassesOwn (model X.prog X.w) X.A X.env X.xe) (hc : X.calm = true) (hi : PId X E tg iter fi) (hg : PGd X tg g) (hb : PSsd X E body f)
    (hs : ∀ x, foldedSetIterable iter X.env x = pure x := by intro _; rfl) : PSd X E (.For tg iter body [] pos) (sFor fi g f) := by
  obtain ⟨wi, pw, qw⟩ := hi
  obtain ⟨tg', pg, qg⟩ := hg
  obtain ⟨tb, pb, qb⟩ := hb
  refine ⟨_, ps_for hp hc pw pg pb hs, fun H0 B Hf sd σ H D sr h => ?_⟩
  refine qw H0 B Hf sd σ H _ sr (PoS.bind sr h fun ds J Hf1 H1 _ g1 sr1 J1 h1 => ?_)
  refine ⟨fun i m σ' H' => m = ds.length - i ∧ ∃ Hf' sd', Same Hf1 Hf' ∧ SR X.K H0 B Hf' sd' σ' H' ∧ PoS X.K E H0 B Hf' (loopD g f (ds.drop i) sd') D, ⟨ds.length, by simp, Hf1, sd, Same.refl _, sr1, by simpa using h1⟩, ?_⟩
  rintro i m σ2 H2 ⟨rfl, Hf2, sd2, e2, sr2, h2⟩
  have jj := J1 i Hf2 H2 e2 sr2.sub
  cases q : ds[i]? with
  | none =>
    rw [q] at jj
    refine .inl ⟨jj, ?_⟩
    rw [List.drop_eq_nil_of_le (List.getElem?_eq_none_iff.mp q)] at h2
    exact h2 σ2 Hf2 H2 (Same.refl _) sr2
  | some d =>
    rw [q] at jj
    obtain ⟨go, yl⟩ := jj
    have hlt : i < ds.length := (List.getElem?_eq_some_iff.mp q).1
    have hd : ds.drop i = d :: ds.drop (i + 1) := by
      rw [List.drop_eq_getElem_cons hlt]
      congr 1
      exact (List.getElem?_eq_some_iff.mp q).2
    rw [hd] at h2
    refine .inr ⟨go, fun σ' H' => ∃ Hf' sd', Same Hf1 Hf' ∧ SR X.K H0 B Hf' sd' σ' H' ∧ PoS X.K E H0 B Hf' (loopD g f (ds.drop (i + 1)) sd') D, fun σ' H' w => ⟨ds.length - (i + 1), by omega, rfl, w⟩, fun x H3 y3 => ?_⟩
    obtain ⟨Hf3, g3, rx⟩ := yl x H3 y3
    have sr3 := sr2.gr g3
    unfold loopD at h2
    split at h2
    · rename_i sd3 eg
      refine qg H0 B Hf3 sd2 σ2 H3 x d sd3 _ sr3 rx eg fun σ4 sr4 => ?_
      refine qb H0 B Hf3 sd3 σ4 H3 _ sr4 ?_
      have h2 := PoS.weak g3.fz h2
      cases ef : f sd3 with
      | ok o =>
        rw [ef] at h2
        cases o with
        | nx sd' => exact fun σ' Hf' H' e' sr' => ⟨Hf', sd', e2.trans (g3.fz.trans e'), sr', PoS.weak e' h2⟩
        | ct sd' => exact fun σ' Hf' H' e' sr' => ⟨Hf', sd', e2.trans (g3.fz.trans e'), sr', PoS.weak e' h2⟩
        | bk sd' => exact h2
        | rt s => exact h2
      | ex x => rw [ef] at h2; exact h2
      | bad => rw [ef] at h2; exact h2
    · exact h2.elim
end
end DL

set_option maxHeartbeats 4000000

namespace DL
open PySem PySem.Spec PyProof.Rows L2

/-! ### comprehensions -/
theorem codeAny_comp_any {prog : Program} {w : World} {A : Around} {R : Result → Shared → Prop} {s : Shared} {elt target iter : Expr} {scope : Scope} {pos : Pos} {it acc : Value} {env : Env} (I : Nat → Shared → Prop)
    (turn : ∀ n s, I n s → wpAny (model prog w) A (pyNext it) (fun r s₁ => match r with
      | none => R (.ok .next) s₁
      | some v => wpAny (model prog w) A (letOwnedTupleGo target it v) (fun _ s₂ => wpAny (model prog w) A (assign target env v) (fun _ s₃ => wpAny (model prog w) A (eval elt env) (fun x s₄ =>
          wpAny (model prog w) A (call (.builtin "list.append") [acc, x]) (fun _ s₅ => ∃ m, m < n ∧ I m s₅) (fun _ _ => False) s₄) (fun _ _ => False) s₃) (fun _ _ => False) s₂) (fun _ _ => False) s₁) (fun _ _ => False) s)
    (n : Nat) (h : I n s) :
    codeAny (model prog w) A (.compLoop (.ListComp elt [⟨target, iter, [], 0⟩] scope pos) 0 it acc env) R s := by
  refine codeAny_loop rfl I (fun n s hI => ?_) n h
  show wpAny _ A ((compTurn (.ListComp elt [⟨target, iter, [], 0⟩] scope pos) 0 it acc env).onRaise (fun x => do noteFrame x env; theTreesLotGoes x)) _ _ s
  refine wpAny_noted ?_
  rw [compTurn_list]
  refine wpAny_bind (wpAny_standAt (wpAny_bind (wpAny_mono (turn n s hI) (fun r s₁ h₁ => ?_) fun _ _ h' => h'.elim)))
  cases r with
  | none => exact wpAny_pure h₁
  | some v =>
    refine wpAny_bind (wpAny_mono h₁ (fun _ s₂ h₂ => ?_) fun _ _ h' => h'.elim)
    refine wpAny_bind (wpAny_mono h₂ (fun _ s₃ h₃ => ?_) fun _ _ h' => h'.elim)
    refine wpAny_bind (wpAny_tests_nil ?_)
    exact wpAny_bind (wpAny_bind (wpAny_mono h₃ (fun x s₄ h₄ => wpAny_bind (wpAny_mono h₄ (fun _ s₅ h₅ => wpAny_pure (wpAny_pure ⟨rfl, h₅⟩)) fun _ _ h' => h'.elim)) fun _ _ h' => h'.elim))

/-- the context of a comprehension's block -/
def compCx (X : Cx) (Nc : List Str) (scope : Scope) (cl : List (Str × Addr)) (s3 : Shared) (H3 : Hp) (C : Addr) (ex : List Addr) : Cx :=
  { X with N := Nc, s₀ := s3, H₀ := H3, env := compEnvC scope cl C X.env, outer := X.stack, stack := X.stack, ex := ex, fn := fun _ => false, pn := [], xe := fun _ _ => False }

/-- what the block sees of the def's names -/
structure CapOk (X : Cx) (Nc : List Str) (n0 : Nat) (caps : List Nat) (scope : Scope) (cl : List (Str × Addr)) : Prop where
  sub : ∀ y c, cl.lookup y = some c → X.env.cells.lookup y = some c
  has : ∀ y, (relabel scope X.env).names.lookup y = some .cell ∨ (relabel scope X.env).names.lookup y = some .free → ∃ c, cl.lookup y = some c
  cap : ∀ (i j : Nat) (x : Str), Nc[n0 + i]? = some x → caps[i]? = some j → X.N[j]? = some x ∧ X.env.scope.names.lookup x = some .cell ∧ (relabel scope X.env).names.lookup x = some .cell
  len : Nc.length = n0 + caps.length

def lstObj : Obj := { cls := .type "list", dict := none, data := .seq ([] : List Value).toArray }
section
variable {X : Cx} {pins : List (Addr × Obj)} {σ : L2.St} {H2 : Hp} {s2 : Shared} {Nc : List Str} {n0 : Nat} {caps : List Nat} {scope : Scope} {cl : List (Str × Addr)} {fp : List Addr}
theorem comp_inv (I2 : Inv X pins σ H2 s2) (f2 : ∀ b ∈ fp, FpOk X pins H2 b) (hold : ∀ b ∈ fp, ∃ o, s2.heap.get? b = some o) (hkind : scope.kind = .function) (cap : CapOk X Nc n0 caps scope cl) {h1 : Heap} {m0 : Str → Option Value} {tk : Nat}
    (hns : h1.Ns (s2.heap.objs.size + 1) m0) (hold1 : ∀ b o, s2.heap.get? b = some o → h1.get? b = some o) (hD : h1.get? s2.heap.objs.size = some lstObj) :
    Inv (compCx X Nc scope cl { s2 with heap := s2.heap.push lstObj } (upd H2 s2.heap.objs.size (.lst [])) (s2.heap.objs.size + 1) fp) [] (List.replicate n0 none ++ caps.map fun j => (σ[j]?).join) (upd H2 s2.heap.objs.size (.lst [])) { s2 with heap := h1, toks := tk } := by
  have fresh : H2 s2.heap.objs.size = none := I2.hok.fresh (Nat.le_refl _)
  have freshC : H2 (s2.heap.objs.size + 1) = none := I2.hok.fresh (Nat.le_succ _)
  have sz : (s2.heap.push lstObj).objs.size = s2.heap.objs.size + 1 := Heap.size_push _ _
  have lt : ∀ {b : Addr} {o : Obj}, s2.heap.get? b = some o → b < s2.heap.objs.size := fun e => Heap.lt_size e
  have ne0 : ∀ {b : Addr} {o : Obj}, s2.heap.get? b = some o → b ≠ s2.heap.objs.size := fun e => Nat.ne_of_lt (lt e)
  have clt : ∀ y c, cl.lookup y = some c → c < s2.heap.objs.size := fun y c e => by
    obtain ⟨v, q⟩ := I2.cell y c (cap.sub y c e)
    exact q.lt
  have frl : ∀ b ∈ frs X.stack, b < s2.heap.objs.size := fun b hb => by
    obtain ⟨_, o, ho, _⟩ := I2.stack.mem hb
    exact lt ho
  have kp : ∀ b o, (s2.heap.push lstObj).get? b = some o → h1.get? b = some o := fun b o e => by
    by_cases hb : b = s2.heap.objs.size
    · subst hb
      rw [Heap.get?_push_size _ rfl] at e
      cases e
      exact hD
    · rw [Heap.get?_push_ne _ _ _ hb] at e
      exact hold1 b o e
  have hok3 : HOk X.prog X.w (upd H2 s2.heap.objs.size (.lst [])) h1 := I2.hok.laid hold1 (Nat.le_refl _) ⟨Nat.zero_le _, [], 0, .nil, hD⟩
  refine ⟨⟨I2.ok.mod, ?_, I2.ok.glob, I2.ok.blt, ?_, ?_, ?_, ?_, I2.ok.hd, I2.ok.frames, .inl rfl, ?_, ?_, ?_, ?_, ?_, ?_, ?_⟩, rfl, I2.bare, ?_, ⟨m0, hns, ?_⟩, ?_, ?_, ?_, ?_, hok3, ?_⟩
  · show (relabel scope X.env).kind = .function
    exact hkind
  · show (s2.heap.push lstObj).objs.size ≤ s2.heap.objs.size + 1
    rw [sz]; exact Nat.le_refl _
  · intro x y c h1 h2
    exact I2.ok.inj x y c (cap.sub x c h1) (cap.sub y c h2)
  · intro x h
    exact cap.has x h
  · intro x c h
    cases h
  · intro b hb
    refine ⟨?_, fun x c e => ?_⟩
    · obtain ⟨o, e⟩ := hold b hb
      exact Nat.ne_of_lt (Nat.lt_succ_of_lt (lt e))
    · exact (f2 b hb).2.2.2.2.1 x c (cap.sub x c e)
  · intro b o e
    obtain ⟨q1, q2⟩ := I2.bs b o e
    exact ⟨Heap.get?_push_of_some _ q1, (upd_ne (ne0 q1)).trans q2⟩
  · show X.base.objs.size ≤ (s2.heap.push lstObj).objs.size
    rw [sz]
    exact Nat.le_succ_of_le (Nat.le_trans I2.ok.bsz I2.sz)
  · intro b o e hb
    obtain ⟨_, _, _, f4, _, _⟩ := f2 b hb
    rcases f4 with z | z
    · exact I2.ok.noex b o e z
    · exact absurd (Nat.lt_of_lt_of_le (Nat.lt_of_lt_of_le (Heap.lt_size e) I2.ok.bsz) z) (Nat.lt_irrefl _)
  · intro b hb hz
    rcases List.mem_cons.mp (I2.stkSub b hz) with e | hz
    · exact (f2 b hb).2.1 e
    · exact (f2 b hb).2.2.1 hz
  · exact I2.stack.of_keeps fun b o e _ => ⟨o, Heap.get?_push_of_some _ e, rfl⟩
  · intro b hb
    show upd H2 s2.heap.objs.size (.lst []) b = none
    rw [upd_ne (Nat.ne_of_lt (frl b hb))]
    exact I2.stkFree b hb
  · exact Un.kept kp
  · intro i x v e1 e2 e3
    have hi : n0 ≤ i := by
      refine Nat.le_of_not_lt fun hlt => ?_
      rw [List.getElem?_append_left (by simpa using hlt), List.getElem?_replicate] at e2
      split at e2 <;> cases e2
    obtain ⟨k, rfl⟩ := Nat.exists_eq_add_of_le hi
    rw [List.getElem?_append_right (by simp), List.length_replicate, Nat.add_sub_cancel_left, List.getElem?_map] at e2
    cases ej : caps[k]? with
    | none => rw [ej] at e2; cases e2
    | some j =>
      rw [ej] at e2
      have e2 : (σ[j]?).join = some v := by simpa using e2
      have es : σ[j]? = some (some v) := by
        cases z : σ[j]? with
        | none => rw [z] at e2; cases e2
        | some q => rw [z] at e2; have : q = some v := e2; rw [this]
      obtain ⟨a1, a2, a3⟩ := cap.cap k j x e1 ej
      obtain ⟨m, hn, hl⟩ := I2.loc
      obtain ⟨u, ru, lk⟩ := hl j x v a1 es (.inr (.inl a2))
      refine ⟨u, ru, ?_⟩
      rcases lk with ⟨z, _⟩ | ⟨_, c, ec, cell⟩
      · have z : X.env.scope.names.lookup x = some .local := z
        rw [a2] at z; cases z
      · obtain ⟨c', ec'⟩ := cap.has x (.inl a3)
        have := cap.sub x c' ec'
        rw [ec] at this
        cases this
        obtain ⟨o, ho, hd⟩ := cell
        exact .inr ⟨.inl a3, c, ec', o, hold1 _ _ ho, hd⟩
  · intro x c e
    obtain ⟨v, o, ho, hd⟩ := I2.cell x c (cap.sub x c e)
    exact ⟨v, o, hold1 _ _ ho, hd⟩
  · show upd H2 s2.heap.objs.size (.lst []) (s2.heap.objs.size + 1) = none
    rw [upd_ne (Nat.ne_of_gt (Nat.lt_succ_self _))]
    exact freshC
  · intro x c e
    show upd H2 s2.heap.objs.size (.lst []) c = none
    rw [upd_ne (Nat.ne_of_lt (clt x c e))]
    exact I2.freeC x c (cap.sub x c e)
  · intro p hp
    exact absurd (show p ∈ ([] : List (Addr × Obj)) from hp) (by simp)
  · rw [List.length_append, List.length_replicate, List.length_map]
    exact cap.len.symm

/-- back from the block -/
theorem comp_back (I2 : Inv X pins σ H2 s2) (f2 : ∀ b ∈ fp, FpOk X pins H2 b) {σ' : L2.St} {H' : Hp} {s' : Shared} {h' : Heap}
    (J : Inv (compCx X Nc scope cl { s2 with heap := s2.heap.push lstObj } (upd H2 s2.heap.objs.size (.lst [])) (s2.heap.objs.size + 1) fp) [] σ' H' s') (sb : Heap.SameBut (s2.heap.objs.size + 1) s'.heap h') :
    Inv X pins σ H' { s' with heap := h' } := by
  have I3 : Inv X pins σ (upd H2 s2.heap.objs.size (.lst [])) { s2 with heap := s2.heap.push lstObj } := I2.laid (t' := s2.toks) (fun b u e => Heap.get?_push_of_some _ e) (Nat.le_refl _) ⟨Nat.zero_le _, [], 0, .nil, Heap.get?_push_size _ rfl⟩
  have sz : (s2.heap.push lstObj).objs.size = s2.heap.objs.size + 1 := Heap.size_push _ _
  have same : ∀ {b : Addr} {o : Obj}, (s2.heap.push lstObj).get? b = some o → h'.get? b = s'.heap.get? b := fun {b o} e => sb.2 b (by
    have := Heap.lt_size e
    rw [sz] at this
    exact Nat.ne_of_lt this)
  have u : Un (frs X.stack) fp (upd H2 s2.heap.objs.size (.lst [])) H' (s2.heap.push lstObj) s'.heap := J.base
  refine I3.call' (s' := { s' with heap := h' }) (ch := fp) J.os ⟨fun b o e n h1 h2 => ?_, fun b o e n h1 h2 => ?_, u.free, fun b o e h1 => ?_, u.tups, u.frzs, u.tbls⟩ (fun b ob e => ?_) J.bare fun b hb => ?_
  · show h'.get? b = _
    rw [same e]; exact u.keep b o e n h1 h2
  · show ∃ sl, h'.get? b = _
    rw [same e]; exact u.slot b o e n h1 h2
  · show ∃ o', h'.get? b = _
    rw [same e]; exact u.there b o e h1
  · have fr : H' (s2.heap.objs.size + 1) = none := J.free
    refine (J.hok b ob e).stay (fun c w hc q => ?_) (fun _ q => q) fun _ _ q => q
    refine (sb.2 c ?_).trans q
    rintro rfl
    rcases hc with rfl | hc
    · rw [fr] at e; cases e
    · rw [fr] at hc; cases hc
  · obtain ⟨f0, f1, _, f3, f4, f5⟩ := f2 b hb
    exact ⟨f3, f1, f4, f5⟩
end

def capS : Option S → Option S
  | some (.im d) => some (.im d)
  | _ => none
def sdC (n0 : Nat) (caps : List Nat) (sd : DSt) : DSt := List.replicate n0 none ++ caps.map fun j => capS (sd[j]?).join
def mapD (gt : D → DSt → M DSt) (fe : DSt → M D) (sd0 : DSt) : List D → M (List D)
  | [] => .ok []
  | d :: ds => match gt d sd0 with
    | .ok sd1 => match fe sd1 with
      | .ok e => match mapD gt fe sd0 ds with
        | .ok es => .ok (e :: es)
        | _ => .bad
      | _ => .bad
    | _ => .bad
def fComp (fi : DSt → M (List D)) (n0 : Nat) (caps : List Nat) (gt : D → DSt → M DSt) (fe : DSt → M D) (sd : DSt) : M (List D) := (fi sd).bind fun ds => if few ds then mapD gt fe (sdC n0 caps sd) ds else .bad
/-! ### an expression whose value is a new list -/
def PoF (K : PySem.W.Frag) (E : XK) (Hf H : Hp) (r : M (List D)) (Q : VK) : Prop := match r with
  | .ok ds => ∀ p xs Hf' H', Gr Hf H Hf' H' → H p = none → Hf' p = none → H' p = some (.lst xs) → Reps K Hf' ds xs → Q (.ref p) H'
  | .ex x => ∀ c dx Hf' H', Gr Hf H Hf' H' → RepX K Hf' H' x c dx → E c dx H'
  | .bad => False
def PFd (X : Cx) (E : XK) (e : Expr) (f : DSt → M (List D)) : Prop :=
  ∃ t : TE, PE X e t ∧ ∀ (H0 : Hp) (B : Addr → Prop) (Hf : Hp) (sd : DSt) (σ : L2.St) (H : Hp) (Q : VK), SR X.K H0 B Hf sd σ H → PoF X.K E Hf H (f sd) Q → t σ H Q
theorem PoF.weak {K : PySem.W.Frag} {E : XK} {Hf H Hf1 H1 : Hp} {r : M (List D)} {Q : VK} (g : Gr Hf H Hf1 H1) (h : PoF K E Hf H r Q) : PoF K E Hf1 H1 r Q := by
  cases r with
  | ok a => exact fun p xs Hf' H' g' e1 e2 e3 e4 => h p xs Hf' H' (g.trans g') (g.all.free e1) e2 e3 e4
  | ex x => exact fun c dx Hf' H' g' q => h c dx Hf' H' (g.trans g') q
  | bad => exact h
theorem PoF.bind {K : PySem.W.Frag} {E : XK} {Hf H : Hp} {α β : Type} {R : Hp → Hp → α → β → Prop} {r : M α} {k : α → M (List D)} {Q : VK} {Q1 : β → Hp → Prop} (h : PoF K E Hf H (r.bind k) Q)
    (s : ∀ a b Hf1 H1, r = .ok a → Gr Hf H Hf1 H1 → R Hf1 H1 a b → PoF K E Hf1 H1 (k a) Q → Q1 b H1) : Po K E R Hf H r Q1 := by
  cases r with
  | ok a => exact fun b Hf' H' g q => s a b Hf' H' rfl g q (PoF.weak g h)
  | ex x => exact h
  | bad => exact h
def eNew (f : DSt → M (List D)) (sd : DSt) : M D := (f sd).bind fun ds => .ok (.lst ds)
/-- the new list frozen at once -/
theorem pd_new {X : Cx} {E : XK} {e : Expr} {f : DSt → M (List D)} (h : PFd X E e f) : PEd X E e (eNew f) := by
  obtain ⟨t, p, q⟩ := h
  refine ⟨t, p, fun H0 B Hf sd σ H Q sr h => q H0 B Hf sd σ H Q sr ?_⟩
  unfold eNew at h
  cases e : f sd with
  | ok ds =>
    rw [e] at h
    intro p xs Hf' H' g e1 e2 e3 e4
    refine h _ (upd Hf' p (.lst xs)) H' ⟨g.fz.trans (same_upd e2 _), fun b u z => ?_, g.all, fun a h1 h2 => ?_⟩ (rep_lst.mpr ⟨p, xs, rfl, SqL.of upd_same, e4.mono (same_upd e2 _)⟩)
    · by_cases hb : b = p
      · subst hb; rw [upd_same] at z; rw [e3]; exact z
      · rw [upd_ne hb] at z; exact g.sub b u z
    · have : a ≠ p := fun z => h1 (z ▸ e1)
      rw [upd_ne this]; exact g.ban a h1 h2
  | ex x => rw [e] at h; exact h
  | bad => rw [e] at h; exact h
theorem mapD_noex {gt : D → DSt → M DSt} {fe : DSt → M D} {sd0 : DSt} {x : XV} : ∀ {ds : List D}, mapD gt fe sd0 ds = .ex x → False
  | [], h => by cases h
  | d :: ds, h => by
    unfold mapD at h
    split at h
    · split at h
      · split at h <;> cases h
      · cases h
    · cases h
theorem SR.ofIm {K : PySem.W.Frag} {Hf H : Hp} {sd : DSt} {σ : L2.St} (e : Same Hf H) (hl : sd.length = σ.length) (him : ∀ (i : Nat) (d : D), sd[i]? = some (some (.im d)) → ∃ v, σ[i]? = some (some v) ∧ Rep K Hf d v) (hno : ∀ (i : Nat) (t : S), sd[i]? = some (some t) → ∃ d, t = .im d) :
    SR K H (fun a => H a ≠ none ∧ Hf a = none) Hf sd σ H :=
  ⟨e, Same.refl _, fun _ h => h.2, fun _ h => h.1, hl, fun i t h _ => (by obtain ⟨d, rfl⟩ := hno i t h; exact him i d h), fun i t h ho => (by obtain ⟨d, rfl⟩ := hno i t h; cases ho), fun i _ t _ _ _ h ho _ _ _ _ => (by obtain ⟨d, rfl⟩ := hno i t h; cases ho)⟩
theorem sdC_lt {n0 : Nat} {caps : List Nat} {sd : DSt} {i : Nat} {s : S} (h : (sdC n0 caps sd)[i]? = some (some s)) : n0 ≤ i := by
  refine Nat.le_of_not_lt fun hlt => ?_
  unfold sdC at h
  rw [List.getElem?_append_left (by simpa using hlt), List.getElem?_replicate] at h
  split at h <;> cases h
theorem sdC_at {n0 : Nat} {caps : List Nat} {sd : DSt} {i : Nat} {s : S} (h : (sdC n0 caps sd)[i]? = some (some s)) : ∃ k j d, i = n0 + k ∧ caps[k]? = some j ∧ sd[j]? = some (some (.im d)) ∧ s = .im d := by
  obtain ⟨k, rfl⟩ := Nat.exists_eq_add_of_le (sdC_lt h)
  unfold sdC at h
  rw [List.getElem?_append_right (by simp), List.length_replicate, Nat.add_sub_cancel_left, List.getElem?_map] at h
  cases ej : caps[k]? with
  | none => rw [ej] at h; cases h
  | some j =>
    rw [ej] at h
    have h : capS (sd[j]?).join = some s := by simpa using h
    cases z : sd[j]? with
    | none => rw [z] at h; cases h
    | some q =>
      rw [z] at h
      cases q with
      | none => cases h
      | some q =>
        cases q with
        | im d => cases h; exact ⟨k, j, d, rfl, ej, z, rfl⟩
        | ow _ => cases h
        | od _ => cases h
        | dk _ => cases h
        | xc _ => cases h
theorem sdC_no {n0 : Nat} {caps : List Nat} {sd : DSt} (i : Nat) (t : S) (h : (sdC n0 caps sd)[i]? = some (some t)) : ∃ d, t = .im d := by
  obtain ⟨_, _, d, _, _, _, e⟩ := sdC_at h
  exact ⟨d, e⟩
/-- the targets of a comprehension's block touch the first n0 names alone -/
def Keep (n0 : Nat) (gt : D → DSt → M DSt) : Prop := ∀ d sd sd1, gt d sd = .ok sd1 → sd1.length = sd.length ∧ (∀ i : Nat, n0 ≤ i → sd1[i]? = sd[i]?) ∧ True
theorem keep_name {n0 k : Nat} (h : k < n0) : Keep n0 (gNm k) := fun d sd sd1 e => by
  cases e
  exact ⟨List.length_set, fun i hi => List.getElem?_set_ne (by omega), trivial⟩

theorem pfd_comp {X : Cx} {E : XK} {pos : Pos} {tg elt iter : Expr} {scope : Scope} {Nc : List Str} {n0 : Nat} {caps : List Nat} {cl : List (Str × Addr)} {fi : DSt → M (List D)} {gt : D → DSt → M DSt} {fe : DSt → M D}
    (hc : X.calm = true) (hclos : closureFor scope X.env = pure cl) (cap : CapOk X Nc n0 caps scope cl) (hkind : scope.kind = .function) (hcell : ∀ y ∈ scope.names, y.2 ≠ .cell) (hnames : ∀ y ∈ scope.names, y.2 = .local → scope.names.lookup y.1 = some .local)
    (hk : Keep n0 gt) (hi : PId X E tg iter fi) (hg : ∀ s3 H3 C ex, PGd (compCx X Nc scope cl s3 H3 C ex) tg gt) (he : ∀ s3 H3 C ex, PEd (compCx X Nc scope cl s3 H3 C ex) E0 elt fe)
    (hs : ∀ x, foldedSetIterable iter X.env x = pure x := by intro _; rfl) :
    PFd X E (.ListComp elt [⟨tg, iter, [], 0⟩] scope pos) (fComp fi n0 caps gt fe) := by
  refine ⟨fun σ H Q => ∃ H0 B Hf sd, SR X.K H0 B Hf sd σ H ∧ PoF X.K E Hf H (fComp fi n0 caps gt fe sd) Q, ?_, fun H0 B Hf sd σ H Q sr h => ⟨H0, B, Hf, sd, sr, h⟩⟩
  rintro pins s σ H Q I ⟨H0, B, Hf, sd, sr, h⟩
  obtain ⟨wi, pw, qw⟩ := hi
  rw [eval_ListComp]
  refine wpAny_comprehension_free (use := none) rfl hs hclos hkind hnames ?_
  have step := pw pins s σ H (fun J H2 => ∃ ds Hf2, Gr Hf H Hf2 H2 ∧ ItOk X.K Hf2 H2 ds J ∧ PoF X.K E Hf2 H2 (if few ds then mapD gt fe (sdC n0 caps sd) ds else .bad) Q) I
    (qw H0 B Hf sd σ H _ sr (PoF.bind h fun ds J Hf2 H2 _ g2 jok h2 => ⟨ds, Hf2, g2, jok, h2⟩))
  refine thn step fun v s1 h1 => thn h1 fun itv s2 h2 => ?_
  obtain ⟨it, fp, tn, J, H2, rfl, I2, T, st2, f2, ds, Hf2, g2, jok, hq⟩ := h2
  have sr2 := sr.gr g2
  split at hq
  case isFalse => exact hq.elim
  case isTrue hfew =>
  have fresh : H2 s2.heap.objs.size = none := I2.hok.fresh (Nat.le_refl _)
  have holdf : ∀ b ∈ fp, ∃ o, s2.heap.get? b = some o := fun b hb => let ⟨o, e, _⟩ := T.obj 0 _ st2 b hb; ⟨o, e⟩
  refine wpAny_newObj_type (wpAny_newFunctionEnv hcell (by intro y hy; simp at hy) (fun h₁ hns₁ hsb₁ => ?_) hkind)
  have hC : (s2.heap.push lstObj).objs.size = s2.heap.objs.size + 1 := Heap.size_push _ _
  have hns : h₁.Ns (s2.heap.objs.size + 1) (fun x => ([] : List (Str × Value)).reverse.lookup x) := hC ▸ hns₁
  have hsb : Heap.SameBut (s2.heap.objs.size + 1) ((s2.heap.push lstObj).push { cls := .type "dict", data := .dict #[] }) h₁ := hC ▸ hsb₁
  have hold1 : ∀ b o, s2.heap.get? b = some o → h₁.get? b = some o := fun b o e => by
    have hb : b < s2.heap.objs.size := Heap.lt_size e
    exact (hsb.2 b (Nat.ne_of_lt (Nat.lt_succ_of_lt hb))).trans (Heap.get?_push_of_some _ (Heap.get?_push_of_some _ e))
  have hD : h₁.get? s2.heap.objs.size = some lstObj := (hsb.2 _ (Nat.ne_of_lt (Nat.lt_succ_self _))).trans (Heap.get?_push_of_some _ (Heap.get?_push_size _ rfl))
  have J0 := comp_inv I2 f2 holdf hkind cap (tk := s2.toks + ([] : List (Str × Value)).length) hns hold1 hD
  have hg := hg { s2 with heap := s2.heap.push lstObj } (upd H2 s2.heap.objs.size (.lst [])) (s2.heap.objs.size + 1) fp
  have he := he { s2 with heap := s2.heap.push lstObj } (upd H2 s2.heap.objs.size (.lst [])) (s2.heap.objs.size + 1) fp
  -- the block's context
  generalize hXc : compCx X Nc scope cl { s2 with heap := s2.heap.push lstObj } (upd H2 s2.heap.objs.size (.lst [])) (s2.heap.objs.size + 1) fp = Xc at J0 hg he
  have eP : Xc.prog = X.prog := by subst hXc; rfl
  have eW : Xc.w = X.w := by subst hXc; rfl
  have eK : Xc.K = X.K := by subst hXc; rfl
  have eA : Xc.A = X.A := by subst hXc; rfl
  have eX : Xc.xe = fun _ _ => False := by subst hXc; rfl
  have eE : Xc.env = compEnvC scope cl (s2.heap.objs.size + 1) X.env := by subst hXc; rfl
  have eC : Xc.calm = true := by subst hXc; exact hc
  have fpc : ∀ {H' : Hp}, (∀ b ∈ fp, H' b = none) → ∀ b ∈ fp, FpOk Xc [] H' b := fun {H'} hn b hb => by
    subst hXc
    obtain ⟨f0, f1, f2', f3, f4, f5⟩ := f2 b hb
    obtain ⟨o, eo⟩ := holdf b hb
    refine ⟨hn b hb, Nat.ne_of_lt (Nat.lt_succ_of_lt (Heap.lt_size eo)), fun hz => ?_, .inl hb, fun x c e => f4 x c (cap.sub x c e), fun p hp => absurd (show p ∈ ([] : List (Addr × Obj)) from hp) (by simp)⟩
    rcases List.mem_cons.mp (I2.stkSub b hz) with e | hz
    · exact f1 e
    · exact f2' hz
  have nfp : ∀ b ∈ fp, b ≠ s2.heap.objs.size := fun b hb => by
    obtain ⟨o, eo⟩ := holdf b hb
    exact Nat.ne_of_lt (Heap.lt_size eo)
  obtain ⟨tg', pg, qg⟩ := hg
  obtain ⟨te, pe, qe⟩ := he
  have loop : ∀ s₃ : Shared, s₃ = { s2 with heap := h₁, toks := s2.toks + ([] : List (Str × Value)).length } →
      codeAny (model X.prog X.w) X.A (.compLoop (.ListComp elt [⟨tg, iter, [], 0⟩] scope pos) 0 (.ref it) (.ref s2.heap.objs.size) (compEnvC scope cl (s2.heap.objs.size + 1) X.env))
        (compPost (model X.prog X.w) X.A X.xe none (EP X pins σ Q) (.ref s2.heap.objs.size) (s2.heap.objs.size + 1)) s₃ := by
    rintro s₃ rfl
    refine codeAny_comp_any (fun n s' => ∃ i vs es H' Hf' σ', n = ds.length - i ∧ i ≤ ds.length ∧ Inv Xc [] σ' H' s' ∧ tn i s'.heap ∧ (∀ b ∈ fp, H' b = none) ∧
      H' s2.heap.objs.size = some (.lst vs) ∧ Hf' s2.heap.objs.size = none ∧ Gr Hf2 H2 Hf' H' ∧ Reps X.K Hf' es vs ∧ vs.length = i ∧
      (sdC n0 caps sd).length = σ'.length ∧ (∀ (j : Nat) (d : D), (sdC n0 caps sd)[j]? = some (some (.im d)) → ∃ v, σ'[j]? = some (some v) ∧ Rep X.K Hf' d v) ∧
      PoF X.K E Hf2 H2 ((mapD gt fe (sdC n0 caps sd) (ds.drop i)).bind fun fs => .ok (es ++ fs)) Q) ?_ ds.length ?_
    · rintro n s' ⟨i, vs, es, H', Hf', σ', rfl, hil, J1, st1, fr1, hd1, hf1, g1, rs1, hl1, hlen1, him1, hq1⟩
      have jj := jok i Hf' H' g1.fz g1.sub
      cases q : ds[i]? with
      | none =>
        rw [q] at jj
        have tdone := T.done Xc eP eW eK eC i [] s' _ H' (fun _ _ => False) J1 (fpc fr1) st1 jj
        rw [eA] at tdone
        refine wpAny_mono tdone (fun r s4 hr => ?_) fun _ _ z => z
        obtain ⟨rfl, J4⟩ := hr
        rw [List.drop_eq_nil_of_le (List.getElem?_eq_none_iff.mp q)] at hq1
        subst hXc
        obtain ⟨m, hn4, _⟩ := J4.loc
        refine ⟨m, hn4, fun h' sb => ?_⟩
        refine ⟨.ref s2.heap.objs.size, H', comp_back I2 f2 J4 sb, rfl, ?_⟩
        have hq2 : PoF X.K E Hf2 H2 (.ok es) Q := by
          have : es ++ ([] : List D) = es := List.append_nil es
          rw [← this]; exact hq1
        exact hq2 _ vs Hf' H' g1 fresh hf1 hd1 rs1
      | some d =>
        rw [q] at jj
        obtain ⟨go, yl⟩ := jj
        have hlt : i < ds.length := (List.getElem?_eq_some_iff.mp q).1
        have hdr : ds.drop i = d :: ds.drop (i + 1) := by
          rw [List.drop_eq_getElem_cons hlt]
          congr 1
          exact (List.getElem?_eq_some_iff.mp q).2
        -- the element's data
        obtain ⟨sd1, e1, eg, ee, hq2⟩ : ∃ sd1 e1, gt d (sdC n0 caps sd) = .ok sd1 ∧ fe sd1 = .ok e1 ∧ PoF X.K E Hf2 H2 ((mapD gt fe (sdC n0 caps sd) (ds.drop (i + 1))).bind fun fs => .ok ((es ++ [e1]) ++ fs)) Q := by
          rw [hdr] at hq1
          unfold mapD at hq1
          split at hq1
          · rename_i sd1 eg
            split at hq1
            · rename_i e1 ee
              refine ⟨sd1, e1, eg, ee, ?_⟩
              cases em : mapD gt fe (sdC n0 caps sd) (ds.drop (i + 1)) with
              | ok fs =>
                rw [em] at hq1
                have : (es ++ [e1]) ++ fs = es ++ e1 :: fs := by simp
                rw [M.bind_ok, this]
                exact hq1
              | ex x => exact (mapD_noex em).elim
              | bad => rw [em] at hq1; exact hq1.elim
            · exact hq1.elim
          · exact hq1.elim
        have titem := T.item Xc eP eW eK eC i [] s' _ H' (fun _ _ => False) J1 (fpc fr1) st1 go
        rw [eA] at titem
        refine wpAny_mono titem (fun r s4 hr => ?_) fun _ _ z => z
        obtain ⟨u, rfl, h4⟩ := hr
        refine wpAny_mono h4 (fun _ s5 h5 => ?_) fun _ _ z => z
        obtain ⟨x, H5, J5, r5, y5, st5, fr5⟩ := h5
        obtain ⟨Hf5, g5, rx⟩ := yl x H5 y5
        have J5' := J5.pinned (fpc fr5) (T.obj _ _ st5)
        have hD5 : H5 s2.heap.objs.size = some (.lst vs) := g5.all _ _ hd1
        have hf5 : Hf5 s2.heap.objs.size = none := g5.ban _ (by rw [hd1]; simp) hf1
        have him5 : ∀ (j : Nat) (d : D), (sdC n0 caps sd)[j]? = some (some (.im d)) → ∃ v, σ'[j]? = some (some v) ∧ Rep X.K Hf5 d v := fun j d z => let ⟨v, z1, z2⟩ := him1 j d z; ⟨v, z1, z2.mono g5.fz⟩
        have sr5 : SR Xc.K H5 (fun a => H5 a ≠ none ∧ Hf5 a = none) Hf5 (sdC n0 caps sd) σ' H5 := eK ▸ SR.ofIm g5.sub hlen1 him5 sdC_no
        obtain ⟨kl, kk, kn⟩ := hk d _ sd1 eg
        have hg2 := pg _ s5 σ' H5 x u (fun σ6 H6 => te σ6 H6 fun v7 H7 => ∃ Hf7, Gr Hf5 H5 Hf7 H7 ∧ Rep X.K Hf7 e1 v7 ∧ (sdC n0 caps sd).length = σ6.length ∧ (∀ (j : Nat) (d : D), (sdC n0 caps sd)[j]? = some (some (.im d)) → ∃ v, σ6[j]? = some (some v) ∧ Rep X.K Hf7 d v)) J5' r5
          (qg H5 _ Hf5 _ σ' H5 x d sd1 _ sr5 (eK ▸ rx) eg fun σ6 sr6 => qe H5 _ Hf5 sd1 σ6 H5 _ sr6 (by
            rw [ee]
            intro v7 Hf7 H7 g7 r7
            have r7 : Rep Xc.K Hf7 e1 v7 := r7
            rw [eK] at r7
            refine ⟨Hf7, g7, r7, by rw [← kl]; exact sr6.len, fun j d z => ?_⟩
            have z2 : sd1[j]? = some (some (.im d)) := by rw [kk j (sdC_lt z)]; exact z
            obtain ⟨v, z3, z4⟩ := sr6.im j d z2
            rw [eK] at z4
            exact ⟨v, z3, z4.mono g7.fz⟩))
        rw [eP, eW, eA, eX, eE] at hg2
        refine wpAny_mono hg2 (fun _ s6 h6 => ?_) fun _ _ z => z
        obtain ⟨σ6, H6, J6, q6⟩ := h6
        have he2 := pe _ s6 σ6 H6 _ J6 q6
        rw [eP, eW, eA, eX, eE] at he2
        refine wpAny_mono he2 (fun y s7 h7 => ?_) fun _ _ z => z
        obtain ⟨v7, H7, J7, r7, Hf7, g7, rv7, hl7, him7⟩ := h7
        have hD7 : H7 s2.heap.objs.size = some (.lst vs) := g7.all _ _ hD5
        have hf7 : Hf7 s2.heap.objs.size = none := g7.ban _ (by rw [hD5]; simp) hf5
        have happ := mt_append (X := Xc) _ s7 σ6 H7 (.ref s2.heap.objs.size) [v7] (.ref s2.heap.objs.size) [y] (fun _ H8 => H8 = upd H7 s2.heap.objs.size (.lst (vs ++ [v7]))) J7 rfl (.cons r7 .nil)
          ⟨_, vs, v7, rfl, rfl, hD7, by
            have h1 := of_decide_eq_true hfew
            have h2 := sizeLine_eq
            omega, rfl⟩
        rw [eP, eW, eA, eX] at happ
        refine wpAny_mono happ (fun _ s8 h8 => ?_) fun _ _ z => z
        obtain ⟨_, H8, J8, _, e8⟩ := h8
        subst e8
        have g17 := (g1.trans g5).trans g7
        refine ⟨ds.length - (i + 1), by omega, i + 1, vs ++ [v7], es ++ [e1], _, Hf7, σ6, rfl, hlt, J8.unpinned, ?_, fun b hb => ?_, upd_same, hf7, ⟨g17.fz, fun b o z => ?_, fun b o z => ?_, g17.ban⟩, ?_, by rw [List.length_append, hl1]; rfl, hl7, him7, hq2⟩
        · exact T.keep _ _ _ st5 fun b hb o e => (J8.pin (b, o) (List.mem_append_right _ (List.mem_append_right _ (mem_pinsAt hb e)))).1
        · obtain ⟨o, e, _⟩ := T.obj _ _ st5 b hb
          exact (J8.pin (b, o) (List.mem_append_right _ (List.mem_append_right _ (mem_pinsAt hb e)))).2.1
        · have : b ≠ s2.heap.objs.size := ne_of_none z hf7
          rw [upd_ne this]; exact g17.sub b o z
        · have : b ≠ s2.heap.objs.size := ne_of_none z fresh
          rw [upd_ne this]; exact g17.all b o z
        · exact (rs1.mono (g5.fz.trans g7.fz)).append (Reps.cons rv7 Reps.nil)
    · refine ⟨0, [], [], _, Hf2, _, by simp, Nat.zero_le _, J0, T.keep 0 _ _ st2 fun b hb o e => hold1 b o e, fun b hb => ?_, upd_same, g2.sub.free fresh, ⟨Same.refl _, fun b o z => ?_, same_upd fresh _, fun _ _ z => z⟩, Reps.nil, rfl, ?_, fun j d z => ?_, ?_⟩
      · rw [upd_ne (nfp b hb)]; exact (f2 b hb).1
      · have : b ≠ s2.heap.objs.size := ne_of_none (g2.sub b o z) fresh
        rw [upd_ne this]; exact g2.sub b o z
      · unfold sdC; simp only [List.length_append, List.length_replicate, List.length_map]
      · obtain ⟨k, j', d', rfl, ej, es, ed⟩ := sdC_at z
        cases ed
        obtain ⟨v, z1, z2⟩ := sr2.im j' d es
        refine ⟨v, ?_, z2⟩
        rw [List.getElem?_append_right (by simp), List.length_replicate, Nat.add_sub_cancel_left, List.getElem?_map, ej]
        simp [z1]
      · have : ∀ r : M (List D), (r.bind fun fs => .ok ([] ++ fs)) = r := fun r => by cases r <;> simp
        rw [List.drop_zero, this]
        exact hq
  show codeAny (model X.prog X.w) X.A (.compStart (.ListComp elt [⟨tg, iter, [], 0⟩] scope pos) 0 (.ref it) (.ref s2.heap.objs.size) (compEnvC scope cl (s2.heap.push lstObj).objs.size X.env))
    (compPost (model X.prog X.w) X.A X.xe none (EP X pins σ Q) (.ref s2.heap.objs.size) (s2.heap.push lstObj).objs.size) { s2 with heap := h₁, toks := s2.toks + ([] : List (Str × Value)).length }
  rw [hC]
  exact codeAny_compStart_list (loop _ rfl) (T.self X.A 0 _ _ _ (T.keep 0 _ _ st2 fun b hb o e => hold1 b o e) (loop _ rfl))
/-- a block that sees none of the def's names -/
theorem cap0 {X : Cx} {Nc : List Str} {n0 : Nat} {scope : Scope} (hn : Nc.length = n0) (h : ∀ y ∈ scope.names, y.2 ≠ .cell ∧ y.2 ≠ .free) : CapOk X Nc n0 [] scope [] := by
  have key : ∀ (l : List (Str × NameKind)) (y : Str) (k : NameKind), (∀ p ∈ l, p.2 ≠ .cell ∧ p.2 ≠ .free) → (l.map fun (n, k) => if (k == NameKind.free && X.env.scope.kind == .function && X.env.kindOf n == some .cell) then (n, NameKind.cell) else (n, k)).lookup y = some k → k ≠ .cell ∧ k ≠ .free := by
    intro l y k
    induction l with
    | nil => intro _ e; cases e
    | cons p r ih =>
      intro hp e
      obtain ⟨n, kk⟩ := p
      have h0 := hp (n, kk) List.mem_cons_self
      have hf : (kk == NameKind.free) = false := by
        have := h0.2
        cases kk <;> first | rfl | exact absurd rfl this
      rw [List.map_cons] at e
      simp only [hf, Bool.false_and, Bool.false_eq_true, if_false, List.lookup_cons] at e
      split at e
      · cases e; exact h0
      · exact ih (fun q hq => hp q (List.mem_cons_of_mem _ hq)) e
  refine ⟨fun y c e => (nomatch e), fun y e => ?_, fun i j x _ e => by simp at e, by simpa using hn⟩
  rcases e with e | e
  · exact absurd rfl (key _ y _ h e).1
  · exact absurd rfl (key _ y _ h e).2
end DL

set_option maxHeartbeats 4000000

namespace DL
open PySem PySem.Spec PyProof.Rows L2

/-! ### lists of our own -/
section
variable {X : Cx} {E : XK} {pos : Pos} {a b : Expr}
def fLst (fs : DSt → M (List D)) (sd : DSt) : M (List D) := (fs sd).bind fun ds => if few ds then .ok ds else .bad
theorem pfd_lst {es : List Expr} {fs : DSt → M (List D)} (h : PAd X E es fs) : PFd X E (.List es pos) (fLst fs) := by
  obtain ⟨t, p, q⟩ := h
  refine ⟨_, pe_lst p, fun H0 B Hf sd σ H Q sr h => ?_⟩
  refine q H0 B Hf sd σ H _ sr (PoF.bind h fun ds vs Hf1 H1 _ g1 rs h1 => ?_)
  split at h1
  · rename_i hf
    refine ⟨few_line hf rs, fun p hp => h1 p vs Hf1 _ ⟨Same.refl _, g1.sub.trans (same_upd hp _), same_upd hp _, fun _ _ e => e⟩ hp (g1.sub.free hp) upd_same rs⟩
  · exact h1.elim
theorem PoS.bindF {K : PySem.W.Frag} {E : XK} {H0 Hf H : Hp} {B : Addr → Prop} {sd : DSt} {σ : L2.St} {r : M (List D)} {k : List D → M O} {D' : Ends} {Q1 : VK} (sr : SR K H0 B Hf sd σ H) (h : PoS K E H0 B Hf (r.bind k) D')
    (s : ∀ ds p xs Hf1 H1, r = .ok ds → Gr Hf H Hf1 H1 → SR K H0 B Hf1 sd σ H1 → H p = none → Hf1 p = none → H1 p = some (.lst xs) → Reps K Hf1 ds xs → PoS K E H0 B Hf1 (k ds) D' → Q1 (.ref p) H1) : PoF K E Hf H r Q1 := by
  cases r with
  | ok ds => exact fun p xs Hf' H' g e1 e2 e3 e4 => s ds p xs Hf' H' rfl g (sr.gr g) e1 e2 e3 e4 (PoS.weak g.fz h)
  | ex x => exact fun c dx Hf' H' g q => h c dx Hf' H' g.fz (sr.gr g).fin q
  | bad => exact h
/-- an object that is new since H, not frozen -/
theorem SR.set_new {K : PySem.W.Frag} {H0 Hf H H1 : Hp} {B : Addr → Prop} {sd : DSt} {σ : L2.St} (r0 : SR K H0 B Hf sd σ H) {Hf1 : Hp} (r : SR K H0 B Hf1 sd σ H1) (g : Same H H1) (i : Nat) {p : Addr} {t : S} (hp : H p = none) (hf : Hf1 p = none) (ho : t.own = true) (h : S.at K Hf1 H1 p t) :
    SR K H0 B Hf1 (sd.set i (some t)) (σ.set i (some (.ref p))) H1 where
  sub := r.sub
  all := r.all
  ban := r.ban
  bt := r.bt
  len := by rw [List.length_set, List.length_set]; exact r.len
  imS := fun j d' e z => by
    by_cases hj : i = j
    · subst hj
      have hi : i < sd.length := by
        have := (List.getElem?_eq_some_iff.mp e).1; simpa using this
      rw [List.getElem?_set_self hi] at e
      cases e
      rw [ho] at z; cases z
    · rw [List.getElem?_set_ne hj] at e ⊢
      exact r.imS j d' e z
  ow := fun j u e hu => by
    by_cases hj : i = j
    · subst hj
      have hi : i < sd.length := by
        have := (List.getElem?_eq_some_iff.mp e).1; simpa using this
      rw [List.getElem?_set_self hi] at e
      cases e
      exact ⟨p, by rw [List.getElem?_set_self (by rw [← r.len]; exact hi)], r0.all.free hp, hf, h⟩
    · rw [List.getElem?_set_ne hj] at e ⊢
      exact r.ow j u e hu
  sep := fun j k u w q hjk e1 o1 e2 o2 e3 e4 => by
    have new : ∀ {l : Nat}, i = l → (σ.set i (some (V.ref p)))[l]? = some (some (.ref q)) → q = p := fun {l} z e => by
      subst z
      have hi : i < σ.length := by
        have := (List.getElem?_eq_some_iff.mp e).1; simpa using this
      rw [List.getElem?_set_self hi] at e
      cases e; rfl
    have old : ∀ {l : Nat} {u : S}, i ≠ l → (sd.set i (some t))[l]? = some (some u) → u.own = true → (σ.set i (some (V.ref p)))[l]? = some (some (.ref q)) → q ≠ p := fun {l u} n e ou z => by
      rw [List.getElem?_set_ne n] at e z
      obtain ⟨q', e1, _, _, e4⟩ := r0.ow l u e ou
      rw [z] at e1
      cases e1
      obtain ⟨o, eo⟩ := at_some e4
      exact ne_of_none eo hp
    by_cases n1 : i = j
    · have n2 : i ≠ k := fun z => hjk (n1.symm.trans z)
      exact old n2 e2 o2 e4 (new n1 e3)
    · by_cases n2 : i = k
      · exact old n1 e1 o1 e3 (new n2 e4)
      · rw [List.getElem?_set_ne n1] at e1 e3
        rw [List.getElem?_set_ne n2] at e2 e4
        exact r.sep j k u w q hjk e1 o1 e2 o2 e3 e4
/-- x = a new list, that may change -/
def sOwn (i : Nat) (f : DSt → M (List D)) (sd : DSt) : M O := (f sd).bind fun ds => .ok (.nx (sd.set i (some (.ow ds))))
theorem psd_own (i : Nat) {x : Str} {e : Expr} {f : DSt → M (List D)} {pos' : Pos} (hN : X.N.Nodup) (h : PFd X E e f) (hi : X.N[i]? = some x := by rfl) (hx : Loc X.env.scope x := by first | exact Or.inl rfl | exact Or.inr rfl)
    (hs : swapsWith e (some (.Name x pos')) pos.line X.env = pure false := by rfl) (hf : X.fn x = true ∨ X.env.scope.names.lookup x = some .local := by first | exact .inl rfl | exact .inr rfl | assumption) :
    PSd X E (.Assign [.Name x pos'] e pos) (sOwn i f) := by
  obtain ⟨t, p, q⟩ := h
  refine ⟨_, ps_set hN hi hx p hs hf, fun H0 B Hf sd σ H D sr h => ?_⟩
  refine q H0 B Hf sd σ H _ sr (PoS.bindF sr h fun ds p xs Hf1 H1 _ g1 sr1 e1 e2 e3 e4 h1 => ?_)
  exact h1 _ Hf1 H1 (Same.refl _) (sr.set_new sr1 g1.all i e1 e2 rfl ⟨xs, e3, e4⟩)
/-- x.append(e) -/
def sApp (i : Nat) (f : DSt → M D) (sd : DSt) : M O := match sd[i]? with
  | some (some (.ow ds)) => (f sd).bind fun d => if few ds then .ok (.nx (sd.set i (some (.ow (ds ++ [d]))))) else .bad
  | _ => .bad
theorem psd_app (i : Nat) {x : Str} {e : Expr} {f : DSt → M D} {p1 p2 p3 : Pos} (h : PEd X E e f) (hi : X.N[i]? = some x := by rfl) (hv : Vis X.env.scope x := by first | exact Or.inl rfl | exact Or.inr (Or.inl rfl) | exact Or.inr (Or.inr rfl))
    (hd : (x == ("__debug__" : Str)) = false := by decide) (hcd : (x == ("__classdict__" : Str)) = false := by decide)
    (hse : starEach [e] X.env = (false, eval e X.env) :: starEach [] X.env := by rfl)
    (hbase : attributeBase (.Name x p1) "append" X.env (eval (.Name x p1) X.env) = eval (.Name x p1) X.env := by rfl)
    (hfew : ((backTo p3 (starEach [e] X.env)).all (fun x => !x.1) && (backToKw p3 (keywordEach [] X.env)).all (fun x => x.1.isSome)
      && decide ([e].length + ([] : List Keyword).length + (if ([] : List Keyword).isEmpty then 0 else 1) < 30)) = true := by rfl)
    (hline : (p2.endLine == p3.line) = true := by rfl) (hplain : (backTo p3 (starEach ([] : List Expr) X.env)).any (·.1) = false := by rfl)
    (hsw : swapsWith (.Call (.Attribute (.Name x p1) "append" p2) [e] [] p3) none pos.line X.env = pure false := by rfl) :
    PSd X E (.Expr (.Call (.Attribute (.Name x p1) "append" p2) [e] [] p3) pos) (sApp i f) := by
  obtain ⟨t, pt, q⟩ := h
  refine ⟨_, ps_expr (pe_bm PySem.F.plainAttrs_list PySem.F.slot_list_append PySem.F.type_list_append mt_append (pe_var hi hv hd hcd) (pa_cons pt pa_nil hse) hbase hfew hline hse hplain) hsw, fun H0 B Hf sd σ H D sr h => ?_⟩
  unfold sApp at h
  split at h
  · rename_i ds ei
    obtain ⟨p, z1, z2, z3, xs, z4, z5⟩ := sr.ow i _ ei rfl
    refine ⟨_, z1, .inl ⟨rfl, xs, SqL.of z4⟩, ?_⟩
    refine q H0 B Hf sd σ H _ sr (PoS.bind sr h fun d v Hf1 H1 _ g1 sr1 rv h1 => ?_)
    split at h1
    · rename_i hf
      have z5' := z5.mono g1.fz
      have hl : xs.length < sizeLine := by
        have h1 := of_decide_eq_true hf
        have h2 := sizeLine_eq
        rw [← z5.length, h2]; omega
      refine ⟨p, xs, v, rfl, rfl, g1.all _ _ z4, hl, ?_⟩
      exact h1 _ Hf1 _ (Same.refl _) (sr1.change ei rfl z1 rfl ⟨_, upd_same, z5'.append (Reps.cons rv Reps.nil)⟩)
    · exact h1.elim
  · exact h.elim
/-- x.extend(a new list) -/
def sExt (i : Nat) (f : DSt → M (List D)) (sd : DSt) : M O := match sd[i]? with
  | some (some (.ow ds)) => (f sd).bind fun es => if few (ds ++ es) then .ok (.nx (sd.set i (some (.ow (ds ++ es))))) else .bad
  | _ => .bad
theorem psd_ext (i : Nat) {x : Str} {e : Expr} {f : DSt → M (List D)} {p1 p2 p3 : Pos} (h : PFd X E e f) (hi : X.N[i]? = some x := by rfl) (hv : Vis X.env.scope x := by first | exact Or.inl rfl | exact Or.inr (Or.inl rfl) | exact Or.inr (Or.inr rfl))
    (hd : (x == ("__debug__" : Str)) = false := by decide) (hcd : (x == ("__classdict__" : Str)) = false := by decide)
    (hse : starEach [e] X.env = (false, eval e X.env) :: starEach [] X.env := by rfl)
    (hbase : attributeBase (.Name x p1) "extend" X.env (eval (.Name x p1) X.env) = eval (.Name x p1) X.env := by rfl)
    (hfew : ((backTo p3 (starEach [e] X.env)).all (fun x => !x.1) && (backToKw p3 (keywordEach [] X.env)).all (fun x => x.1.isSome)
      && decide ([e].length + ([] : List Keyword).length + (if ([] : List Keyword).isEmpty then 0 else 1) < 30)) = true := by rfl)
    (hline : (p2.endLine == p3.line) = true := by rfl) (hplain : (backTo p3 (starEach ([] : List Expr) X.env)).any (·.1) = false := by rfl)
    (hsw : swapsWith (.Call (.Attribute (.Name x p1) "extend" p2) [e] [] p3) none pos.line X.env = pure false := by rfl) :
    PSd X E (.Expr (.Call (.Attribute (.Name x p1) "extend" p2) [e] [] p3) pos) (sExt i f) := by
  obtain ⟨t, pt, q⟩ := h
  refine ⟨_, ps_expr (pe_bm PySem.F.plainAttrs_list PySem.F.slot_list_extend PySem.F.type_list_extend mt_extend (pe_var hi hv hd hcd) (pa_cons pt pa_nil hse) hbase hfew hline hse hplain) hsw, fun H0 B Hf sd σ H D sr h => ?_⟩
  unfold sExt at h
  split at h
  · rename_i ds ei
    obtain ⟨p, z1, z2, z3, xs, z4, z5⟩ := sr.ow i _ ei rfl
    refine ⟨_, z1, .inl ⟨rfl, xs, SqL.of z4⟩, ?_⟩
    refine q H0 B Hf sd σ H _ sr (PoS.bindF sr h fun es b ys Hf1 H1 _ g1 sr1 e1 e2 e3 e4 h1 => ?_)
    split at h1
    · rename_i hf
      have z5' := z5.mono g1.fz
      have hl := few_line hf (z5'.append e4)
      rw [List.length_append] at hl
      refine ⟨p, b, xs, ys, rfl, rfl, g1.all _ _ z4, e3, hl, ?_⟩
      exact h1 _ Hf1 _ (Same.refl _) (sr1.change ei rfl z1 rfl ⟨_, upd_same, z5'.append e4⟩)
    · exact h1.elim
  · exact h.elim
/-- return x, x our own list -/
def sRetO (i : Nat) (sd : DSt) : M O := match sd[i]? with
  | some (some (.ow ds)) => .ok (.rt (.ow ds))
  | _ => .bad
theorem psd_retO (i : Nat) {x : Str} {p1 : Pos} (hi : X.N[i]? = some x := by rfl) (hv : Vis X.env.scope x := by first | exact Or.inl rfl | exact Or.inr (Or.inl rfl) | exact Or.inr (Or.inr rfl))
    (hd : (x == ("__debug__" : Str)) = false := by decide) (hcd : (x == ("__classdict__" : Str)) = false := by decide) : PSd X E (.Return (some (.Name x p1)) pos) (sRetO i) := by
  refine ⟨_, ps_ret (pe_var hi hv hd hcd), fun H0 B Hf sd σ H D sr h => ?_⟩
  unfold sRetO at h
  split at h
  · rename_i ds ei
    obtain ⟨p, z1, z2, z3, z4⟩ := sr.ow i _ ei rfl
    exact ⟨_, z1, h _ Hf H (Same.refl _) sr.fin ⟨p, rfl, z2, z3, z4⟩⟩
  · exact h.elim
/-- from here on the list in slot i does not change any more -/
def frz (i : Nat) (sd : DSt) : DSt := match sd[i]? with
  | some (some (.ow ds)) => sd.set i (some (.im (.lst ds)))
  | _ => sd
def sFrz (i : Nat) (f : DSt → M O) (sd : DSt) : M O := f (frz i sd)
theorem psd_frz (i : Nat) {st : List Stmt} {f : DSt → M O} (h : PSsd X E st f) : PSsd X E st (sFrz i f) := by
  obtain ⟨t, p, q⟩ := h
  refine ⟨t, p, fun H0 B Hf sd σ H D sr h => ?_⟩
  unfold sFrz frz at h
  split at h
  · rename_i ds ei
    obtain ⟨Hf', e, sr'⟩ := sr.freeze ei
    exact q H0 B Hf' _ σ H D sr' (PoS.weak e h)
  · exact q H0 B Hf sd σ H D sr h

/-! ### in, not in -/
open Classical in
open Classical in
/-! ### is None -/
def D.isN : D → Bool
  | .non => true
  | _ => false
def gIsN : D → D → M D
  | x, .non => .ok (.bl x.isN)
  | _, _ => .bad
theorem isN_rep {K : PySem.W.Frag} {H : Hp} {d : D} {v : V} (r : Rep K H d v) : decide (v = .non) = d.isN := by
  cases d with
  | non => rw [rep_non.mp r]; rfl
  | bl b => rw [rep_bl.mp r]; rfl
  | int b => rw [rep_int.mp r]; rfl
  | str b => rw [rep_str.mp r]; rfl
  | tup b => obtain ⟨_, _, e, _⟩ := rep_tup.mp r; rw [e]; rfl
  | lst b => obtain ⟨_, _, e, _⟩ := rep_lst.mp r; rw [e]; rfl
theorem od_isN : OpD X E (compareOp .Is) gIsN := by
  refine ⟨_, op_isN, fun Hf H x y dx dy Q e rx ry q => ?_⟩
  unfold gIsN at q
  split at q
  · exact ⟨rep_non.mp ry, Po.ret e q (by rw [isN_rep rx]; exact rep_bl.mpr rfl)⟩
  · exact q.elim
end
end DL

set_option maxHeartbeats 4000000

namespace DL
open PySem PySem.Spec PyProof.Rows L2

/-! ### iterators with several objects of their own -/
section
variable {X : Cx} {pins : List (Addr × Obj)} {σ : L2.St} {H : Hp} {s : Shared} {h' : Heap} {t' : Nat} {fp : List Addr}
theorem _root_.L2.Inv.turnedT {T : Addr} {o : HO} (I : Inv X pins σ H s) (hf : ∀ b ∈ fp, FpOk X pins H b) (k : ∀ b u, b ∉ fp → s.heap.get? b = some u → h'.get? b = some u) (hT : s.heap.objs.size ≤ T) (new : ObjOk X.prog X.w (upd H T o) h' T o) :
    Inv X pins σ (upd H T o) { s with heap := h', toks := t' } := by
  have hn := I.hok.fresh hT
  have ne : ∀ b u, s.heap.get? b = some u → b ≠ T := fun b u e => Nat.ne_of_lt (Nat.lt_of_lt_of_le (Heap.lt_size e) hT)
  refine I.step (g' := s.gens) (d' := s.drawn) (ch := fp) (fun b hb => ?_) (fun b u _ _ hc e _ => k b u hc e) (fun b u _ _ hc e _ => ⟨u.slots, k b u hc e⟩) (fun b u _ e n => by rw [upd_ne (ne b u e)]; exact n) (fun b u hc e => ⟨u, k b u hc e⟩)
    (fun b xs e => by rw [upd_ne (ne_of_none e hn)]; exact e) (fun b u xs e => by rw [upd_ne (ne_of_none e hn)]; exact e) (fun b ps e => ⟨#[], by rw [upd_ne (ne_of_none e hn), e]; simp⟩) (fun m hm => ?_) (fun b u e => ?_) I.bare
  · obtain ⟨f0, f1, f2, f3, f4, f5⟩ := hf b hb
    exact ⟨f3, f1, f4, f5⟩
  · obtain ⟨ob, es, ep, ho, r⟩ := hm
    exact ⟨ob, es, ep, k _ ob (fun z => (hf _ z).2.1 rfl) ho, r⟩
  · by_cases hb : b = T
    · subst hb; rw [upd_same] at e; cases e; exact new
    · rw [upd_ne hb] at e
      have nf : ∀ c v, H c = some v → c ∉ fp := fun c v e z => by rw [(hf c z).1] at e; cases e
      refine (I.hok b u e).stay (fun c v hc q => k c v ?_ q) (fun c q => by rw [upd_ne (ne_of_none q hn)]; exact q) fun c xs q => by rw [upd_ne (ne_of_none q hn)]; exact q
      rcases hc with rfl | hc
      · exact nf _ _ e
      · exact nf _ _ hc
theorem _root_.L2.Inv.turnedF (I : Inv X pins σ H s) (hf : ∀ b ∈ fp, FpOk X pins H b) (k : ∀ b u, b ∉ fp → s.heap.get? b = some u → h'.get? b = some u) : Inv X pins σ H { s with heap := h', toks := t' } := by
  refine I.step (g' := s.gens) (d' := s.drawn) (ch := fp) (fun b hb => ?_) (fun b u _ _ hc e _ => k b u hc e) (fun b u _ _ hc e _ => ⟨u.slots, k b u hc e⟩) (fun b u _ e n => n) (fun b u hc e => ⟨u, k b u hc e⟩)
    (fun b xs e => e) (fun b u xs e => e) (fun b ps e => ⟨#[], by rw [e]; simp⟩) (fun m hm => ?_) (fun b u e => ?_) I.bare
  · obtain ⟨f0, f1, f2, f3, f4, f5⟩ := hf b hb
    exact ⟨f3, f1, f4, f5⟩
  · obtain ⟨ob, es, ep, ho, r⟩ := hm
    exact ⟨ob, es, ep, k _ ob (fun z => (hf _ z).2.1 rfl) ho, r⟩
  · have nf : ∀ c v, H c = some v → c ∉ fp := fun c v e z => by rw [(hf c z).1] at e; cases e
    refine (I.hok b u e).stay (fun c v hc q => k c v ?_ q) (fun c q => q) fun c xs q => q
    rcases hc with rfl | hc
    · exact nf _ _ e
    · exact nf _ _ hc
end

/-! ### enumerate(a list) -/
/-! ### zip(two lists) -/
structure ZA (z TI TO i1 i2 : Addr) : Prop where
  TIz : TI ≠ z
  TOz : TO ≠ z
  i1z : i1 ≠ z
  i2z : i2 ≠ z
  TITO : TI ≠ TO
  TIi1 : TI ≠ i1
  TIi2 : TI ≠ i2
  TOi1 : TO ≠ i1
  TOi2 : TO ≠ i2
  i12 : i1 ≠ i2
section
variable {X : Cx} {E : XK} {pos p p2 : Pos} {es : List Expr} {k : Nat}
def enumD (n : Nat) : List D → List D
  | [] => []
  | d :: r => .tup [.int n, d] :: enumD (n + 1) r
theorem enumD_get : ∀ (ds : List D) (n i : Nat), (enumD n ds)[i]? = (ds[i]?).map fun d => .tup [.int ((n + i : Nat) : Int), d]
  | [], _, _ => by simp [enumD]
  | d :: r, n, 0 => by simp [enumD]
  | d :: r, n, i + 1 => by
    rw [enumD, List.getElem?_cons_succ, enumD_get r (n + 1) i, List.getElem?_cons_succ]
    congr 1; funext d; congr 3; omega
end

/-! ### dicts of our own -/
def keyD : D → Option Key
  | .int i => some (.inl i)
  | .str x => some (.inr x)
  | _ => none
def keysD : List D → Option (List Key)
  | [] => some []
  | d :: r => match keyD d, keysD r with
    | some k, some ks => some (k :: ks)
    | _, _ => none
theorem keyD_rep {K : PySem.W.Frag} {H : Hp} {d : D} {k : Key} {v : V} (e : keyD d = some k) (r : Rep K H d v) : v = kV k := by
  cases d with
  | int i => cases e; exact rep_int.mp r
  | str x => cases e; exact rep_str.mp r
  | non => cases e
  | bl _ => cases e
  | tup _ => cases e
  | lst _ => cases e
theorem keysD_reps {K : PySem.W.Frag} {H : Hp} : ∀ {ds : List D} {ks : List Key} {vs : List V}, keysD ds = some ks → Reps K H ds vs → vs = ks.map kV
  | [], ks, vs, e, r => by cases e; rw [reps_nil.mp r]; rfl
  | d :: ds, ks, vs, e, r => by
    obtain ⟨x, xr, rfl, r1, r2⟩ := reps_cons.mp r
    unfold keysD at e
    split at e
    · rename_i k ks' e1 e2
      cases e
      rw [keyD_rep e1 r1, keysD_reps e2 r2]
      rfl
    · cases e
def putD {κ : Type} [DecidableEq κ] (kvs : List (κ × D)) (k : κ) (d : D) : List (κ × D) :=
  if (kvs.any fun kv => decide (kv.1 = k)) = true then kvs.map (fun kv => if kv.1 = k then (kv.1, d) else kv) else kvs ++ [(k, d)]
def hasD {κ : Type} [DecidableEq κ] (kvs : List (κ × D)) (k : κ) : Bool := kvs.any fun kv => decide (kv.1 = k)
def getD' {κ : Type} [DecidableEq κ] (kvs : List (κ × D)) (k : κ) : Option D := (kvs.find? fun kv => decide (kv.1 = k)).map (·.2)
section
variable {κ : Type} [DecidableEq κ]
variable {K : PySem.W.Frag} {H : Hp}
theorem RepKV.any {kvs : List (κ × D)} {ys : List (κ × V)} (r : RepKV K H kvs ys) (k : κ) : (kvs.any fun kv => decide (kv.1 = k)) = (ys.any fun kv => decide (kv.1 = k)) := by
  unfold RepKV at r
  induction r with
  | nil => rfl
  | cons h t ih => rw [List.any_cons, List.any_cons, ih, h.1]
theorem RepKV.get {kvs : List (κ × D)} {ys : List (κ × V)} (r : RepKV K H kvs ys) (k : κ) {d : D} (e : getD' kvs k = some d) : ∃ v, valV ys k = some v ∧ Rep K H d v := by
  unfold RepKV at r
  induction r with
  | nil => cases e
  | @cons p q ps qs h t ih =>
    by_cases hk : p.1 = k
    · have e1 : getD' (p :: ps) k = some p.2 := by simp [getD', List.find?_cons, hk]
      rw [e1] at e
      cases e
      exact ⟨q.2, valV_pos (h.1 ▸ hk), h.2⟩
    · have e1 : getD' (p :: ps) k = getD' ps k := by simp [getD', List.find?_cons, hk]
      rw [e1] at e
      obtain ⟨v, h1, h2⟩ := ih e
      exact ⟨v, by rw [valV_neg (fun z => hk (h.1.trans z))]; exact h1, h2⟩
theorem RepKV.none {kvs : List (κ × D)} {ys : List (κ × V)} (r : RepKV K H kvs ys) (k : κ) (e : getD' kvs k = .none) : valV ys k = .none := by
  unfold RepKV at r
  induction r with
  | nil => rfl
  | @cons p q ps qs h t ih =>
    by_cases hk : p.1 = k
    · have e1 : getD' (p :: ps) k = some p.2 := by simp [getD', List.find?_cons, hk]
      rw [e1] at e
      cases e
    · have e1 : getD' (p :: ps) k = getD' ps k := by simp [getD', List.find?_cons, hk]
      rw [e1] at e
      rw [valV_neg (fun z => hk (h.1.trans z))]; exact ih e
theorem RepKV.repl {kvs : List (κ × D)} {ys : List (κ × V)} (r : RepKV K H kvs ys) (k : κ) {d : D} {v : V} (h : Rep K H d v) : RepKV K H (kvs.map fun kv => if kv.1 = k then (kv.1, d) else kv) (ys.map fun kv => if kv.1 = k then (kv.1, v) else kv) := by
  unfold RepKV at r ⊢
  induction r with
  | nil => exact .nil
  | @cons p q ps qs hp t ih =>
    refine .cons ?_ ih
    show (if p.1 = k then (p.1, d) else p).1 = (if q.1 = k then (q.1, v) else q).1 ∧ Rep K H (if p.1 = k then (p.1, d) else p).2 (if q.1 = k then (q.1, v) else q).2
    by_cases hk : p.1 = k
    · rw [if_pos hk, if_pos (hp.1 ▸ hk)]; exact ⟨hp.1, h⟩
    · rw [if_neg hk, if_neg (fun z => hk (hp.1.trans z))]; exact hp
theorem RepKV.put {kvs : List (κ × D)} {ys : List (κ × V)} (r : RepKV K H kvs ys) (k : κ) {d : D} {v : V} (h : Rep K H d v) : RepKV K H (putD kvs k d) (putK ys k v) := by
  unfold putD putK
  rw [r.any k]
  split
  · exact r.repl k h
  · exact Paired.snoc r ⟨rfl, h⟩
theorem RepKV.length {kvs : List (κ × D)} {ys : List (κ × V)} (r : RepKV K H kvs ys) : kvs.length = ys.length := Paired.length r
end
section
variable {X : Cx} {E : XK} {pos p1 p2 pos' : Pos} {key value : Expr} {x : Str}
def sDNewT (i : Nat) (sd : DSt) : M O := .ok (.nx (sd.set i (some (.od []))))
theorem psd_dnewT (i : Nat) (hN : X.N.Nodup) (hi : X.N[i]? = some x := by rfl) (hx : Loc X.env.scope x := by first | exact Or.inl rfl | exact Or.inr rfl)
    (hs : swapsWith (.Dict [] [] p2) (some (.Name x pos')) pos.line X.env = pure false := by rfl) (hf : X.fn x = true ∨ X.env.scope.names.lookup x = some .local := by first | exact .inl rfl | exact .inr rfl | assumption) :
    PSd X E (.Assign [.Name x pos'] (.Dict [] [] p2) pos) (sDNewT i) := by
  refine ⟨_, ps_set hN hi hx pe_dnewT hs hf, fun H0 B Hf sd σ H D sr h => ?_⟩
  exact fun p hp => h _ Hf _ (Same.refl _) (sr.set_own i hp rfl ⟨[], upd_same, .nil⟩)
/-- the slot of a dict, with a key: the pairs at it behind a store; whether it is there; its value -/
def dput : Option (Option S) → D → D → Option S
  | some (some (.od kvs)), .tup ds, v => match keysD ds with
    | some ks => if kvs.length ≤ 1000000 then some (.od (putD kvs ks v)) else none
    | none => none
  | some (some (.dk kvs)), k, v => match keyD k with
    | some k => if kvs.length ≤ 1000000 then some (.dk (putD kvs k v)) else none
    | none => none
  | _, _, _ => none
def dhas : Option (Option S) → D → Option Bool
  | some (some (.od kvs)), .tup ds => (keysD ds).map (hasD kvs)
  | some (some (.dk kvs)), k => (keyD k).map (hasD kvs)
  | _, _ => none
def isDct : Option (Option S) → Bool
  | some (some (.od _)) => true
  | some (some (.dk _)) => true
  | _ => false
theorem dct_own {o : Option (Option S)} (h : isDct o = true) : ∃ t, o = some (some t) ∧ t.own = true := by
  unfold isDct at h
  split at h
  · exact ⟨_, rfl, rfl⟩
  · exact ⟨_, rfl, rfl⟩
  · cases h
theorem key_at {K : PySem.W.Frag} {Hf H : Hp} {ds : List D} {ks : List Key} {y : V} (e : keysD ds = some ks) (sub : Same Hf H) (r : Rep K Hf (.tup ds) y) : ∃ b, y = .ref b ∧ H b = some (.tup (ks.map kV)) := by
  obtain ⟨b, xs, rfl, hb, hr⟩ := rep_tup.mp r
  rw [keysD_reps e hr] at hb
  exact ⟨b, rfl, sub _ _ hb⟩
theorem dhas_get {K : PySem.W.Frag} {Hf H : Hp} {t : S} {k : D} {y : V} {b : Bool} {p : Addr} (e : dhas (some (some t)) k = some b) (sub : Same Hf H) (a : S.at K Hf H p t) (r : Rep K Hf k y) : ∃ o, DGet H p y o ∧ o.isSome = b := by
  unfold dhas at e
  split at e
  · rename_i kvs ds he
    cases he
    obtain ⟨ys, h1, h2⟩ := a
    obtain ⟨ks, e1, e2⟩ := Option.map_eq_some_iff.mp e
    obtain ⟨b', rfl, hb⟩ := key_at e1 sub r
    refine ⟨_, DGet.t h1 hb, ?_⟩
    rw [← e2, ← valV_any, ← h2.any]; rfl
  · rename_i kvs k' he
    cases he
    obtain ⟨ys, h1, h2⟩ := a
    obtain ⟨ks, e1, e2⟩ := Option.map_eq_some_iff.mp e
    rw [keyD_rep e1 r]
    refine ⟨_, DGet.k h1, ?_⟩
    rw [← e2, ← valV_any, ← h2.any]; rfl
  · cases e
def sDPut (i : Nat) (fk fv : DSt → M D) (sd : DSt) : M O := if isDct sd[i]? then ((fv sd).bind fun v => (fk sd).bind fun k => match dput sd[i]? k v with
  | some t => .ok (.nx (sd.set i (some t)))
  | none => .bad) else .bad
theorem psd_dput (i : Nat) {fk fv : DSt → M D} (hu : X.A.units + 64 < cLine) (hk : PEd X E key fk) (hv : PEd X E value fv) (hi : X.N[i]? = some x := by rfl) (hvis : Vis X.env.scope x := by first | exact Or.inl rfl | exact Or.inr (Or.inl rfl) | exact Or.inr (Or.inr rfl))
    (hd : (x == ("__debug__" : Str)) = false := by decide) (hcd : (x == ("__classdict__" : Str)) = false := by decide) (hs : swapsWith value (some (.Subscript (.Name x p1) key pos')) pos.line X.env = pure false := by rfl) :
    PSd X E (.Assign [.Subscript (.Name x p1) key pos'] value pos) (sDPut i fk fv) := by
  obtain ⟨tk, pk, qk⟩ := hk
  obtain ⟨tv, pv, qv⟩ := hv
  refine ⟨_, ps_dput (by omega) (pe_var hi hvis hd hcd) pk pv hs, fun H0 B Hf sd σ H D sr h => ?_⟩
  unfold sDPut at h
  split at h
  case isFalse => exact h.elim
  case isTrue hdc =>
  obtain ⟨t, et, ot⟩ := dct_own hdc
  obtain ⟨p, z1, z2, z3, z4⟩ := sr.ow i t et ot
  refine qv H0 B Hf sd σ H _ sr (PoS.bind sr h fun dv v Hf1 H1 _ g1 sr1 rv h1 => ?_)
  refine ⟨_, z1, ?_⟩
  refine qk H0 B Hf1 sd σ H1 _ sr1 (PoS.bind sr1 h1 fun dk y Hf2 H2 _ g2 sr2 ry h2 => ?_)
  obtain ⟨p', z1', _, _, z4'⟩ := sr2.ow i t et ot
  rw [z1] at z1'
  cases z1'
  have rv2 := Rep.mono g2.fz rv
  have nl : ∀ {κ : Type} {kvs : List (κ × DL.D)} {ys : List (κ × V)}, RepKV X.K Hf2 kvs ys → kvs.length ≤ 1000000 → ys.length < sizeLine := fun {κ kvs ys} r hl => by
    have := Paired.length r
    have h2 := sizeLine_eq
    omega
  rw [et] at h2
  split at h2
  · rename_i u eu
    cases t with
    | im d => cases ot
    | xc x => cases ot
    | ow ds => simp [dput] at eu
    | od kvs =>
      obtain ⟨ys, a1, a2⟩ := z4'
      cases dk with
      | tup ds =>
        unfold dput at eu
        dsimp only at eu
        split at eu
        · rename_i ks ek
          split at eu
          · rename_i hl
            cases eu
            obtain ⟨b, rfl, hb⟩ := key_at ek sr2.sub ry
            exact ⟨p, _, rfl, DPut.t a1 hb (nl a2 hl), h2 _ Hf2 _ (Same.refl _) (sr2.change et ot z1 rfl ⟨_, upd_same, a2.put ks rv2⟩)⟩
          · cases eu
        · cases eu
      | non => simp [dput] at eu
      | bl _ => simp [dput] at eu
      | int _ => simp [dput] at eu
      | str _ => simp [dput] at eu
      | lst _ => simp [dput] at eu
    | dk kvs =>
      obtain ⟨ys, a1, a2⟩ := z4'
      have eu : (match keyD dk with
        | some k => if kvs.length ≤ 1000000 then some (S.dk (putD kvs k dv)) else none
        | none => none) = some u := eu
      split at eu
      · rename_i ks ek
        split at eu
        · rename_i hl
          cases eu
          rw [keyD_rep ek ry]
          exact ⟨p, _, rfl, DPut.k a1 (nl a2 hl), h2 _ Hf2 _ (Same.refl _) (sr2.change et ot z1 rfl ⟨_, upd_same, a2.put ks rv2⟩)⟩
        · cases eu
      · cases eu
  · exact h2.elim
def eDIn (i : Nat) (fk : DSt → M D) (sd : DSt) : M D := if isDct sd[i]? then ((fk sd).bind fun k => match dhas sd[i]? k with
  | some b => .ok (.bl b)
  | none => .bad) else .bad
theorem din_core {H0 : Hp} {B : Addr → Prop} {Hf : Hp} {sd : DSt} {σ : L2.St} {H : Hp} {Q : VK} {i : Nat} {fk : DSt → M D} {tk : TE} {g : Bool → Bool}
    (qk : ∀ (H0 : Hp) (B : Addr → Prop) (Hf : Hp) (sd : DSt) (σ : L2.St) (H : Hp) (Q : VK), SR X.K H0 B Hf sd σ H → Po X.K E (rV X.K) Hf H (fk sd) Q → tk σ H Q)
    (sr : SR X.K H0 B Hf sd σ H) (hdc : isDct sd[i]? = true) (h : Po X.K E (rV X.K) Hf H ((fk sd).bind fun k => match dhas sd[i]? k with
      | some b => .ok (.bl (g b))
      | none => .bad) Q) : tk σ H fun y H1 => ∃ v, σ[i]? = some (some v) ∧ ∃ a o, v = .ref a ∧ DGet H1 a y o ∧ Q (.bl (g o.isSome)) H1 := by
  obtain ⟨t, et, ot⟩ := dct_own hdc
  refine qk H0 B Hf sd σ H _ sr (Po.bind h fun dk y Hf1 H1 _ g1 ry h1 => ?_)
  obtain ⟨p, z1, z2, z3, z4⟩ := (sr.gr g1).ow i t et ot
  rw [et] at h1
  split at h1
  · rename_i b eb
    obtain ⟨o, d1, d2⟩ := dhas_get eb g1.sub z4 ry
    refine ⟨_, z1, p, o, rfl, d1, ?_⟩
    rw [d2]
    exact Po.ret (R := rV X.K) g1.sub h1 (rep_bl.mpr rfl)
  · exact h1.elim
end

/-! ### looking at a list of our own: a flat answer -/
section
variable {X : Cx} {E : XK} {e : Expr}
end

/-! ### a comprehension's block that sees names of the def -/
def clOf (cells : List (Str × Addr)) : List (Str × NameKind) → List (Str × Addr) → List (Str × Addr)
  | [], acc => acc
  | (n, k) :: r, acc => if k == NameKind.free then (match cells.lookup n with
    | some c => clOf cells r ((n, c) :: acc)
    | none => clOf cells r acc) else clOf cells r acc
theorem clOf_mem (cells : List (Str × Addr)) : ∀ (names : List (Str × NameKind)) (acc : List (Str × Addr)), (∀ p ∈ acc, cells.lookup p.1 = some p.2) → ∀ p ∈ clOf cells names acc, cells.lookup p.1 = some p.2
  | [], acc, h => h
  | (n, k) :: r, acc, h => by
    unfold clOf
    split
    · split
      · rename_i c hc
        refine clOf_mem cells r _ fun p hp => ?_
        rcases List.mem_cons.mp hp with rfl | hp
        · exact hc
        · exact h p hp
      · exact clOf_mem cells r acc h
    · exact clOf_mem cells r acc h
theorem clOf_keep (cells : List (Str × Addr)) : ∀ (names : List (Str × NameKind)) (acc : List (Str × Addr)), ∀ p ∈ acc, p ∈ clOf cells names acc
  | [], acc, p, h => h
  | (n, k) :: r, acc, p, h => by
    unfold clOf
    split
    · split
      · exact clOf_keep cells r _ p (List.mem_cons_of_mem _ h)
      · exact clOf_keep cells r acc p h
    · exact clOf_keep cells r acc p h
theorem clOf_has (cells : List (Str × Addr)) : ∀ (names : List (Str × NameKind)) (acc : List (Str × Addr)) (n : Str) (c : Addr), (n, NameKind.free) ∈ names → cells.lookup n = some c → (n, c) ∈ clOf cells names acc
  | [], _, _, _, h, _ => by cases h
  | (m, k) :: r, acc, n, c, h, hc => by
    unfold clOf
    rcases List.mem_cons.mp h with h | h
    · cases h
      rw [if_pos (by decide), hc]
      exact clOf_keep cells r _ _ List.mem_cons_self
    · split
      · split
        · exact clOf_has cells r _ n c h hc
        · exact clOf_has cells r _ n c h hc
      · exact clOf_has cells r _ n c h hc
theorem lookup_mem {β : Type} : ∀ {l : List (Str × β)} {n : Str} {c : β}, l.lookup n = some c → (n, c) ∈ l := fun h => PySem.mem_of_lookup h
theorem lookup_some {β : Type} : ∀ {l : List (Str × β)} {n : Str} {c : β}, (n, c) ∈ l → ∃ d, l.lookup n = some d
  | [], _, _, h => by cases h
  | (m, d) :: r, n, c, h => by
    rw [List.lookup_cons]
    by_cases e : n = m
    · subst e; exact ⟨d, by simp⟩
    · have e' : (n == m) = false := beq_eq_false_iff_ne.mpr e
      rw [e']
      rcases List.mem_cons.mp h with h | h
      · cases h; exact absurd rfl e
      · exact lookup_some h
theorem closure_eq {scope : Scope} {env : Env} (h : ∀ y ∈ scope.names, y.2 = .free → ∃ c, env.cells.lookup y.1 = some c) : closureFor scope env = pure (clOf env.cells scope.names []) := by
  have key : ∀ (names : List (Str × NameKind)) (acc : List (Str × Addr)), (∀ y ∈ names, y.2 = .free → ∃ c, env.cells.lookup y.1 = some c) →
      (forIn names acc fun (x : Str × NameKind) (cs : List (Str × Addr)) => (do
        if x.2 == .free then
          let c ← cellOf env x.1
          pure (ForInStep.yield ((x.1, c) :: cs))
        else pure (ForInStep.yield cs) : Sem _)) = pure (clOf env.cells names acc) := by
    intro names
    induction names with
    | nil => intro acc _; rfl
    | cons y r ih =>
      intro acc hy
      obtain ⟨n, k⟩ := y
      rw [List.forIn_cons]
      unfold clOf
      by_cases hk : (k == NameKind.free) = true
      · obtain ⟨c, hc⟩ := hy (n, k) List.mem_cons_self (by simpa using hk)
        have e1 : cellOf env n = pure c := by unfold cellOf; rw [hc]
        simp only [hk, if_true, e1, hc, pure_bind]
        exact ih _ fun z hz => hy z (List.mem_cons_of_mem _ hz)
      · simp only [hk, Bool.false_eq_true, if_false, pure_bind]
        exact ih _ fun z hz => hy z (List.mem_cons_of_mem _ hz)
  have e := key scope.names [] h
  unfold closureFor
  simp only [bind_pure]
  exact e
theorem capN {X : Cx} {Nc : List Str} {n0 : Nat} {caps : List Nat} {scope sc : Scope} (hsc : X.env.scope = sc) (hkf : sc.kind = .function) (hcell : ∀ y ∈ scope.names, y.2 ≠ .cell) (hfree : ∀ y ∈ scope.names, y.2 = .free → sc.names.lookup y.1 = some .cell)
    (hcl : ∀ y ∈ scope.names, y.2 = .free → ∃ c, X.env.cells.lookup y.1 = some c) (hl : Nc.length = n0 + caps.length)
    (hcap : ∀ (i j : Nat) (x : Str), Nc[n0 + i]? = some x → caps[i]? = some j → X.N[j]? = some x ∧ scope.names.lookup x = some .free) : CapOk X Nc n0 caps scope (clOf X.env.cells scope.names []) := by
  have frees : ∀ (l : List (Str × NameKind)) (y : Str), (∀ p ∈ l, p.2 ≠ .cell) → (∀ p ∈ l, p.2 = .free → sc.names.lookup p.1 = some .cell) →
      ((l.map fun (n, k) => if (k == NameKind.free && X.env.scope.kind == .function && X.env.kindOf n == some .cell) then (n, NameKind.cell) else (n, k)).lookup y = some .cell ∨ (l.map fun (n, k) => if (k == NameKind.free && X.env.scope.kind == .function && X.env.kindOf n == some .cell) then (n, NameKind.cell) else (n, k)).lookup y = some .free) → (y, NameKind.free) ∈ l := by
    intro l y
    induction l with
    | nil => intro _ _ e; rcases e with e | e <;> cases e
    | cons p r ih =>
      intro h1 h2 e
      obtain ⟨n, k⟩ := p
      have c1 := h1 (n, k) List.mem_cons_self
      rw [List.map_cons, List.lookup_cons] at e
      have hfst : (if (k == NameKind.free && X.env.scope.kind == .function && X.env.kindOf n == some .cell) then (n, NameKind.cell) else (n, k)).1 = n := by split <;> rfl
      by_cases ey : y = n
      · subst ey
        simp only [hfst, beq_self_eq_true] at e
        by_cases hk : k = .free
        · subst hk; exact List.mem_cons_self
        · have hk' : (k == NameKind.free) = false := beq_eq_false_iff_ne.mpr hk
          simp only [hk', Bool.false_and, Bool.false_eq_true, if_false] at e
          rcases e with e | e
          · cases e; exact absurd rfl c1
          · cases e; exact absurd rfl hk
      · have ey' : (y == n) = false := beq_eq_false_iff_ne.mpr ey
        simp only [hfst, ey'] at e
        exact List.mem_cons_of_mem _ (ih (fun p hp => h1 p (List.mem_cons_of_mem _ hp)) (fun p hp => h2 p (List.mem_cons_of_mem _ hp)) e)
  refine ⟨fun y c e => clOf_mem _ _ [] (fun p hp => by cases hp) _ (lookup_mem e), fun y e => ?_, fun i j x e1 e2 => ?_, hl⟩
  · have hm := frees scope.names y hcell hfree e
    obtain ⟨c, hc⟩ := hcl _ hm rfl
    obtain ⟨d, hd⟩ := lookup_some (clOf_has X.env.cells scope.names [] y c hm hc)
    exact ⟨d, hd⟩
  · obtain ⟨a1, a2⟩ := hcap i j x e1 e2
    have a3 := hfree _ (lookup_mem a2) rfl
    refine ⟨a1, by rw [hsc]; exact a3, ?_⟩
    have rl : ∀ (l : List (Str × NameKind)), l.lookup x = some .free → (l.map fun (n, k) => if (k == NameKind.free && X.env.scope.kind == .function && X.env.kindOf n == some .cell) then (n, NameKind.cell) else (n, k)).lookup x = some .cell := by
      intro l
      induction l with
      | nil => intro e; cases e
      | cons p r ih =>
        intro e
        obtain ⟨n, k⟩ := p
        rw [List.map_cons, List.lookup_cons]
        rw [List.lookup_cons] at e
        have hfst : (if (k == NameKind.free && X.env.scope.kind == .function && X.env.kindOf n == some .cell) then (n, NameKind.cell) else (n, k)).1 = n := by split <;> rfl
        by_cases ex : x = n
        · subst ex
          simp only [beq_self_eq_true] at e
          cases e
          have c3 : X.env.kindOf x = some .cell := by show X.env.scope.names.lookup x = _; rw [hsc]; exact a3
          have c4 : X.env.scope.kind = .function := by rw [hsc]; exact hkf
          simp only [hfst, beq_self_eq_true, c3, c4, Bool.and_true, if_true]
        · have ex' : (x == n) = false := beq_eq_false_iff_ne.mpr ex
          simp only [ex'] at e
          simp only [hfst, ex']
          exact ih e
    exact rl _ a2
end DL

set_option maxHeartbeats 4000000

namespace DL
open PySem PySem.Spec PyProof.Rows L2

/-! ### what a block sees, by looking -/
def capFB (sc names : List (Str × NameKind)) : Bool := names.all fun y => !(decide (y.2 = NameKind.free)) || decide (sc.lookup y.1 = some NameKind.cell)
theorem capF {sc scope : Scope} (h : capFB sc.names scope.names = true) : ∀ y ∈ scope.names, y.2 = .free → sc.names.lookup y.1 = some .cell := fun y hy hf => by
  have := List.all_eq_true.mp h y hy
  rw [Bool.or_eq_true] at this
  rcases this with z | z
  · rw [decide_eq_true hf] at z; cases z
  · exact of_decide_eq_true z
def capB (N : List Str) (names : List (Str × NameKind)) : List Str → List Nat → Bool
  | x :: xs, j :: js => decide (N[j]? = some x) && decide (names.lookup x = some NameKind.free) && capB N names xs js
  | _, _ => true
theorem capB_get {N : List Str} {names : List (Str × NameKind)} : ∀ {xs : List Str} {js : List Nat}, capB N names xs js = true → ∀ (i j : Nat) (x : Str), xs[i]? = some x → js[i]? = some j → N[j]? = some x ∧ names.lookup x = some .free
  | [], _, _, i, _, _, e, _ => by simp at e
  | _ :: _, [], _, i, _, _, _, e => by simp at e
  | x :: xs, j :: js, h, 0, j', x', e1, e2 => by
    unfold capB at h
    rw [Bool.and_eq_true, Bool.and_eq_true] at h
    simp at e1 e2
    subst e1 e2
    exact ⟨of_decide_eq_true h.1.1, of_decide_eq_true h.1.2⟩
  | x :: xs, j :: js, h, i + 1, j', x', e1, e2 => by
    unfold capB at h
    rw [Bool.and_eq_true] at h
    exact capB_get h.2 i j' x' (by simpa using e1) (by simpa using e2)
theorem capB_ok {X : Cx} {N : List Str} {Nc : List Str} {n0 : Nat} {caps : List Nat} {scope : Scope} (hN : X.N = N) (h : capB N scope.names (Nc.drop n0) caps = true) :
    ∀ (i j : Nat) (x : Str), Nc[n0 + i]? = some x → caps[i]? = some j → X.N[j]? = some x ∧ scope.names.lookup x = some .free := fun i j x e1 e2 => by
  rw [hN]
  exact capB_get h i j x (by rw [List.getElem?_drop]; exact e1) e2

section
variable {X : Cx} {E : XK} {pos p p1 p2 : Pos} {a e : Expr} {x : Str}
/-! ### new lists -/
def fList (fs : DSt → M (List D)) (sd : DSt) : M (List D) := (fs sd).bind fun ds => match ds with
  | [.lst xs] => .ok xs
  | [.tup xs] => .ok xs
  | _ => .bad
theorem pfd_list {fs : DSt → M (List D)} (hg : Gl X "list") (hm : X.mg "list" = none) (hv : bootBuiltins "list" = some (.type "list")) (ha : PAd X E [a] fs)
    (he : starEach [a] X.env = (false, eval a X.env) :: starEach [] X.env := by rfl) (hpl : (backTo pos (starEach ([] : List Expr) X.env)).any (·.1) = false := by rfl) : PFd X E (.Call (.Name "list" p) [a] [] pos) (fList fs) := by
  obtain ⟨t, pt, qt⟩ := ha
  refine ⟨_, pe_callTy call_list_of hg hm hv pt (by decide) (by decide) he hpl, fun H0 B Hf sd σ H Q sr h => ?_⟩
  refine qt H0 B Hf sd σ H _ sr (PoF.bind h fun ds vs Hf1 H1 _ g1 rs h1 => ?_)
  split at h1
  · obtain ⟨y, rfl, r⟩ := reps1 rs
    obtain ⟨q, ys, rfl, hp, hr⟩ := rep_lst.mp r
    exact ⟨q, ys, rfl, .inl (g1.sub.seq hp), fun l hl => h1 l ys Hf1 _ ⟨Same.refl _, g1.sub.trans (same_upd hl _), same_upd hl _, fun _ _ e => e⟩ hl (g1.sub.free hl) upd_same hr⟩
  · obtain ⟨y, rfl, r⟩ := reps1 rs
    obtain ⟨q, ys, rfl, hp, hr⟩ := rep_tupQ r
    exact ⟨q, ys, rfl, .inr (Same.seqT g1.sub hp), fun l hl => h1 l ys Hf1 _ ⟨Same.refl _, g1.sub.trans (same_upd hl _), same_upd hl _, fun _ _ e => e⟩ hl (g1.sub.free hl) upd_same hr⟩
  · exact h1.elim
/-! ### - x -/
def eUn (g : D → M D) (f : DSt → M D) (sd : DSt) : M D := (f sd).bind g
end

/-! ### t[::-1] -/
section
variable {prog : Program} {w : World} {A : Around} {E : Value → Shared → Prop} {s : Shared}
end
section
variable {X : Cx} {E : XK} {pos p2 p3 p4 : Pos} {e : Expr}
end
end DL

set_option maxHeartbeats 4000000

namespace DL
open PySem PySem.Spec PyProof.Rows L2

section
variable {X : Cx} {E : XK} {pos : Pos} {a b c : Expr}
/-! ### what never runs -/
/-! ### a op b op c -/
def eChain (g g' : D → D → M D) (fa fb fc : DSt → M D) (sd : DSt) : M D := (fa sd).bind fun x => (fb sd).bind fun y => (g x y).bind fun r => (asB r).bind fun k => if k then ((fc sd).bind fun z => g' y z) else .ok (.bl false)
theorem chain_core {fa fb fc : DSt → M D} {g g' : D → D → M D} {ta tb tc : TE} {r r' : R2} {H0 : Hp} {B : Addr → Prop} {Hf : Hp} {sd : DSt} {σ : L2.St} {H : Hp} {Q : VK}
    (qa : ∀ (H0 : Hp) (B : Addr → Prop) (Hf : Hp) (sd : DSt) (σ : L2.St) (H : Hp) (Q : VK), SR X.K H0 B Hf sd σ H → Po X.K E (rV X.K) Hf H (fa sd) Q → ta σ H Q)
    (qb : ∀ (H0 : Hp) (B : Addr → Prop) (Hf : Hp) (sd : DSt) (σ : L2.St) (H : Hp) (Q : VK), SR X.K H0 B Hf sd σ H → Po X.K E (rV X.K) Hf H (fb sd) Q → tb σ H Q)
    (qc : ∀ (H0 : Hp) (B : Addr → Prop) (Hf : Hp) (sd : DSt) (σ : L2.St) (H : Hp) (Q : VK), SR X.K H0 B Hf sd σ H → Po X.K E (rV X.K) Hf H (fc sd) Q → tc σ H Q)
    (qr : ∀ (Hf H : Hp) (x y : V) (dx dy : D) (Q : VK), Same Hf H → Rep X.K Hf dx x → Rep X.K Hf dy y → Po X.K E (rV X.K) Hf H (g dx dy) Q → r x y H Q)
    (qr' : ∀ (Hf H : Hp) (x y : V) (dx dy : D) (Q : VK), Same Hf H → Rep X.K Hf dx x → Rep X.K Hf dy y → Po X.K E (rV X.K) Hf H (g' dx dy) Q → r' x y H Q)
    (sr : SR X.K H0 B Hf sd σ H) (h : Po X.K E (rV X.K) Hf H (eChain g g' fa fb fc sd) Q) : tChain r r' ta tb tc σ H Q := by
  refine qa H0 B Hf sd σ H _ sr (Po.bind h fun dx x Hf1 H1 _ g1 rx h1 => ?_)
  have sr1 := sr.gr g1
  refine qb H0 B Hf1 sd σ H1 _ sr1 (Po.bind h1 fun dy y Hf2 H2 _ g2 ry h2 => ?_)
  have sr2 := sr1.gr g2
  refine qr Hf2 H2 x y dx dy _ g2.sub (Rep.mono g2.fz rx) ry (Po.bind h2 fun dz z Hf3 H3 _ g3 rz h3 => ?_)
  have sr3 := sr2.gr g3
  obtain ⟨k, rfl, h4⟩ := Po.asB h3
  refine ⟨k, rep_bl.mp rz, ?_⟩
  cases k with
  | true =>
    rw [if_pos rfl] at h4 ⊢
    exact qc H0 B Hf3 sd σ H3 _ sr3 (Po.bind h4 fun dw w' Hf4 H4 _ g4 rw' h5 => qr' Hf4 H4 y w' dy dw Q g4.sub (Rep.mono g4.fz (Rep.mono g3.fz ry)) rw' h5)
  | false =>
    rw [if_neg Bool.false_ne_true] at h4 ⊢
    exact Po.ret (R := rV X.K) g3.sub h4 (rep_bl.mpr rfl)
theorem ptd_chain {op op' : CmpOp} {g g' : D → D → M D} {fa fb fc : DSt → M D} (ho : OpD X E (compareOp op) g) (ho' : OpD X E (compareOp op') g') (ha : PEd X E a fa) (hb : PEd X E b fb) (hc : PEd X E c fc)
    (hm : lastMarks [op, op'] [b, c] = false := by with_unfolding_all rfl) : PTd X E (.Compare a [op, op'] [b, c] pos) (DL.tB (eChain g g' fa fb fc)) := by
  obtain ⟨r, hr, qr⟩ := ho
  obtain ⟨r', hr', qr'⟩ := ho'
  obtain ⟨ta, pa, qa⟩ := ha
  obtain ⟨tb, pb, qb⟩ := hb
  obtain ⟨tc, pc, qc⟩ := hc
  refine ⟨_, pt_chain hr hr' pa pb pc hm, fun H0 B Hf sd σ H Q sr h => ?_⟩
  refine chain_core qa qb qc qr qr' sr (Po.bind h fun d v Hf1 H1 _ g1 rv h1 => ?_)
  unfold DL.asB at h1
  split at h1
  · exact ⟨_, rep_bl.mp rv, Po.ret (R := rQ) g1.sub h1 rfl⟩
  · exact h1.elim

/-! ### range(a, b) -/
end
end DL

set_option maxHeartbeats 4000000
set_option linter.all false

namespace DL
open PySem PySem.Spec PyProof.Rows L2

/-! ### exceptions: the record, its notes -/
/-- the exception's record at a: its class, its dict, the newest note at T (none yet: T is a itself), which says fl -/
def Nt (h : Heap) (a : Addr) (c : Value) (dx : Option Addr) (T : Addr) (fl : Value) : Prop :=
  ∃ oe vs, h.get? a = some oe ∧ oe.cls = c ∧ oe.dict = dx ∧ oe.data = .fields vs ∧ 1 < vs.size ∧
    ((T = a ∧ vs[1]? = some .none) ∨ (T ≠ a ∧ vs[1]? = some (.ref T) ∧ ∃ oT ts, h.get? T = some oT ∧ oT.data = .fields ts ∧ ts[3]? = some fl))
/-- all but a, T is as it was; of the frames the slots may be others -/
structure Ch (fr : List Addr) (a T : Addr) (h h' : Heap) : Prop where
  keep : ∀ b o, b ≠ a → b ≠ T → b ∉ fr → h.get? b = some o → h'.get? b = some o
  slot : ∀ b o, b ≠ a → b ≠ T → h.get? b = some o → ∃ sl, h'.get? b = some { o with slots := sl }

section
variable {M : Model} {A : Around} {E : Value → Shared → Prop} {s : Shared}
theorem entry_at {base : Heap} {env : Env} {outer : List Env} {L a : Addr} {oe : Obj} {vs : Array Value} {head : Value} {hadNext : Bool} {Q : Unit → Shared → Prop}
    (hA : A.frames = some (env :: outer)) (hF : s.heap.FunFrames base (env :: outer)) (hL : env.frame = some L) (ho : s.heap.get? a = some oe) (hv : oe.data = .fields vs) (hz : 1 < vs.size)
    (k : ∀ h' T, s.heap.objs.size ≤ T → Nt h' a oe.cls oe.dict T (rawInt L) → T ≠ a → Ch (frs (env :: outer)) a a s.heap h' → Q () { s with heap := h' }) :
    wpAny M A (do let p ← frameOf env; let pl ← entryPlaceOf L hadNext; let b ← EntryCells.newEntry head p .none (rawInt L) .none pl; setField (.ref a) 1 b) Q E s := by
  have na : a ∉ (env :: outer).filterMap (·.frame) := fun z => by
    obtain ⟨_, o, q, nf⟩ := hF.mem z
    rw [ho] at q; cases q; exact nf vs hv
  refine wpAny_bind (wpAny_frameOf_fun hA hF hL fun g sl => ?_)
  refine wpAny_bind (wpAny_entryPlaceOf fun pl hp => ?_)
  unfold EntryCells.newEntry newFields
  refine wpAny_bind (wpAny_newObj_type ?_ (hp.sizeOk5 _ _ _ _ _))
  have ga : g.get? a = some oe := (sl.2.1 a na).trans ho
  have nT : g.objs.size ≠ a := Nat.ne_of_gt (Heap.lt_size ga)
  refine wpAny_setField (Heap.get?_push_of_some _ ga) hv hz ?_
  have zs : s.heap.objs.size ≤ g.objs.size := by
    have := sl.1
    omega
  have da := Obj.data_mapFields hv (·.setIfInBounds 1 (Value.ref g.objs.size))
  refine k _ g.objs.size zs ⟨_, _, Heap.get?_update_self _ (Heap.get?_push_of_some _ ga) (Obj.isFreed_of_fields da), Obj.cls_mapFields _ _, ?_, da, by simpa using hz, .inr ⟨nT, by simp [hz], _, _, (Heap.get?_update_other _ _ (Ne.symm nT)).trans (Heap.get?_push_size g rfl), rfl, ?_⟩⟩ nT ⟨fun b o n1 n2 nf q => ?_, fun b o n1 n2 q => ?_⟩
  · obtain ⟨c, d, dt, sls⟩ := oe
    cases dt <;> first | rfl | cases hv
  · first | (simp; done) | (rcases hp with rfl | ⟨_, _, _, _, _, _, _, rfl⟩ <;> simp)
  · rw [Heap.get?_update_other _ _ (Ne.symm n1)]
    exact Heap.get?_push_of_some _ ((sl.2.1 b nf).trans q)
  · obtain ⟨x, e⟩ := sl.2.2 b o q
    exact ⟨x, by rw [Heap.get?_update_other _ _ (Ne.symm n1)]; exact Heap.get?_push_of_some _ e⟩

theorem Ch.trans {fr : List Addr} {a T T' U : Addr} {h h1 h2 : Heap} (x : Ch fr a T h h1) (y : Ch fr a T' h1 h2) (q : ∀ b o, b ≠ a → b ≠ U → h.get? b = some o → b ≠ T ∧ b ≠ T') : Ch fr a U h h2 :=
  ⟨fun b o n1 n2 nf e => y.keep b o n1 (q b o n1 n2 e).2 nf (x.keep b o n1 (q b o n1 n2 e).1 nf e), fun b o n1 n2 e => by
    obtain ⟨sl, e1⟩ := x.slot b o n1 (q b o n1 n2 e).1 e
    obtain ⟨sl', e2⟩ := y.slot b _ n1 (q b o n1 n2 e).2 e1
    exact ⟨sl', e2⟩⟩

/-- the frame is noted -/
theorem note_at {base : Heap} {env : Env} {outer : List Env} {L a T : Addr} {c : Value} {dx : Option Addr} {Q : Unit → Shared → Prop}
    (hA : A.frames = some (env :: outer)) (hF : s.heap.FunFrames base (env :: outer)) (hL : env.frame = some L) (hn : Nt s.heap a c dx T .none)
    (k : ∀ h' T', s.heap.objs.size ≤ T' → Nt h' a c dx T' (rawInt L) → T' ≠ a → Ch (frs (env :: outer)) a T s.heap h' → Q () { s with heap := h' }) : wpAny M A (noteFrame (.ref a) env) Q E s := by
  obtain ⟨oe, vs, ho, hc, hdx, hv, hz, hcase⟩ := hn
  subst hc hdx
  unfold noteFrame
  simp only [hL]
  rcases hcase with ⟨rfl, h1⟩ | ⟨nT, h1, oT, ts, hT, hts, h3⟩
  · refine wpAny_bind (wpAny_field ho hv h1 ?_)
    rw [if_neg (by decide)]
    exact entry_at hA hF hL ho hv hz k
  · refine wpAny_bind (wpAny_field ho hv h1 ?_)
    rw [if_pos (show (Value.ref T != Value.none) = true from by simp)]
    refine wpAny_bind (wpAny_field hT hts h3 ?_)
    rw [if_neg (show ¬ ((Value.none == rawInt L) = true) from by simp [rawInt])]
    refine wpAny_bind (wpAny_setField hT hts (Array.getElem?_eq_some_iff.mp h3).1 ?_)
    have oth : ∀ b, b ≠ T → (s.heap.update T (Obj.mapFields (·.setIfInBounds 3 Value.none))).get? b = s.heap.get? b := fun b nb => Heap.get?_update_other _ _ (Ne.symm nb)
    have nofr : ∀ b o, s.heap.get? b = some o → (∀ ws, o.data ≠ .fields ws) → b ≠ T := fun b o e nf z => by
      rw [z, hT] at e; cases e; exact nf ts hts
    refine entry_at hA (hF.of_keeps fun b o e nf => ⟨o, (oth b (nofr b o e nf)).trans e, rfl⟩) hL ((oth a (Ne.symm nT)).trans ho) hv hz fun h' T' z n1 n2 n3 => k h' T' ?_ n1 n2 ⟨fun b o b1 b2 bf e => n3.keep b o b1 b1 bf ((oth b b2).trans e), fun b o b1 b2 e => n3.slot b o b1 b1 ((oth b b2).trans e)⟩
    have := Heap.size_after_update s.heap T (Obj.mapFields (·.setIfInBounds 3 Value.none))
    show s.heap.objs.size ≤ T'
    have z' : (s.heap.update T (Obj.mapFields (·.setIfInBounds 3 Value.none))).objs.size ≤ T' := z
    omega
/-- the note says another thing -/
theorem flight_at {a T : Addr} {c fl : Value} {dx : Option Addr} {Q : Unit → Shared → Prop} (hn : Nt s.heap a c dx T fl) (nT : T ≠ a)
    (k : ∀ h', h'.objs.size = s.heap.objs.size → Nt h' a c dx T .none → (∀ b, b ≠ T → h'.get? b = s.heap.get? b) → Q () { s with heap := h' }) : wpAny M A (setFlight (.ref a) none) Q E s := by
  obtain ⟨oe, vs, ho, hc, hdx, hv, hz, hcase⟩ := hn
  rcases hcase with ⟨e, _⟩ | ⟨_, h1, oT, ts, hT, hts, h3⟩
  · exact absurd e nT
  have z3 := (Array.getElem?_eq_some_iff.mp h3).1
  refine wpAny_setFlight_none ho hv h1 hT hts z3 ?_
  have oth : ∀ b, b ≠ T → (s.heap.update T (Obj.mapFields (·.setIfInBounds 3 Value.none))).get? b = s.heap.get? b := fun b nb => Heap.get?_update_other _ _ (Ne.symm nb)
  have dT := Obj.data_mapFields hts (·.setIfInBounds 3 Value.none)
  exact k _ (Heap.size_after_update _ _ _) ⟨oe, vs, (oth a (Ne.symm nT)).trans ho, hc, hdx, hv, hz, .inr ⟨nT, h1, _, _, Heap.get?_update_self _ hT (Obj.isFreed_of_fields dT), dT, by simp [Array.getElem?_setIfInBounds, z3]⟩⟩ oth
/-- the frame is left -/
theorem leave_at {base : Heap} {env : Env} {outer : List Env} {L a T : Addr} {c : Value} {dx : Option Addr} {Q : Unit → Shared → Prop}
    (hA : A.frames = some (env :: outer)) (hF : s.heap.FunFrames base (env :: outer)) (hL : env.frame = some L) (hn : Nt s.heap a c dx T .none)
    (k : ∀ h' T', s.heap.objs.size ≤ T' → Nt h' a c dx T' .none → Ch (frs (env :: outer)) a T s.heap h' → Q () { s with heap := h' }) : wpAny M A (leaving env (.ref a)) Q E s := by
  unfold leaving
  refine wpAny_bind (note_at hA hF hL hn fun h' T' z n1 n2 n3 => ?_)
  refine flight_at (s := { s with heap := h' }) n1 n2 fun h2 _ n4 oth => ?_
  exact k h2 T' z n4 ⟨fun b o b1 b2 bf e => (oth b (Nat.ne_of_lt (Nat.lt_of_lt_of_le (Heap.lt_size e) z))).trans (n3.keep b o b1 b2 bf e), fun b o b1 b2 e => by
    obtain ⟨sl, q⟩ := n3.slot b o b1 b2 e
    exact ⟨sl, (oth b (Nat.ne_of_lt (Nat.lt_of_lt_of_le (Heap.lt_size e) z))).trans q⟩⟩
end
end DL

set_option maxHeartbeats 4000000
set_option linter.all false

namespace DL
open PySem PySem.Spec PyProof.Rows L2

theorem hok_ch {P : Program} {w : World} {H : Hp} {h h' : Heap} {fr : List Addr} {a T : Addr} (x : HOk P w H h) (c : Ch fr a T h h') (na : H a = none) (nT : H T = none) (nf : ∀ b ∈ fr, H b = none) : HOk P w H h' := fun b u e => by
  have ne : ∀ d v, H d = some v → d ≠ a ∧ d ≠ T ∧ d ∉ fr := fun d v q => ⟨fun z => (by rw [z, na] at q; cases q), fun z => (by rw [z, nT] at q; cases q), fun z => (by rw [nf d z] at q; cases q)⟩
  refine (x b u e).stay (fun d v hd q => ?_) (fun _ q => q) fun _ _ q => q
  have z : d ≠ a ∧ d ≠ T ∧ d ∉ fr := by
    rcases hd with rfl | hd
    · exact ne _ _ e
    · exact ne _ _ hd
  exact c.keep d v z.1 z.2.1 z.2.2 q

/-- how an exception lies behind a call -/
def CX1 (P : Program) (w : World) : CXT := fun outer H s E e s' => ∃ a H' c dx T, e = .ref a ∧ s'.os = s.os ∧ AllBare s'.gens ∧ Un (frs outer) [] H H' s.heap s'.heap ∧ HOk P w H' s'.heap ∧ Nt s'.heap a c dx T .none ∧
  H' a = none ∧ H' T = none ∧ s.heap.objs.size ≤ a ∧ s.heap.objs.size ≤ T ∧ E c dx H'
/-- an exception that was raised or came back here does what the context wants -/
def Out (X : Cx) (E : XK) : Prop := ∀ (pins : List (Addr × Obj)) (σ : L2.St) (H : Hp) (s : Shared) (a : Addr) (c : Value) (dx : Option Addr) (T : Addr), Inv X pins σ H s → Nt s.heap a c dx T .none → H a = none → H T = none →
  X.s₀.heap.objs.size ≤ a → X.s₀.heap.objs.size ≤ T → E c dx H → X.xe (.ref a) s
theorem Out.passes {X : Cx} {E : XK} (o : Out X E) : Passes (CX1 X.prog X.w) X E := by
  rintro pins σ H s e s' I ⟨a, H', c, dx, T, rfl, os, bare, un, hok, hn, na, nT, za, zT, q⟩
  exact o pins σ H' s' a c dx T (I.call' os un hok bare (fun b z => absurd z (by simp))) hn na nT (Nat.le_trans I.sz za) (Nat.le_trans I.sz zT) q
theorem out_fn {P : Program} {w : World} {K : PySem.W.Frag} {mg : Str → Option Value} {base : Heap} {N : List Str} {qual : Str} {scope : Scope} {f : Addr} {cd : Value} {A : Around} {outer : List Env} {s : Shared} {H : Hp} {E : XK} :
    Out (cxOf (CX1 P w) P w K mg base N qual scope f cd A outer s H E) E := by
  intro pins σ H1 s1 a c dx T I hn na nT za zT q
  have ok := I.ok
  show wpAny (model P w) (A.deeper (envOfC qual scope s.heap.objs.size f cd)) (leaving (envOfC qual scope s.heap.objs.size f cd) (.ref a)) _ _ s1
  refine leave_at (base := base) ok.frames I.stack rfl hn fun h' T' z n1 n2 => ?_
  have lt : ∀ {b : Addr} {o : Obj}, s.heap.get? b = some o → b ≠ a ∧ b ≠ T ∧ b ≠ s.heap.objs.size := fun {b o} e => by
    have h1 := Heap.lt_size e
    have za' : s.heap.objs.size ≤ a := za
    have zT' : s.heap.objs.size ≤ T := zT
    exact ⟨Nat.ne_of_lt (Nat.lt_of_lt_of_le h1 za'), Nat.ne_of_lt (Nat.lt_of_lt_of_le h1 zT'), Nat.ne_of_lt h1⟩
  have nfr : ∀ {b : Addr} {o : Obj}, s.heap.get? b = some o → b ∉ frs outer → b ∉ frs (envOfC qual scope s.heap.objs.size f cd :: outer) := fun {b o} e nf zz => by
    rcases List.mem_cons.mp (I.stkSub b zz) with q1 | q1
    · exact (lt e).2.2 q1
    · exact nf q1
  have ub := I.base
  refine ⟨a, H1, c, dx, T', rfl, I.os, I.bare, ⟨fun b o e n nf nx => ?_, fun b o e n bf nx => ?_, fun b o e n nx => ub.free b o e n nx, fun b o e nx => ?_, ub.tups, ub.frzs, ub.tbls⟩, hok_ch I.hok n2 na nT I.stkFree, n1, na, I.hok.fresh z, za, Nat.le_trans I.sz z, q⟩
  · exact n2.keep b o (lt e).1 (lt e).2.1 (nfr e nf) (ub.keep b o e n nf nx)
  · obtain ⟨sl, e1⟩ := ub.slot b o e n bf nx
    obtain ⟨sl', e2⟩ := n2.slot b _ (lt e).1 (lt e).2.1 e1
    exact ⟨sl', e2⟩
  · obtain ⟨o', e1⟩ := ub.there b o e nx
    obtain ⟨sl', e2⟩ := n2.slot b _ (lt e).1 (lt e).2.1 e1
    exact ⟨_, e2⟩

/-! ### defs that raise -/
def PoC (K : PySem.W.Frag) (Hf H : Hp) (r : M S) (Q : VK) (E : XK) : Prop := match r with
  | .ok s => ∀ v Hf' H', Gr Hf H Hf' H' → RS K H Hf' H' s v → Q v H'
  | .ex x => ∀ c dx Hf' H', Gr Hf H Hf' H' → RepX K Hf' H' x c dx → E c dx H'
  | .bad => False
def spX (K : PySem.W.Frag) (F : List D → M S) : Sp := fun vs H Q E => ∃ Hf ds, Same Hf H ∧ Reps K Hf ds vs ∧ PoC K Hf H (F ds) Q E
theorem fn_x {P : Program} {w : World} {K : PySem.W.Frag} {mg : Str → Option Value} {base : Heap} {x qual : Str} {st : Stmt} {f : Addr} {fd : FuncData} {N ps : List Str} {k m n : Nat} {fb : DSt → M O} (F : Fun K x qual st f fd) (sc : FnScope N ps (defScope st))
    (hn : ps.length = n) (hN : N.length = n + m)
    (hbody : ∀ (cdv : Value) (A : Around) (outer : List Env) (s : Shared) (H : Hp) (E : XK), Room k (A.deeper (envOfC qual (defScope st) s.heap.objs.size f cdv)) →
      PSsd (cxOf (CX1 P w) P w K mg base N qual (defScope st) f cdv A outer s H E) E (defBody st) fb) : FnOk P w K mg base (CX1 P w) (k + 1) f fd ps (spX K (fnD n m fb)) := by
  obtain ⟨oc, od, kV, doc, pm, an, cdv, ct, osl, rfl, lk, hcd⟩ := F.ex
  refine fn_of lk hcd sc (fun vs H Q E h => ?_) (fun A outer s H vs Q E hr h => ?_)
  · obtain ⟨Hf, ds, e, r, hF⟩ := h
    unfold fnD at hF
    split at hF
    · rename_i hl
      rw [← r.length, hl, hn]
    · exact hF.elim
  · obtain ⟨Hf, ds, e, r, q⟩ := h
    obtain ⟨t, p, qt⟩ := hbody cdv A outer s H E hr
    unfold fnD at q
    split at q
    · rename_i hl
      refine ⟨t, p, qt H _ Hf _ (L2.start N vs) H _ (sr_start (N := N) (m := m) e r (by omega)) ?_⟩
      generalize fb (List.map (fun d => some (S.im d)) ds ++ List.replicate m none) = ro at q
      have back : ∀ {Hf' H' : Hp}, Same Hf Hf' → Fin' H (fun a => H a ≠ none ∧ Hf a = none) Hf' H' → Gr Hf H Hf' H' := fun e1 e2 => ⟨e1, e2.sub, e2.all, fun a h1 h2 => e2.ban a ⟨h1, h2⟩⟩
      cases ro with
      | ok o =>
        cases o with
        | rt s2 => exact fun v Hf' H' e1 e2 e3 => q v Hf' H' (back e1 e2) e3
        | nx sd' => exact fun σ' Hf' H' e1 sr' => q .non Hf' H' (back e1 sr'.fin) (show Rep K Hf' .non .non from rep_non.mpr rfl)
        | bk sd' => exact q.elim
        | ct sd' => exact q.elim
      | ex x => exact fun c dx Hf' H' e1 e2 e3 => q c dx Hf' H' (back e1 e2) e3
      | bad => exact q.elim
    · exact q.elim
/-- a def that raises nothing here, too -/
theorem PoC.bind {K : PySem.W.Frag} {E : XK} {Hf H : Hp} {r : M S} {Q : VK} (h : Po K E (rV K) Hf H (r.bind S.toD) Q) : PoC K Hf H r Q E := by
  cases r with
  | bad => exact h
  | ex x => exact h
  | ok s =>
    cases s with
    | im d => exact fun v Hf' H' g rv => h v Hf' H' g rv
    | ow es =>
      rintro v Hf' H' g2 ⟨p, rfl, e1, e2, xs, e3, e4⟩
      refine h _ (upd Hf' p (.lst xs)) H' ⟨g2.fz.trans (same_upd e2 _), fun b u q => ?_, g2.all, fun a h1 h2 => ?_⟩ (rep_lst.mpr ⟨p, xs, rfl, SqL.of upd_same, e4.mono (same_upd e2 _)⟩)
      · by_cases hb : b = p
        · subst hb; rw [upd_same] at q; rw [e3]; exact q
        · rw [upd_ne hb] at q; exact g2.sub b u q
      · have : a ≠ p := fun z => h1 (z ▸ e1)
        rw [upd_ne this]; exact g2.ban a h1 h2
    | od kvs => exact h.elim
    | dk kvs => exact h.elim
    | xc x => exact h.elim
def eCallX (F : List D → M S) (fs : DSt → M (List D)) (sd : DSt) : M D := (fs sd).bind fun ds => (F ds).bind S.toD
section
variable {X : Cx} {E : XK} {pos : Pos} {a : Expr}
theorem pd_callX {k : Nat} {f : Addr} {fd : FuncData} {ps : List Str} {F : List D → M S} {x : Str} {p : Pos} {es : List Expr} {fs : DSt → M (List D)} (G : FnOk X.prog X.w X.K X.mg X.base (CX1 X.prog X.w) k f fd ps (spX X.K F)) (hr : Room k X.A) (hm : X.mg x = some (.ref f)) (hk : PySem.W.keepIn X.K (.ref f) = true) (hb : Binds X.K fd ps [])
    (ho : Out X E) (ha : PAd X E (a :: es) fs) (hg : Gl X x := by rfl) (hdb : (x == ("__debug__" : Str)) = false := by decide) (he : starEach (a :: es) X.env = (false, eval a X.env) :: starEach es X.env := by rfl) (hpl : (backTo pos (starEach es X.env)).any (·.1) = false := by rfl) :
    PEd X E (.Call (.Name x p) (a :: es) [] pos) (eCallX F fs) := by
  obtain ⟨t, pt, qt⟩ := ha
  refine ⟨_, pe_call (dvs := []) (E := E) G hr hg hm hk hb .nil ho.passes pt hdb he hpl, fun H0 B Hf sd σ H Q sr h => ?_⟩
  refine qt H0 B Hf sd σ H _ sr (Po.bind h fun ds vs Hf1 H1 _ g1 rs h1 => ?_)
  exact ⟨Hf1, ds, g1.sub, by rw [List.append_nil]; exact rs, PoC.bind h1⟩
end
end DL

set_option maxHeartbeats 4000000
set_option linter.all false
set_option maxRecDepth 100000

namespace DL
open PySem PySem.Spec PySem.Calls PySem.Builtin PySem.Builtin.ObjectAttr PyProof.Rows L2 PySem.W

/-! ### classes of exceptions -/
def exMro : List Value := [.type "ValueError", .type "Exception", .type "BaseException", .type "object"]
def exOnly : List Value → Bool
  | [] => false
  | .ref _ :: r => exOnly r
  | l => l == exMro
theorem exOnly_cases : ∀ {l : List Value}, exOnly l = true → l = exMro ∨ ∃ c r, l = .ref c :: r ∧ exOnly r = true
  | .ref c :: r, e => .inr ⟨c, r, rfl, e⟩
  | .type _ :: _, e => .inl (beq_iff_eq.mp e)
  | .none :: _, e => .inl (beq_iff_eq.mp e)
  | .bool _ :: _, e => .inl (beq_iff_eq.mp e)
  | .int _ _ :: _, e => .inl (beq_iff_eq.mp e)
  | .str _ _ :: _, e => .inl (beq_iff_eq.mp e)
  | [], e => nomatch e
  | v :: r, e => by
    cases v <;> first | exact .inr ⟨_, _, rfl, e⟩ | exact .inl (beq_iff_eq.mp e)
theorem ex_pass (self : Value) {l : List Value} (e : exOnly l = true) : refuseLoop self "__setattr__" l = pure () := by
  induction l with
  | nil => cases e
  | cons v r ih =>
    rcases exOnly_cases e with q | ⟨c, r', q, e'⟩
    · rw [q]; exact PySem.F.store_ValueError.passes self
    · cases q
      rw [refuseLoop_ref]
      exact ih e'
theorem ex_has {T : Value} (hT : exMro.contains T = true) {l : List Value} (e : exOnly l = true) : l.contains T = true := by
  induction l with
  | nil => cases e
  | cons v r ih =>
    rcases exOnly_cases e with q | ⟨c, r', q, e'⟩
    · rw [q]; exact hT
    · cases q
      rw [List.contains_cons, ih e', Bool.or_true]
structure XCls (K : Frag) (C : Addr) : Prop where
  sa : findIn K (.ref C) "__setattr__" = some (some (.builtin "object.__setattr__"))
  ga : findIn K (.ref C) "__getattribute__" = some (some (.builtin "BaseException.__getattribute__"))
  gn : findIn K (.ref C) "__getattr__" = some none
  hd : hasDictIn K C = true
  ov : (clsIn K C).any (fun cd => exOnly cd.mro) = true

section
variable {prog : Program} {w : World} {A : Around} {s : Shared} {K : Frag} {x C : Addr} {name : Str} {v : Value} {R : Result → Shared → Prop}
theorem x_osa {ox : Obj} {od : Option Obj} {tk : Tok} (X : K.In s.heap) (I : PySem.W.InstAt s.heap x ox C od) (c : XCls K C) (ht : takerIn K C name = some none)
    (h : ∀ b, wpAny (model prog w) A.in1 (storeInOwnDict (.ref x) (.ref C) (.str name tk) name v b)
      (fun fin s' => match fin with | .done f => R (.ok f) s' | .again c' => c'.quiet = true ∧ codeAny (model prog w) A c' R s') (fun e s' => R (.error e) s') s) :
    codeAny (model prog w) A (.call (.builtin "object.__setattr__") ⟨[.ref x, .str name tk, v], []⟩) R s := by
  have SF := PySem.F.store_object
  obtain ⟨cd, hc, ho⟩ := any_some c.ov
  have ne : cd.mro.isEmpty = false := by
    cases q : cd.mro with
    | nil => rw [q] at ho; cases ho
    | cons _ _ => rfl
  have sub : Looks (model prog w) s.heap (isInstance (.ref x) (.type "object")) true :=
    I.type.andThen (looks_mroIn X (by unfold mroIn; rw [hc, Option.bind_some, if_neg (by rw [ne]; decide), ex_has (by decide +kernel) ho]))
  refine codeAny_call_builtin SF.slot.plain SF.entry (@check_slot (model prog w) _ _ s "object.__setattr__" "object" "__setattr__" (.ref x) [.str name tk, v] [] _ SF.kind SF.split sub (SF.args (.ref x) (.str name tk) v) ?_)
  obtain ⟨attr, ha, hr⟩ := Option.bind_eq_some_iff.mp ht
  have hm : Looks (model prog w) s.heap (mroOf (.ref C)) cd.mro := (looks_clsIn X hc).andThen .now
  have tk3 : Looks (model prog w) s.heap (storeTaker? attr) none := by
    cases attr with
    | none => exact .now
    | some a =>
      obtain ⟨b, hb, q⟩ := Option.map_eq_some_iff.mp hr
      refine (looks_takesIn X hb).andThen ?_
      cases b with
      | true => cases q
      | false => exact .now
  rw [osa_eq, refuse_eq]
  refine wpAny_bind (wpAny_bind (I.type.here (wpAny_bind (hm.here ?_))))
  rw [ex_pass _ ho]
  exact wpAny_pure (wpAny_bind (I.type.here (wpAny_bind ((looks_findIn X ha).here (wpAny_bind (tk3.here (h _)))))))

theorem x_set0 {E : Value → Shared → Prop} {vs : Array Value} {sl : Array (Option Value)} {Q : Unit → Shared → Prop} (X : K.In s.heap) (c : XCls K C) (hx : s.heap.get? x = some ⟨.ref C, none, .fields vs, sl⟩) (ht : takerIn K C name = some none)
    (h : ∀ h', h'.get? x = some ⟨.ref C, some s.heap.objs.size, .fields vs, sl⟩ → h'.Ns1 s.heap.objs.size (fun y => if y = name then some v else none) → (∀ b o, b ≠ x → s.heap.get? b = some o → h'.get? b = some o) →
      Q () { s with heap := h', toks := s.toks + 2 }) : wpAny (model prog w) A (setAttr (.ref x) name v) Q E s := by
  have I : PySem.W.InstAt s.heap x ⟨.ref C, none, .fields vs, sl⟩ C none := ⟨hx, rfl, rfl, True.intro⟩
  refine set_plain X I c.sa (x_osa (s := { s with toks := s.toks + 1 }) X I c ht fun b => ?_)
  obtain ⟨cd, hc, hd'⟩ := any_some c.hd
  refine wpAny_bind (wpAny_pure (wpAny_bind (wpAny_bind (wpAny_loadPart hx (wpAny_bind (Looks.here (s := { s with toks := s.toks + 1 }) (looks_clsIn X hc) ?_))))))
  rw [hd']
  have nx : x < s.heap.objs.size := Heap.lt_size hx
  have e1 : (s.heap.push { cls := .type "dict", data := .dict #[] }).get? x = some ⟨.ref C, none, .fields vs, sl⟩ := Heap.get?_push_of_some _ hx
  refine wpAny_bind (wpAny_alloc (wpAny_bind (wpAny_update e1 ?_)))
  refine wpAny_pure (a := some s.heap.objs.size) (wpAny_bind (wpAny_pure (wpAny_bind ?_)))
  have n0 : (s.heap.push { cls := .type "dict", data := .dict #[] }).Ns s.heap.objs.size (fun _ => none) := ⟨_, #[], _, Heap.get?_push_size s.heap rfl, rfl, (fun e he => absurd he (by simp)), fun _ => rfl⟩
  have n1 : ((s.heap.push { cls := .type "dict", data := .dict #[] }).update x fun o => { o with dict := some s.heap.objs.size }).Ns1 s.heap.objs.size (fun _ => none) :=
    (Heap.Ns1.of_empty n0).at fun o q => (Heap.get?_update_other _ _ (Nat.ne_of_lt nx)).trans q
  refine wpAny_nsSet1 (s := { s with heap := (s.heap.push { cls := .type "dict", data := .dict #[] }).update x fun o => { o with dict := some s.heap.objs.size }, toks := s.toks + 1 }) n1 fun h' hn2 hs2 => ?_
  obtain ⟨oD, esD, epD, hoD, hdD, hcD⟩ := hn2.count (PySem.Within.cons name v (ns := []) (fun y hy => absurd rfl hy))
  refine wpAny_bind (wpAny_lookBehind hoD (by rw [hdD]; exact pastItsLine_dict (Nat.le_trans hcD (by rw [List.length_cons]; simp))) ?_)
  refine wpAny_pure (h _ ?_ hn2 fun b o nb e => ?_)
  · exact (hs2.2 x (Nat.ne_of_lt nx)).trans (Heap.get?_update_self _ e1 rfl)
  · have hb : b < s.heap.objs.size := Heap.lt_size e
    exact (hs2.2 b (Nat.ne_of_lt hb)).trans ((Heap.get?_update_other _ _ (Ne.symm nb)).trans (Heap.get?_push_of_some _ e))
end
end DL

set_option maxHeartbeats 4000000
set_option linter.all false
set_option maxRecDepth 100000

namespace DL
open PySem PySem.Spec PySem.Calls PySem.Builtin PySem.Builtin.ObjectAttr PyProof.Rows L2 PySem.W

/-! ### an exception is made -/
theorem push_back {h : Heap} {o v : Obj} {b : Addr} (nb : b ≠ h.objs.size) (q : (h.push o).get? b = some v) : h.get? b = some v := by
  obtain ⟨q1, q2⟩ := (Heap.get?_eq_some _ _ _).1 q
  refine (Heap.get?_eq_some _ _ _).2 ⟨?_, q2⟩
  have q3 : (h.objs.push o)[b]? = some v := q1
  rw [Array.getElem?_push, if_neg nb] at q3
  exact q3
/-- an exception that was made, not raised yet -/
def XN (a C : Addr) (dx : Option Addr) : HO := .ext fun h => ∃ t sl, h.get? a = some ⟨.ref C, dx, .fields #[.ref t, .none, .none, .none, .bool false, .none], sl⟩
theorem xn_ok {P : Program} {w : World} {H : Hp} {h : Heap} {a C t : Addr} {dx : Option Addr} {sl : Array (Option Value)} (e : h.get? a = some ⟨.ref C, dx, .fields #[.ref t, .none, .none, .none, .bool false, .none], sl⟩) : ObjOk P w H h a (XN a C dx) :=
  ⟨⟨t, sl, e⟩, ⟨_, e⟩, fun _ _ ⟨t', sl', e1⟩ k => ⟨t', sl', k _ e1⟩⟩
theorem xn_get {P : Program} {w : World} {H : Hp} {h : Heap} {a C : Addr} {dx : Option Addr} (hk : HOk P w H h) (e : H a = some (XN a C dx)) : ∃ t sl, h.get? a = some ⟨.ref C, dx, .fields #[.ref t, .none, .none, .none, .bool false, .none], sl⟩ := (hk a _ e).1

section
variable {X : Cx} {pins : List (Addr × Obj)} {σ : L2.St} {H : Hp} {s : Shared} {a C : Addr} {f : Str} {y : V} {u : Value} {A : Around} {E : Value → Shared → Prop}
theorem xset_ok {Q : Unit → Shared → Prop} (I : Inv X pins σ H s) (e : H a = some (XN a C none)) (c : XCls X.K C) (n : NoAttr X.K C f) (ry : RelV y u)
    (h : ∀ dx s', H dx = none → dx ≠ a → Inv X pins σ (upd (upd H dx (.xd [(f, y)])) a (XN a C (some dx))) s' → Q () s') : wpAny (model X.prog X.w) A (setAttr (.ref a) f u) Q E s := by
  obtain ⟨t, sl, ea⟩ := xn_get I.hok e
  have la : a < s.heap.objs.size := Heap.lt_size ea
  have hf := I.hok.fresh (Nat.le_refl s.heap.objs.size)
  refine x_set0 I.kIn c ea n.taker fun h' e1 e2 e3 => h s.heap.objs.size _ hf (Nat.ne_of_gt la) ?_
  obtain ⟨od, es, ep, g1, g2⟩ := e2
  have I1 : Inv X pins σ (upd H s.heap.objs.size (.xd [(f, y)])) { s with heap := s.heap.push od, toks := s.toks } :=
    I.laid (fun b v q => Heap.get?_push_of_some _ q) (Nat.le_refl _) ⟨_, ⟨od, es, ep, Heap.get?_push_size _ (by
      have := g2.1
      obtain ⟨c1, c2, c3, c4⟩ := od
      cases this
      rfl), g2⟩, fun g => by
      show RelO (List.lookup g [(f, y)]) (if g = f then some u else none)
      by_cases q : g = f
      · subst q
        simp only [List.lookup, beq_self_eq_true, if_pos]
        exact ry
      · have hb : (g == f) = false := beq_eq_false_iff_ne.mpr q
        simp only [List.lookup, hb, if_neg q]
        trivial⟩
  refine I1.write (x := a) (e := a) (h' := h') (t' := s.toks + 2) (by rw [upd_ne (Nat.ne_of_lt la), e]; exact True.intro) (.inl rfl) (fun b v nb q => ?_) ⟨_, e1⟩ (xn_ok e1)
  by_cases hb : b = s.heap.objs.size
  · subst hb
    rw [Heap.get?_push_size _ (by
      have := g2.1
      obtain ⟨c1, c2, c3, c4⟩ := od
      cases this
      rfl)] at q
    cases q
    exact g1
  · exact e3 b v nb (push_back hb q)
end

section
variable {X : Cx} {o value : Expr} {ta tv : TE} {f : Str} {pos pos' : Pos}
/-- self.f = value, self an exception that was just made -/
def sX0 (K : Frag) (ta tv : TE) (f : Str) : TS := fun D σ H => tv σ H fun y H1 => ta σ H1 fun x H2 => ∃ a C, x = .ref a ∧ H2 a = some (XN a C none) ∧ XCls K C ∧ NoAttr K C f ∧
  ∀ dx, H2 dx = none → dx ≠ a → D.nx σ (upd (upd H2 dx (.xd [(f, y)])) a (XN a C (some dx)))
theorem ps_x0 (ha : PE X o ta) (hv : PE X value tv) (hs : swapsWith value (some (.Attribute o f pos')) pos.line X.env = pure false := by rfl) : PS X (.Assign [.Attribute o f pos'] value pos) (sX0 X.K ta tv f) := by
  intro pins s σ H D I h
  refine plainObj_wpAny_Assign_Attribute (thn (hv pins s σ H _ I h) fun u s1 ⟨y, H1, I1, ry, q⟩ => thn (ha pins s1 σ H1 _ I1 q) fun ov s2 ⟨x, H2, I2, rx, a, C, ex, ea, c, n, q2⟩ => ?_) hs
  subst ex
  obtain rfl : ov = Value.ref a := rx
  exact xset_ok I2 ea c n ry fun dx s3 z1 z2 I3 => ⟨σ, _, I3, q2 dx z1 z2⟩
end
/-- __init__ of one field -/
def spI (C : Addr) (f : Str) : Sp := fun vs H Q _ => ∃ a y, vs = [.ref a, y] ∧ H a = some (XN a C none) ∧ ∀ dx, H dx = none → dx ≠ a → Q .non (upd (upd H dx (.xd [(f, y)])) a (XN a C (some dx)))
theorem fn_init {P : Program} {w : World} {K : Frag} {mg : Str → Option Value} {base : Heap} {x qual self p f : Str} {st : Stmt} {g C : Addr} {fd : FuncData} {p1 p2 p3 p4 : Pos} (F : Fun K x qual st g fd) (sc : FnScope [self, p] [self, p] (defScope st))
    (hb : defBody st = [.Assign [.Attribute (.Name self p1) f p2] (.Name p p3) p4]) (c : XCls K C) (n : NoAttr K C f)
    (v1 : Vis (defScope st) self) (v2 : Vis (defScope st) p) (d1 : (self == ("__debug__" : Str)) = false := by decide) (d2 : (p == ("__debug__" : Str)) = false := by decide)
    (d3 : (self == ("__classdict__" : Str)) = false := by decide) (d4 : (p == ("__classdict__" : Str)) = false := by decide) : FnOk P w K mg base CX0 1 g fd [self, p] (spI C f) := by
  refine F.ok sc (fun vs H Q E h => ?_) (fun cdv A outer s H vs Q E hr h => ?_)
  · obtain ⟨a, y, rfl, _⟩ := h
    rfl
  · obtain ⟨a, y, rfl, h1, h2⟩ := h
    rw [hb]
    refine ⟨_, pss_one (ps_x0 (pe_var (i := 0) rfl v1 d1 d3) (pe_var (i := 1) rfl v2 d2 d4)), ?_⟩
    exact ⟨y, rfl, .ref a, rfl, a, C, rfl, h1, c, n, h2⟩
end DL

set_option maxHeartbeats 4000000
set_option linter.all false
set_option maxRecDepth 100000

namespace DL
open PySem PySem.Spec PySem.Calls PySem.Builtin PySem.Builtin.ObjectAttr PyProof.Rows L2 PySem.W

/-- a class of exceptions with an __init__ of its own, over ValueError by classes without one -/
def exInit (K : Frag) (C fI : Addr) : Bool := match K.lookup C with
  | some ⟨.type "type", _, .cls cd, sl⟩ => (match cd.mro, sl.toList with
    | .ref C' :: bm, [_, _, _, _, some (.builtin n), _] => C' == C && n == "ValueError.__new__" && !cd.hasDel && tailIn K exMro bm && nsOkIn K cd.ns && nsIn K cd.ns "__init__" == some (some (.ref fI))
    | _, _ => false)
  | _ => false
theorem nsMap_some_of {K : Frag} {h : Heap} {N : Addr} {mg : Str → Option Value} {n : Str} {v : Value} (X : K.In h) (G : h.Ns N mg) (e : nsIn K N n = some (some v)) : mg n = some v := by
  obtain ⟨o, es, ep, ho, hd, _, hf⟩ := G
  unfold nsIn at e
  split at e
  · rename_i c d es' n' sl q
    have := X _ _ q
    rw [ho] at this
    cases this
    cases hd
    split at e
    · rename_i en he
      cases e
      rw [← hf]
      unfold nsFind findBy
      rw [← Array.find?_toList, he]
      rfl
    · split at e <;> cases e
  · cases e
structure XC (K : Frag) (C fI : Addr) : Prop where
  at_ : ∃ bm N nm qn bs hdct sn sub ab col dd k0 k1 k2 k3 k5, ∀ h : Heap, K.In h → h.get? C = some (excClassObj nm qn C N bs bm hdct sn sub ab col dd k0 k1 k2 k3 k5 "ValueError.__new__") ∧ OwnTail h exMro bm ∧
    ∃ mN, h.Ns N mN ∧ mN "__init__" = some (.ref fI)
theorem xc_of {K : Frag} {C fI : Addr} (q : exInit K C fI = true) : XC K C fI := by
  unfold exInit at q
  split at q
  · rename_i dd cd sl ho
    split at q
    · rename_i C' bm k0 k1 k2 k3 n k5 hm hs
      simp only [Bool.and_eq_true, beq_iff_eq, Bool.not_eq_true'] at q
      obtain ⟨⟨⟨⟨⟨rfl, rfl⟩, hdel⟩, ht⟩, hok⟩, hni⟩ := q
      obtain ⟨nm, bs, mro, ns, qn, hd, sn, sub, ab, col, del⟩ := cd
      dsimp only at hm hdel hok hni
      subst hm hdel
      have hsl : sl = #[k0, k1, k2, k3, some (.builtin "ValueError.__new__"), k5] := by
        obtain ⟨l⟩ := sl
        simp only at hs
        rw [hs]
      subst hsl
      exact ⟨bm, ns, nm, qn, bs, hd, sn, sub, ab, col, dd, k0, k1, k2, k3, k5, fun h X => ⟨X _ _ ho, tail_of_in X ht, _, .of_isNs (isNs_of_in X hok), nsMap_some_of X (.of_isNs (isNs_of_in X hok)) hni⟩⟩
    · cases q
  · cases q

section
variable {prog : Program} {w : World} {A : Around} {E : Value → Shared → Prop} {h : Heap} {g : Array GenState} {d : Drawn} {t : Nat} {os : OsState}
variable {nm q : Str} {C N : Addr} {bs bm bmB : List Value} {hdct : Bool} {sn : List Str} {sub : List Value} {ab : Bool} {col : Option Bool} {dd : Option Addr} {k0 k1 k2 k3 k5 : Option Value} {B newId initId : String}
abbrev tupO (rest : List Value) : Obj := { cls := .type "tuple", data := .seq rest.toArray }
abbrev excO (C t : Addr) : Obj := { cls := .ref C, data := .fields #[.ref t, .none, .none, .none, .bool false, .none] }

theorem x_type_call (FB : ExcBaseFacts B newId initId bmB) (T : OwnTail h bmB bm) {mN : Str → Option Value} {rest : List Value} {fI : Addr} {oI : Obj} {Q : Fin → Shared → Prop}
    (hC : h.get? C = some (excClassObj nm q C N bs bm hdct sn sub ab col dd k0 k1 k2 k3 k5 newId)) (hN : h.Ns N mN) (hI : mN "__init__" = some (.ref fI)) (ho : h.get? fI = some oI) (hf : oI.cls = .type "function")
    (k : wpAny (model prog w) A (call (.ref fI) (.ref (h.objs.size + 1) :: rest)) (fun r s' => r = .none ∧ Q (.done (.ret (.ref (h.objs.size + 1)))) s') E ⟨(h.push (tupO rest)).push (excO C h.objs.size), g, d, t, os⟩) (hz : rest.length ≤ sizeLine) :
    wpAny (model prog w) A (Builtin.«type.__call__» ⟨.ref C :: rest, []⟩) Q E ⟨h, g, d, t, os⟩ := by
  repeat (first | with_reducible refine wpAny_loadPart_at hC ?_ | with_reducible refine wpAny_madeBy_exc hC ?_ | wp_step)
  refine codeAny_call_builtin_code (Code.quiet_builtin _ FB.quiet) (wpAny_check_new_subT FB T hC ?_)
  refine codeAny_exc_new_subT FB T hC ?_ hz
  show wpAny _ _ _ _ _ _
  have up : ∀ {b : Addr} {o : Obj}, h.get? b = some o → ((h.push (tupO rest)).push (excO C h.objs.size)).get? b = some o := fun e => Heap.get?_push_of_some _ (Heap.get?_push_of_some _ e)
  have c1 := up hC
  have f1 := up ho
  have n1 : ((h.push (tupO rest)).push (excO C h.objs.size)).Ns N mN := let ⟨o, es, ep, e, r⟩ := hN; ⟨o, es, ep, up e, r⟩
  have x1 : ((h.push (tupO rest)).push (excO C h.objs.size)).get? (h.objs.size + 1) = some (excO C h.objs.size) := by heap_get
  have cC : (Value.ref C :: bm).contains (.ref C) = true := by simp
  have t1 := T.keeps (h' := (h.push (tupO rest)).push (excO C h.objs.size)) fun b o e => up e
  unfold isInstance
  repeat (first | with_reducible refine wpAny_loadPart_at x1 ?_ | (with_reducible refine wpAny_isSubtype_exc c1 ?_; rw [cC]) | wp_step)
  show wpAny _ _ (typeLookup (.ref C) _) _ _ _
  refine wpAny_typeLookup_tail c1 n1 t1 FB.mroIs FB.init.lookup ?_
  rw [hI]
  refine wpAny_holding (wpAny_bind ?_)
  unfold bindSpecial
  refine wpAny_bind (wpAny_typeOf (T := "function") ⟨_, f1, hf⟩ ?_)
  rw [if_pos (by decide)]
  refine wpAny_pure (wpAny_bind (wpAny_mono k (fun r s' hr => ?_) fun _ _ x => x))
  obtain ⟨rfl, hQ⟩ := hr
  wp_walk
  exact hQ
theorem x_call (FB : ExcBaseFacts B newId initId bmB) (T : OwnTail h bmB bm) {mN : Str → Option Value} {rest : List Value} {fI : Addr} {oI : Obj} {Q : Value → Shared → Prop}
    (hC : h.get? C = some (excClassObj nm q C N bs bm hdct sn sub ab col dd k0 k1 k2 k3 k5 newId)) (hN : h.Ns N mN) (hI : mN "__init__" = some (.ref fI)) (ho : h.get? fI = some oI) (hf : oI.cls = .type "function")
    (k : wpAny (model prog w) (A.under (.builtin "type.__call__" ⟨.ref C :: rest, []⟩)) (call (.ref fI) (.ref (h.objs.size + 1) :: rest)) (fun r s' => r = .none ∧ Q (.ref (h.objs.size + 1)) s') E ⟨(h.push (tupO rest)).push (excO C h.objs.size), g, d, t, os⟩) (hz : rest.length ≤ sizeLine) :
    wpAny (model prog w) A (call (.ref C) rest) Q E ⟨h, g, d, t, os⟩ := by
  have a1 := tc_lookup
  have a2 := tc_bind (.ref C)
  have a3 : (⟨h, g, d, t, os⟩ : Shared).TypeIs (.ref C) "type" := ⟨_, hC, rfl⟩
  refine wpAny_call (codeAny_of_tree ?_)
  show wpAny _ _ (callAny (.ref C) _) _ _ _
  repeat (any_goals (first | assumption | with_reducible refine wpAny_loadPart_at hC ?_ | wp_step))
  refine ⟨rfl, ?_⟩
  exact codeAny_call_builtin_at (Code.quiet_builtin _ (by decide +kernel)) entry_typeCall (wpAny_check_type_call_sub hC (x_type_call FB T hC hN hI ho hf k hz))
end

section
variable {X : Cx} {k : Nat} {fI C : Addr} {fd : FuncData} {self p f x : Str} {np pos cpos : Pos} {e : Expr} {es : List Expr} {t : TA}
theorem run_x {pins : List (Addr × Obj)} {σ : L2.St} {H : Hp} {s : Shared} {Q : VK} {us : List Value} {v : V} (xc : XC X.K C fI) (fn : isFn X.K (.ref fI) = true) (F : FnOk X.prog X.w X.K X.mg X.base CX0 k fI fd [self, p] (spI C f)) (hr : Room (k + 1) X.A) (hb : Binds X.K fd [self, p] [])
    (I : Inv X pins σ H s) (r : Vals [v] us) (q : ∀ a dx, s.heap.objs.size ≤ a → H a = none → H dx = none → dx ≠ a → Q (.ref a) (upd (upd H dx (.xd [(f, v)])) a (XN a C (some dx)))) :
    wpAny (model X.prog X.w) X.A (call (.ref C) us) (EP X pins σ Q) X.xe s := by
  obtain ⟨bm, N, nm, qn, bs, hdct, sn, sub, ab, col, dd, k0, k1, k2, k3, k5, all⟩ := xc.at_
  obtain ⟨hC, T, mN, hN, hI⟩ := all s.heap I.kIn
  have hfn : typeIn X.K (.ref fI) = some (.type "function") := beq_iff_eq.mp fn
  obtain ⟨oI, hoI, hcI⟩ := Option.map_eq_some_iff.mp hfn
  have lu : us.length = 1 := r.length.symm
  obtain ⟨hh, g, d, tk, os⟩ := s
  refine x_call PySem.F.excBase_ValueError T hC hN hI (I.kIn _ _ hoI) hcI ?_ (by rw [lu]; decide)
  have I0 : Inv X pins σ H ⟨hh.push (tupO us), g, d, tk, os⟩ := I.kept (h' := hh.push (tupO us)) (t' := tk) fun b u e => Heap.get?_push_of_some _ e
  have sz : (hh.push (tupO us)).objs.size = hh.objs.size + 1 := Heap.size_push _ _
  have ex : ((hh.push (tupO us)).push (excO C hh.objs.size)).get? (hh.objs.size + 1) = some (excO C hh.objs.size) := by
    rw [← sz]; exact Heap.get?_push_size _ rfl
  have I1 : Inv X pins σ (upd H (hh.objs.size + 1) (XN (hh.objs.size + 1) C none)) ⟨(hh.push (tupO us)).push (excO C hh.objs.size), g, d, tk, os⟩ :=
    I0.laid (a := hh.objs.size + 1) (h' := (hh.push (tupO us)).push (excO C hh.objs.size)) (t' := tk) (fun b u e => Heap.get?_push_of_some _ e) (Nat.le_of_eq sz) (xn_ok ex)
  have r2 : Vals [V.ref (hh.objs.size + 1), v] (Value.ref (hh.objs.size + 1) :: us) := .cons rfl r
  have hl : ((Value.ref (hh.objs.size + 1) :: us) ++ []).length = [self, p].length := by simp [lu]
  have fa : H (hh.objs.size + 1) = none := I.hok.fresh (Nat.le_succ _)
  have sp : spI C f [V.ref (hh.objs.size + 1), v] (upd H (hh.objs.size + 1) (XN (hh.objs.size + 1) C none)) (fun v2 H2 => v2 = .non ∧ Q (.ref (hh.objs.size + 1)) H2) E0 := by
    refine ⟨_, v, rfl, upd_same, fun dx z1 z2 => ⟨rfl, ?_⟩⟩
    have h1 : H dx = none := by rw [upd_ne z2] at z1; exact z1
    have e2 : upd (upd (upd H (hh.objs.size + 1) (XN (hh.objs.size + 1) C none)) dx (.xd [(f, v)])) (hh.objs.size + 1) (XN (hh.objs.size + 1) C (some dx)) = upd (upd H dx (.xd [(f, v)])) (hh.objs.size + 1) (XN (hh.objs.size + 1) C (some dx)) := by
      funext b
      unfold upd
      by_cases b1 : b = hh.objs.size + 1
      · simp only [if_pos b1]
      · by_cases b2 : b = dx
        · simp only [if_neg b1, if_pos b2]
        · simp only [if_neg b1, if_neg b2]
    rw [e2]
    exact q _ dx (Nat.le_succ _) fa h1 z2
  have bnd := hb ⟨(hh.push (tupO us)).push (excO C hh.objs.size), g, d, tk, os⟩ (Value.ref (hh.objs.size + 1) :: us) I1.kIn hl
  rw [List.append_nil] at bnd
  refine wpAny_call (codeAny_mono (F.run _ X.stack _ _ ⟨Value.ref (hh.objs.size + 1) :: us, []⟩ (Value.ref (hh.objs.size + 1) :: us) _ _ E0 (hr.make C us []) (I1.env0.make C us []) bnd r2 sp) fun rr s' hq' => ?_)
  cases rr with
  | error e => exact False.elim hq'
  | ok fl =>
    cases fl with
    | ret u =>
      obtain ⟨v2, H', I3, rv, ev, q3⟩ := I1.after hq'
      subst ev
      exact ⟨rv, ⟨V.ref (hh.objs.size + 1), H', I3, rfl, q3⟩⟩
    | next => exact False.elim hq'
    | brk => exact False.elim hq'
    | cont => exact False.elim hq'
end
end DL

set_option maxHeartbeats 4000000
set_option linter.all false
set_option maxRecDepth 100000

namespace DL
open PySem PySem.Spec PySem.Calls PySem.Builtin PySem.Builtin.ObjectAttr PyProof.Rows L2 PySem.W

/-- what is known of a thing of its own is forgotten -/
theorem forget_ext {X : Cx} {pins : List (Addr × Obj)} {σ : L2.St} {H : Hp} {s : Shared} {a : Addr} {φ : Heap → Prop} (I : Inv X pins σ (upd H a (.ext φ)) s) (ha : H a = none) (h0 : X.s₀.heap.objs.size ≤ a) : Inv X pins σ H s := by
  have dn : ∀ b o, H b = some o → upd H a (.ext φ) b = some o := fun b o q => by rw [upd_ne (ne_of_none q ha)]; exact q
  have up : ∀ b o, upd H a (.ext φ) b = some o → (∀ ψ, o ≠ .ext ψ) → H b = some o := fun b o q n => by
    by_cases hb : b = a
    · subst hb; rw [upd_same] at q; cases q; exact absurd rfl (n φ)
    · rwa [upd_ne hb] at q
  have nn : ∀ b, upd H a (.ext φ) b = none → H b = none := fun b q => by
    by_cases hb : b = a
    · subst hb; exact ha
    · rwa [upd_ne hb] at q
  have B := I.base
  refine ⟨I.ok, I.os, I.bare, ⟨B.keep, B.slot, fun b o e n nx => nn b (B.free b o e n nx), B.there, fun b xs e => up b _ (B.tups b xs e) (fun _ q => nomatch q), fun b o u e => up b _ (B.frzs b o u e) (fun _ q => nomatch q), fun b ps e => ?_⟩, I.loc, I.cell, nn _ I.free, fun y c e => nn _ (I.freeC y c e), fun q hq => ?_, fun b o e => ?_, I.len⟩
  · obtain ⟨m, q⟩ := B.tbls b ps e
    exact ⟨m, up b _ q (fun _ q => nomatch q)⟩
  · obtain ⟨p1, p2, p3⟩ := I.pin q hq
    exact ⟨p1, nn _ p2, p3⟩
  · exact (I.hok b o (dn b o e)).stay (fun _ _ _ q => q) (fun c q => up c _ q (fun _ z => nomatch z)) fun c xs q => up c _ q (fun _ z => nomatch z)

section
variable {M : Model} {A : Around} {E : Value → Shared → Prop} {s : Shared} {env : Env}
theorem x_raise {K : Frag} {C fI : Addr} {x : Sem Value} {Q : Flow → Shared → Prop} (xc : XC K C fI) (hh : A.handled = none)
    (h : wpAny M A x (fun v s₁ => ∃ a dx t sl, v = .ref a ∧ K.In s₁.heap ∧ s₁.heap.get? a = some ⟨.ref C, dx, .fields #[.ref t, .none, .none, .none, .bool false, .none], sl⟩ ∧ E (.ref a) s₁) E s) :
    wpAny M A (raiseStmt env (some x) none) Q E s := by
  obtain ⟨bm, N, nm, qn, bs, hdct, sn, sub, ab, col, dd, k0, k1, k2, k3, k5, all⟩ := xc.at_
  unfold raiseStmt
  refine wpAny_bind (wpAny_mono h (fun v s₁ h₁ => ?_) fun _ _ z => z)
  obtain ⟨a, dx, t, sl, rfl, KI, he, hE⟩ := h₁
  obtain ⟨hC, T, _⟩ := all _ KI
  obtain ⟨hp, g, d, tk, os⟩ := s₁
  have hB : (Value.ref C :: bm).contains (.type "BaseException") = true := by
    rw [List.contains_cons, T.hasType (show exMro.contains (.type "BaseException") = true by decide +kernel), Bool.or_true]
  repeat (first | with_reducible refine wpAny_loadPart_at he ?_ | with_reducible refine wpAny_loadPart_at hC ?_ | (with_reducible refine wpAny_isSubtype_exc hC ?_; rw [hB]) | wp_step)
  exact wpAny_raiseNew_none hh hE
end

section
variable {X : Cx} {E : XK} {k : Nat} {fI C : Addr} {fd : FuncData} {self p f x : Str} {np pos cpos : Pos} {e : Expr} {es : List Expr} {t : TA}
def tRaise (C : Addr) (f : Str) (E : XK) (t : TA) : TS := fun _ σ H => t σ H fun vs H1 => ∃ v, vs = [v] ∧ ∀ dx, H1 dx = none → E (.ref C) (some dx) (upd H1 dx (.xd [(f, v)]))
theorem ps_raise (o : Out X E) (hc : X.calm = true) (xc : XC X.K C fI) (kp : keepIn X.K (.ref C) = true) (fn : isFn X.K (.ref fI) = true) (F : FnOk X.prog X.w X.K X.mg X.base CX0 k fI fd [self, p] (spI C f)) (hr : Room (k + 1) X.A) (hb : Binds X.K fd [self, p] [])
    (hg : Gl X x) (hm : X.mg x = some (.ref C)) (ha : PA X (e :: es) t) (hdb : (x == ("__debug__" : Str)) = false := by decide)
    (he : starEach (e :: es) X.env = (false, eval e X.env) :: starEach es X.env := by rfl) (hpl : (backTo cpos (starEach es X.env)).any (·.1) = false := by rfl) :
    PS X (.Raise (some (.Call (.Name x np) (e :: es) [] cpos)) none pos) (tRaise C f E t) := by
  intro pins s σ H D I h
  rw [arm_exec_Raise]
  refine wpAny_bind (wpAny_standAt ?_)
  refine x_raise xc (I.ok.hd hc) ?_
  have core : wpAny (model X.prog X.w) X.A (eval (.Call (.Name x np) (e :: es) [] cpos) X.env) (fun v s₁ => ∃ a dx t sl, v = .ref a ∧ X.K.In s₁.heap ∧ s₁.heap.get? a = some ⟨.ref C, dx, .fields #[.ref t, .none, .none, .none, .bool false, .none], sl⟩ ∧ X.xe (.ref a) s₁) X.xe s := by
    refine wpAny_Call_Name_kw (ld_glob I hg hm ?_ hdb)
    refine PySem.W.callWith_K (h₀ := X.base) I.ok.mod.kin kp (thn (ha cpos pins s σ H _ I h) fun us s1 ⟨vs, H1, I1, r, v, ev, q⟩ => ⟨I1.kIn, ?_⟩) he hpl
    subst ev
    refine thn (run_x (Q := fun v2 H2 => ∃ a dx, v2 = .ref a ∧ X.s₀.heap.objs.size ≤ a ∧ H1 a = none ∧ H1 dx = none ∧ dx ≠ a ∧ H2 = upd (upd H1 dx (.xd [(f, v)])) a (XN a C (some dx))) xc fn F hr hb I1 r fun a dx z1 z2 z3 z4 => ⟨a, dx, rfl, Nat.le_trans I1.sz z1, z2, z3, z4, rfl⟩) fun u s2 h2 => ?_
    obtain ⟨v2, H2, I2, r2, a, dx, rfl, z1, z2, z3, z4, rfl⟩ := h2
    obtain rfl : u = Value.ref a := r2
    obtain ⟨t', sl, e2⟩ := xn_get I2.hok (upd_same)
    have na : upd H1 dx (.xd [(f, v)]) a = none := by rw [upd_ne (Ne.symm z4)]; exact z2
    have I3 : Inv X pins σ (upd H1 dx (.xd [(f, v)])) s2 := forget_ext I2 na z1
    exact ⟨a, some dx, t', sl, rfl, I3.kIn, e2, o pins σ _ s2 a (.ref C) (some dx) a I3 ⟨_, _, e2, rfl, rfl, rfl, by simp, .inl ⟨rfl, rfl⟩⟩ na na z1 z1 (q dx z3)⟩
  exact wpAny_bind (wpAny_mono core (fun v s₁ h₁ => wpAny_bind (wpAny_standAt (wpAny_pure h₁))) fun _ _ z => z)

def sRaise (cls f : Str) (fs : DSt → M (List D)) (sd : DSt) : M O := (fs sd).bind fun ds => match ds with
  | [d] => .ex ⟨cls, [f], [d]⟩
  | _ => .bad
theorem psd_raise (o : Out X E) (hc : X.calm = true) (xc : XC X.K C fI) (kp : keepIn X.K (.ref C) = true) (fn : isFn X.K (.ref fI) = true) (F : FnOk X.prog X.w X.K X.mg X.base CX0 k fI fd [self, p] (spI C f)) (hr : Room (k + 1) X.A) (hb : Binds X.K fd [self, p] [])
    (hm : X.mg x = some (.ref C)) (hn : nsIn X.K mainGlobals x = some (some (.ref C))) {fs : DSt → M (List D)} (ha : PAd X E (e :: es) fs) (hg : Gl X x := by rfl) (hdb : (x == ("__debug__" : Str)) = false := by decide)
    (he : starEach (e :: es) X.env = (false, eval e X.env) :: starEach es X.env := by rfl) (hpl : (backTo cpos (starEach es X.env)).any (·.1) = false := by rfl) :
    PSd X E (.Raise (some (.Call (.Name x np) (e :: es) [] cpos)) none pos) (sRaise x f fs) := by
  obtain ⟨t, pt, qt⟩ := ha
  refine ⟨_, ps_raise o hc xc kp fn F hr hb hg hm pt hdb he hpl, fun H0 B Hf sd σ H D sr h => ?_⟩
  refine qt H0 B Hf sd σ H _ sr (PoS.bind sr h fun ds vs Hf1 H1 _ g1 sr1 rs h1 => ?_)
  match ds, rs, h1 with
  | [d], rs, h1 =>
    obtain ⟨v, r, rfl, rv, rn⟩ := reps_cons.mp rs
    rw [reps_nil] at rn
    subst rn
    refine ⟨v, rfl, fun dx z => ?_⟩
    have sm := same_upd (sr1.sub.free z) (.xd [(f, v)])
    refine h1 (.ref C) (some dx) (upd Hf1 dx (.xd [(f, v)])) _ sm ⟨sr1.sub.upd dx _, sr1.all.trans (same_upd z _), fun a hB => ?_⟩ ⟨C, [v], rfl, hn, ⟨upd_same, rfl⟩, Reps.cons (rv.mono sm) Reps.nil⟩
    have : a ≠ dx := fun q => by
      have := sr1.all.ne (sr1.bt a hB)
      rw [q] at this
      exact this z
    rw [upd_ne this]; exact sr1.ban a hB
  | [], _, h1 => exact h1.elim
  | _ :: _ :: _, _, h1 => exact h1.elim
end
end DL

set_option maxHeartbeats 4000000
set_option linter.all false
set_option maxRecDepth 100000

namespace DL
open PySem PySem.Spec PySem.Calls PySem.Builtin PySem.Builtin.ObjectAttr PyProof.Rows L2 PySem.W

/-! ### an exception is caught -/
section
variable {X : Cx} {pins : List (Addr × Obj)} {σ : L2.St} {H : Hp} {s : Shared} {h' : Heap} {a T C : Addr} {e : Value}
/-- what lies at the address is no record of the frame's -/
structure Fresh (X : Cx) (pins : List (Addr × Obj)) (b : Addr) : Prop where
  lo : X.s₀.heap.objs.size ≤ b
  nl : b ≠ X.env.locals
  nc : ∀ x c, X.env.cells.lookup x = some c → c ≠ b
  np : ∀ p ∈ X.pn ++ pins, p.1 ≠ b
end
theorem SR.drop {K : Frag} {H0 Hf H : Hp} {B : Addr → Prop} {sd : DSt} {σ : L2.St} (r : SR K H0 B Hf sd σ H) (i : Nat) : SR K H0 B Hf (sd.set i none) (σ.set i none) H := by
  have bk : ∀ {j : Nat} {t : S}, (sd.set i none)[j]? = some (some t) → i ≠ j ∧ sd[j]? = some (some t) := fun {j t} q => by
    by_cases hj : i = j
    · subst hj
      have hlt : i < sd.length := by
        have := (List.getElem?_eq_some_iff.mp q).1; simpa using this
      rw [List.getElem?_set_self hlt] at q
      cases q
    · rw [List.getElem?_set_ne hj] at q
      exact ⟨hj, q⟩
  refine ⟨r.sub, r.all, r.ban, r.bt, by rw [List.length_set, List.length_set]; exact r.len, fun j t q z => ?_, fun j t q z => ?_, fun j k t u p hjk q1 o1 q2 o2 q3 q4 => ?_⟩
  · rw [List.getElem?_set_ne (bk q).1]; exact r.imS j t (bk q).2 z
  · rw [List.getElem?_set_ne (bk q).1]; exact r.ow j t (bk q).2 z
  · rw [List.getElem?_set_ne (bk q1).1] at q3
    rw [List.getElem?_set_ne (bk q2).1] at q4
    exact r.sep j k t u p hjk (bk q1).2 o1 (bk q2).2 o2 q3 q4
/-- the class is caught by that clause -/
structure Hits (K : Frag) (C D : Addr) : Prop where
  sub : subIn K (.ref C) (.ref D) = some true
  exc : subIn K (.ref D) (.type "BaseException") = some true
  ty : typeIn K (.ref D) = some (.type "type")
  tt : instIn K (.ref D) (.type "type") = some true
  nt : instIn K (.ref D) (.type "tuple") = some false
end DL

set_option maxHeartbeats 4000000
set_option linter.all false
set_option maxRecDepth 100000

namespace DL
open PySem PySem.Spec PySem.Calls PySem.Builtin PySem.Builtin.ObjectAttr PyProof.Rows L2 PySem.W

section
variable {X : Cx} {E : XK} {a : Expr}
end
end DL

set_option maxHeartbeats 4000000
set_option linter.all false
set_option maxRecDepth 100000

namespace DL
open PySem PySem.Spec PySem.Calls PySem.Builtin PySem.Builtin.ObjectAttr PyProof.Rows L2 PySem.W

section
variable {prog : Program} {w : World} {A : Around} {E : Value → Shared → Prop} {s : Shared} {K : Frag} {x C : Addr} {ox : Obj} {od : Option Obj} {name : Str} {tk : Tok} {v : Value} {R : Result → Shared → Prop}
structure XKit (K : Frag) (C : Addr) : Prop where
  ha : findIn K (.ref C) "__class__" = some (some (.builtin "object.__class__"))
  hn : specialIn K (.builtin "object.__class__") "__get__" = some (some (.builtin "getset_descriptor.__get__"))
  ht : takesIn K (.builtin "object.__class__") = some true
  hm : mroIn K C (.type "object") = some true
end
end DL

set_option maxHeartbeats 4000000
set_option linter.all false
set_option maxRecDepth 100000

namespace DL
open PySem PySem.Spec PySem.Calls PySem.Builtin PySem.Builtin.ObjectAttr PyProof.Rows L2 PySem.W

/-! ### what is asked of an exception that was caught -/
section
variable {X : Cx} {E : XK} {pos p p2 p3 : Pos} {vn cn f : Str}
/-- what is known of the classes that may be raised -/
structure XKnow (K : Frag) (y : Str) (C : Addr) : Prop where
  at_ : nsIn K mainGlobals y = some (some (.ref C))
  cl : XCls K C
  kt : XKit K C
end
/-! ### defs whose first argument is an exception -/
section
variable {X : Cx} {E : XK} {pos p p2 : Pos} {vn : Str}
end
end DL

set_option maxHeartbeats 4000000
set_option linter.all false
set_option maxRecDepth 100000

namespace DL
open PySem PySem.Spec PyProof.Rows L2

/-! ### zip of lists and tuples -/
/-- an iterator of a list (false), of a tuple (true) -/
def ItK (t : Bool) (h : Heap) (i l : Addr) (k : Nat) : Prop := ∃ o, h.get? i = some o ∧ o.cls = .type (if t then "tuple_iterator" else "list_iterator") ∧ o.data = .fields #[.ref l, .int k 0]
def SqK (t : Bool) (h : Heap) (l : Addr) (xs : Array Value) : Prop := ∃ o, h.get? l = some o ∧ o.cls = .type (if t then "tuple" else "list") ∧ ∃ n, o.data = .seq xs n
theorem ItK.at {t : Bool} {h h' : Heap} {i l : Addr} {k : Nat} (x : ItK t h i l k) (q : ∀ o, h.get? i = some o → h'.get? i = some o) : ItK t h' i l k := let ⟨o, e, r⟩ := x; ⟨o, q o e, r⟩
theorem SqK.at {t : Bool} {h h' : Heap} {l : Addr} {xs : Array Value} (x : SqK t h l xs) (q : ∀ o, h.get? l = some o → h'.get? l = some o) : SqK t h' l xs := let ⟨o, e, r⟩ := x; ⟨o, q o e, r⟩

section
variable {prog : Program} {w : World} {A : Around} {E : Value → Shared → Prop} {s : Shared}
theorem nextK_item {t : Bool} {it l : Addr} {i : Nat} {xs : Array Value} {x : Value} {Q : Value → Shared → Prop} (hi : ItK t s.heap it l i) (hl : SqK t s.heap l xs) (hx : xs[i]? = some x)
    (hQ : ∀ h', ItK t h' it l (i + 1) → Heap.SameBut it s.heap h' → Q x { s with heap := h' }) : wpAny (model prog w) A (Builtin.SmallTypes.nextOf (.ref it)) Q E s := by
  cases t with
  | false => exact wpAny_nextOf_list_item (show s.heap.IsListIter it l i from hi) (show s.heap.IsList l xs from hl) hx hQ
  | true =>
    obtain ⟨o, ho, hc, hd⟩ := id hi
    obtain ⟨ol, hol, _, nl, hdl⟩ := hl
    have ty : s.TypeIs (.ref it) "tuple_iterator" := ⟨o, ho, hc⟩
    unfold Builtin.SmallTypes.nextOf
    refine wpAny_bind (wpAny_callSpecial?_slot (name := Str.ofString "__next__") ty PyProof.Rows.slot_tupleiter_next (wpAny_call_entry PyProof.Rows.slot_tupleiter_next ty PyProof.Rows.entry_tupleiter_next ?_ (PyProof.Rows.args_tupleiter_next _)))
    refine wpAny_bind (m := field (.ref it) 0) (wpAny_field ho hd (x := .ref l) rfl ?_)
    dsimp only
    rw [if_neg (fun z : (Value.ref l == Value.none) = true => Bool.false_ne_true z)]
    refine wpAny_bind (m := field (.ref it) 1) (wpAny_field ho hd (x := .int i 0) rfl (wpAny_bind (m := seqItems? (.ref l)) (wpAny_seqItems hol hdl ?_)))
    simp only [Int.toNat_natCast, hx]
    refine wpAny_bind (wpAny_setField ho hd (by simp) (wpAny_pure ⟨x, rfl, wpAny_pure (hQ _ ⟨_, Heap.get?_update_self _ ho (Obj.isFreed_of_fields (Obj.data_mapFields hd _)), (Obj.cls_mapFields ..).trans hc, ?_⟩ (Heap.SameBut.update ..))⟩))
    rw [Obj.data_mapFields hd]; simp [rawInt]
theorem nextK_end {t : Bool} {it l : Addr} {i : Nat} {xs : Array Value} {Q : Value → Shared → Prop} (hh : A.handled = none) (hi : ItK t s.heap it l i) (hl : SqK t s.heap l xs) (hx : xs[i]? = none)
    (hE : ∀ h' e, Heap.ExtBut it s.heap h' → (∃ o, h'.get? e = some o ∧ o.cls = .type "StopIteration") → E (.ref e) { s with heap := h' }) : wpAny (model prog w) A (Builtin.SmallTypes.nextOf (.ref it)) Q E s := by
  cases t with
  | false => exact wpAny_nextOf_list_end hh (show s.heap.IsListIter it l i from hi) (show s.heap.IsList l xs from hl) hx hE
  | true =>
    obtain ⟨o, ho, hc, hd⟩ := id hi
    obtain ⟨ol, hol, _, nl, hdl⟩ := hl
    have ty : s.TypeIs (.ref it) "tuple_iterator" := ⟨o, ho, hc⟩
    unfold Builtin.SmallTypes.nextOf
    refine wpAny_bind (wpAny_callSpecial?_slot (name := Str.ofString "__next__") ty PyProof.Rows.slot_tupleiter_next (wpAny_call_entry PyProof.Rows.slot_tupleiter_next ty PyProof.Rows.entry_tupleiter_next ?_ (PyProof.Rows.args_tupleiter_next _)))
    refine wpAny_bind (m := field (.ref it) 0) (wpAny_field ho hd (x := .ref l) rfl ?_)
    dsimp only
    rw [if_neg (fun z : (Value.ref l == Value.none) = true => Bool.false_ne_true z)]
    refine wpAny_bind (m := field (.ref it) 1) (wpAny_field ho hd (x := .int i 0) rfl (wpAny_bind (m := seqItems? (.ref l)) (wpAny_seqItems hol hdl ?_)))
    simp only [Int.toNat_natCast, hx]
    refine wpAny_bind (wpAny_rule (wpAny_bind (wpAny_setField ho hd (by simp) (wpAny_bind (m := newExc (.type "StopIteration") []) ?_))))
    simp only [newExc, newTuple]
    refine wpAny_bind (wpAny_newObj_type (wpAny_bind (m := firstArgMember _ _) (wpAny_of_eq (a := Value.none) (by first | rfl | (simp only [firstArgMember]; rfl)) (wpAny_newObj_type ?_ (by size_fits)))) (by size_fits))
    simp only [raiseNew]
    refine wpAny_bind (wpAny_handled ?_)
    first | rw [show A.in1.handled = none from hh] | rw [hh]
    exact wpAny_bind (wpAny_pure (wpAny_throw (hE _ _ (((Heap.SameBut.update ..).extBut.push _).push _) ⟨_, Heap.get?_push_size _ rfl, rfl⟩)))
theorem iterK {t : Bool} {l : Addr} {xs : Array Value} {Q : Value → Shared → Prop} (hl : SqK t s.heap l xs)
    (hQ : Q (.ref s.heap.objs.size) { s with heap := s.heap.push { cls := .type (if t then "tuple_iterator" else "list_iterator"), data := .fields #[.ref l, .int 0 0] } }) : wpAny (model prog w) A (pyIter (.ref l)) Q E s := by
  cases t with
  | false => exact wpAny_pyIter_list (show s.heap.IsList l xs from hl) hQ
  | true => exact PyProof.Rows.iter_tuple (show IsTup s.heap l xs from hl) hQ
abbrev itO (t : Bool) (l : Addr) : Obj := { cls := .type (if t then "tuple_iterator" else "list_iterator"), data := .fields #[.ref l, .int 0 0] }
end
def SqG (t : Bool) (K : PySem.W.Frag) (H : Hp) (a : Addr) (xs : List V) : Prop := if t = true then SqT K H a xs else SqL K H a xs
theorem inv_sqg {X : Cx} {pins : List (Addr × Obj)} {σ : L2.St} {H : Hp} {s : Shared} {t : Bool} {a : Addr} {xs : List V} (I : Inv X pins σ H s) (h : SqG t X.K H a xs) : ∃ its : List Value, Vals xs its ∧ SqK t s.heap a its.toArray := by
  cases t with
  | false =>
    obtain ⟨its, rv, p, _⟩ := I.list (show SqL X.K H a xs from h)
    exact ⟨its, rv, p.isList⟩
  | true =>
    obtain ⟨its, rv, p, _⟩ := I.tuple (show SqT X.K H a xs from h)
    exact ⟨its, rv, p⟩
theorem sqg_same {K : PySem.W.Frag} {H H' : Hp} {t : Bool} {a : Addr} {xs : List V} (e : Same H H') (h : SqG t K H a xs) : SqG t K H' a xs := by
  cases t with
  | false => exact e.seq (show SqL K H a xs from h)
  | true => exact e.seqT (show SqT K H a xs from h)
section
variable {X : Cx} {E : XK} {pos p p2 : Pos} {es : List Expr} {k : Nat}
end
end DL

set_option maxHeartbeats 4000000
set_option linter.all false
set_option maxRecDepth 100000

namespace DL
open PySem PySem.Spec PyProof.Rows L2

/-! ### a new list times an int -/
section
variable {X : Cx} {E : XK} {pos : Pos} {a b : Expr}
end
end DL

set_option maxHeartbeats 4000000
set_option linter.all false
set_option maxRecDepth 100000

namespace DL
open PySem PySem.Spec PyProof.Rows L2 PySem.W
/-! ### what is asked of the classes, to be decided -/
def xclsB (K : Frag) (C : Addr) : Bool := findIn K (.ref C) "__setattr__" == some (some (.builtin "object.__setattr__")) && findIn K (.ref C) "__getattribute__" == some (some (.builtin "BaseException.__getattribute__")) &&
  findIn K (.ref C) "__getattr__" == some none && hasDictIn K C && (clsIn K C).any (fun cd => exOnly cd.mro)
theorem xcls_of {K : Frag} {C : Addr} (h : xclsB K C = true) : XCls K C := by
  unfold xclsB at h
  simp only [Bool.and_eq_true, beq_iff_eq] at h
  exact ⟨h.1.1.1.1, h.1.1.1.2, h.1.1.2, h.1.2, h.2⟩
def xkitB (K : Frag) (C : Addr) : Bool := findIn K (.ref C) "__class__" == some (some (.builtin "object.__class__")) && specialIn K (.builtin "object.__class__") "__get__" == some (some (.builtin "getset_descriptor.__get__")) &&
  takesIn K (.builtin "object.__class__") == some true && mroIn K C (.type "object") == some true
def inCls (s : Stmt) (j : Nat) : Stmt := match s with
  | .ClassDef _ _ _ body _ _ _ _ _ _ _ => body.getD j (.Pass ⟨0, 0, 0, 0⟩)
  | _ => .Pass ⟨0, 0, 0, 0⟩
section
variable {X : Cx} {E : XK} {pos p p2 : Pos} {vn : Str}
end
end DL

set_option maxHeartbeats 4000000
set_option linter.all false
set_option maxRecDepth 100000

namespace DL
open PySem PySem.Spec PyProof.Rows L2 PySem.W
/-! ### targets of a comprehension that are tuples -/
/-! ### an int of the module -/
theorem pd_globI {X : Cx} {E : XK} {x : Str} {i : Int} {t : Tok} {pos : Pos} (hm : X.mg x = some (.int i t)) (hg : Gl X x := by rfl) (hd : (x == ("__debug__" : Str)) = false := by decide) : PEd X E (.Name x pos) (eC (.int i)) :=
  ⟨_, pe_glob (v := .int i) hg hm ⟨t, rfl⟩ hd, fun _ _ _ _ _ _ _ sr h => Po.ret sr.sub h (rep_int.mpr rfl)⟩
end DL

set_option maxHeartbeats 4000000
set_option linter.all false
set_option maxRecDepth 100000

namespace DL
open PySem PySem.Spec PyProof.Rows L2
open AutoSeq1 (wpAny_loadPart')

/-! ### enumerate(a tuple) -/
section
variable {prog : Program} {w : World} {A : Around} {E : Value → Shared → Prop} {s : Shared}
theorem enumK_item {t : Bool} {e it l : Addr} {i : Nat} {xs : Array Value} {x old : Value} {Q : Value → Shared → Prop} (he : IsEnum s.heap e it i old) (hi : ItK t s.heap it l i) (hl : SqK t s.heap l xs) (hx : xs[i]? = some x) (ne : e ≠ it)
    (hQ : ∀ h', IsEnumOut h' e it ((i : Int) + 1) x s.heap.objs.size → ItK t h' it l (i + 1) → h'.get? s.heap.objs.size = some { cls := .type "tuple", data := .seq #[.int i s.toks, x] } → (∀ b o, b ≠ e → b ≠ it → s.heap.get? b = some o → h'.get? b = some o) → Q (.ref s.heap.objs.size) { s with heap := h', toks := s.toks + 1 }) :
    wpAny (model prog w) A (Builtin.«enumerate.__next__» ⟨[.ref e], []⟩) (fun fin s' => ∃ v, fin = .done (.ret v) ∧ Q v s') E s := by
  obtain ⟨hp, g, d, tk, os⟩ := s
  refine wpAny_bind (m := field (.ref e) 2) (wpAny_field he rfl (x := .ref it) rfl (wpAny_bind (nextK_item hi hl hx fun h1 n1 c1 => ?_)))
  replace c1 : Heap.SameBut it hp h1 := c1
  have b1 : IsEnum h1 e it i old := (c1.2 e ne).trans he
  refine wpAny_bind (m := field (.ref e) 3) (wpAny_field (s := ⟨h1, g, d, tk, os⟩) b1 rfl (x := rawInt i) rfl (wpAny_bind (m := field (.ref e) 4) (wpAny_field (s := ⟨h1, g, d, tk, os⟩) b1 rfl (x := .none) rfl ?_)))
  refine wpAny_bind (m := mkInt i) (wpAny_mkInt ?_)
  refine wpAny_bind (m := setField (.ref e) 3 (rawInt ((i : Int) + 1))) (wpAny_setField_rec (s := ⟨h1, g, d, tk + 1, os⟩) b1 (by simp) fun h2 b2 c2 => ?_)
  replace c2 : Heap.SameBut e h1 h2 := c2
  replace b2 : IsEnum h2 e it ((i : Int) + 1) old := b2
  refine wpAny_bind (m := setField (.ref e) 4 .none) (wpAny_setField_rec (s := ⟨h2, g, d, tk + 1, os⟩) b2 (by simp) fun h3 b3 c3 => ?_)
  replace c3 : Heap.SameBut e h2 h3 := c3
  replace b3 : IsEnum h3 e it ((i : Int) + 1) old := b3
  refine wpAny_bind (m := newTuple [.int i tk, x]) (wpAny_newTuple ?_)
  have sz : h3.objs.size = hp.objs.size := by rw [c3.1, c2.1, c1.1]
  have el : e < hp.objs.size := Heap.lt_size he
  have ge : hp.objs.size ≠ e := Nat.ne_of_gt el
  have b4 : IsEnum (h3.push { cls := .type "tuple", data := .seq #[.int i tk, x] }) e it ((i : Int) + 1) old := Heap.get?_push_of_some _ b3
  have t4 : (h3.push { cls := .type "tuple", data := .seq #[.int i tk, x] }).get? hp.objs.size = some { cls := .type "tuple", data := .seq #[.int i tk, x] } := by rw [← sz]; exact Heap.get?_push_size _ rfl
  have k4 : ∀ b o, b ≠ e → b ≠ it → hp.get? b = some o → (h3.push { cls := .type "tuple", data := .seq #[.int i tk, x] }).get? b = some o := fun b o q1 q2 q => Heap.get?_push_of_some _ (c3.extBut _ _ q1 (c2.extBut _ _ q1 (c1.extBut _ _ q2 q)))
  have n4 : ItK t (h3.push { cls := .type "tuple", data := .seq #[.int i tk, x] }) it l (i + 1) := n1.at fun o q => Heap.get?_push_of_some _ (c3.extBut _ _ ne.symm (c2.extBut _ _ ne.symm q))
  rw [sz]
  generalize (h3.push { cls := .type "tuple", data := .seq #[.int i tk, x] }) = h4 at b4 t4 k4 n4
  refine wpAny_bind (m := Builtin.SmallTypes.ownedTupleIsFree (.ref e)) ?_
  unfold Builtin.SmallTypes.ownedTupleIsFree
  refine wpAny_bind (wpAny_field (s := ⟨h4, g, d, tk + 1, os⟩) b4 rfl (x := .none) rfl (wpAny_pure ?_))
  simp only [if_true]
  refine wpAny_bind (wpAny_rule (wpAny_bind (wpAny_field (s := ⟨h4, g, d, tk + 1, os⟩) b4 rfl (x := old) rfl (wpAny_bind (wpAny_setField_rec (s := ⟨h4, g, d, tk + 1, os⟩) b4 (by simp) fun h5 b5 c5 => ?_)))))
  replace c5 : Heap.SameBut e h4 h5 := c5
  replace b5 : IsEnum h5 e it ((i : Int) + 1) x := b5
  refine wpAny_bind (m := Builtin.SmallTypes.ownedTupleHandOut (.ref e) (.ref hp.objs.size)) ?_
  unfold Builtin.SmallTypes.ownedTupleHandOut
  refine wpAny_bind (wpAny_setField_rec (s := ⟨h5, g, d, tk + 1, os⟩) b5 (by simp) fun h6 b6 c6 => ?_)
  replace c6 : Heap.SameBut e h5 h6 := c6
  replace b6 : IsEnumOut h6 e it ((i : Int) + 1) x hp.objs.size := b6
  refine wpAny_setField_rec (s := ⟨h6, g, d, tk + 1, os⟩) b6 (by simp) fun h7 b7 c7 => ?_
  replace c7 : Heap.SameBut e h6 h7 := c7
  replace b7 : IsEnumOut h7 e it ((i : Int) + 1) x hp.objs.size := b7
  have up : ∀ b o, b ≠ e → h4.get? b = some o → h7.get? b = some o := fun b o q1 q => c7.extBut _ _ q1 (c6.extBut _ _ q1 (c5.extBut _ _ q1 q))
  exact wpAny_bind (wpAny_letGo (wpAny_pure ⟨_, rfl, hQ h7 b7 (n4.at fun o q => up _ _ ne.symm q) (up _ _ ge t4) fun b o q1 q2 q => up b o q1 (k4 b o q1 q2 q)⟩))
theorem nextE_item {t : Bool} {e it l : Addr} {i : Nat} {xs : Array Value} {x old : Value} {Q : Option Value → Shared → Prop} (he : IsEnum s.heap e it i old) (hi : ItK t s.heap it l i) (hl : SqK t s.heap l xs) (hx : xs[i]? = some x) (ne : e ≠ it)
    (hQ : ∀ h', IsEnumOut h' e it ((i : Int) + 1) x s.heap.objs.size → ItK t h' it l (i + 1) → h'.get? s.heap.objs.size = some { cls := .type "tuple", data := .seq #[.int i s.toks, x] } → (∀ b o, b ≠ e → b ≠ it → s.heap.get? b = some o → h'.get? b = some o) → Q (some (.ref s.heap.objs.size)) { s with heap := h', toks := s.toks + 1 }) :
    wpAny (model prog w) A (pyNext (.ref e)) Q E s := by
  have ty : s.TypeIs (.ref e) "enumerate" := ⟨_, he, rfl⟩
  unfold pyNext
  exact wpAny_bind (wpAny_attempt (wpAny_callSpecial?_slot (name := Str.ofString "__next__") ty F.slot_enumerate_next (wpAny_call_entry F.slot_enumerate_next ty F.entry_enumerate_next
    (enumK_item he hi hl hx ne fun h' a b c d => wpAny_pure (hQ h' a b c d)) (F.args_enumerate_next_1 _))))
theorem nextE_end {t : Bool} {e it l : Addr} {i : Nat} {xs : Array Value} {old : Value} {Q : Option Value → Shared → Prop} (hh : A.handled = none) (he : IsEnum s.heap e it i old) (hi : ItK t s.heap it l i) (hl : SqK t s.heap l xs) (hx : xs[i]? = none)
    (hQ : ∀ h', Heap.ExtBut it s.heap h' → Q none { s with heap := h' }) : wpAny (model prog w) A (pyNext (.ref e)) Q E s := by
  have ty : s.TypeIs (.ref e) "enumerate" := ⟨_, he, rfl⟩
  unfold pyNext
  refine wpAny_bind (wpAny_attempt (wpAny_callSpecial?_slot (name := Str.ofString "__next__") ty F.slot_enumerate_next (wpAny_call_entry F.slot_enumerate_next ty F.entry_enumerate_next ?_ (F.args_enumerate_next_1 _))))
  refine wpAny_bind (m := field (.ref e) 2) (wpAny_field he rfl (x := .ref it) rfl (wpAny_bind (nextK_end hh hi hl hx fun h' y q1 q2 => ?_)))
  obtain ⟨o, ho, hc⟩ := q2
  exact wpAny_bind (wpAny_isInstance (T := "StopIteration") (b := true) ⟨o, ho, hc⟩ isSubtype_stop (wpAny_pure (hQ _ q1)))
abbrev ek2 (t : Bool) (h : Heap) (l : Addr) : Heap := (h.push (itO t l)).push { cls := .type "enumerate", data := .fields #[.none, .bool false, .ref h.objs.size, rawInt 0, .none, .none] }
theorem newE (l : Addr) (xs : Array Value) : Meets (Builtin.«enumerate.__new__» ⟨[.type "enumerate", .ref l], []⟩) (fun _ R s => SqK true s.heap l xs ∧ R (.ok (.ret (.ref (s.heap.push (itO true l)).objs.size))) { s with heap := ek2 true s.heap l }) :=
  .of_wp fun prog w A R s h => by
    obtain ⟨hp, g, d, tk, os⟩ := s
    obtain ⟨h1, h⟩ := h
    have sb := sub_enumerate
    obtain ⟨o, hl, hc, n, hd⟩ := id h1
    have b1 : SqK true (Shared.heap ⟨hp, g, d, tk, os⟩) l xs := h1
    wp_walk using wpAny_loadPart' hl
    refine wpAny_stack_any fun st => wpAny_pure ?_
    split
    · rename_i c _ _ _ _ _
      cases (c == Value.type "enumerate")
      · wp_walk using wpAny_loadPart' hl, iterK b1
        exact ⟨_, rfl, h⟩
      · wp_walk using wpAny_loadPart' hl, iterK b1
        exact ⟨_, rfl, h⟩
    · wp_walk using wpAny_loadPart' hl, iterK b1
      exact ⟨_, rfl, h⟩
theorem callE {l : Addr} {xs : Array Value} {Q : Value → Shared → Prop} (m1 : SqK true s.heap l xs)
    (h : ∀ h', IsEnum h' (s.heap.objs.size + 1) s.heap.objs.size 0 .none → ItK true h' s.heap.objs.size l 0 → (∀ c o, s.heap.get? c = some o → h'.get? c = some o) → Q (.ref (s.heap.objs.size + 1)) { s with heap := h' }) : wpAny (model prog w) A (call (.type "enumerate") [.ref l]) Q E s := by
  refine callType_new F.called_enumerate (by decide) (F.typeCall_enumerate_1 _) (F.newCall_enumerate_1 _) (fun obj => F.args_object_init_2 obj _) F.entry_enumerate_new (newE l xs) ⟨m1, ?_⟩
  have z1 : (s.heap.push (itO true l)).objs.size = s.heap.objs.size + 1 := Heap.size_push ..
  have g2 : (ek2 true s.heap l).get? (s.heap.push (itO true l)).objs.size = some _ := Heap.get?_push_size _ rfl
  have g1 : (ek2 true s.heap l).get? s.heap.objs.size = some (itO true l) := Heap.get?_push_of_some _ (Heap.get?_push_size _ rfl)
  show _ ∧ _
  rw [z1] at g2
  rw [z1]
  exact ⟨⟨_, g2, rfl⟩, h _ g2 ⟨_, g1, rfl, rfl⟩ fun c o q => Heap.get?_push_of_some _ (Heap.get?_push_of_some _ q)⟩
end
def IteT (K : PySem.W.Frag) (a : Addr) : It :=
  ⟨fun i H => ∃ xs x, SqT K H a xs ∧ xs[i]? = some x, fun i H x H' => ∃ p y, H p = none ∧ x = .ref p ∧ H' = upd H p (.tup [.int i, y]) ∧ ∀ xs, SqT K H a xs → xs[i]? = some y, fun i H => ∃ xs, SqT K H a xs ∧ xs.length ≤ i⟩
theorem turn_enumT {P : Program} {w : World} {K : PySem.W.Frag} {es : List Expr} {k : Nat} {pos : Pos} (a e it : Addr) (hne : e ≠ it) : Turn P w K (.Tuple es k pos) (IteT K a) [e, it] e (fun i h => (∃ old, IsEnum h e it (i : Nat) old) ∧ ItK true h it a i) where
  mem := by simp
  obj := fun i h st b hb => by
    obtain ⟨⟨old, h1⟩, h2⟩ := st
    rcases List.mem_cons.mp hb with rfl | hb
    · exact ⟨_, h1, fun v z => by cases z⟩
    · have eb : b = it := by simpa using hb
      subst eb
      obtain ⟨o, e, c, d⟩ := h2
      exact ⟨o, e, fun v z => by rw [d] at z; cases z⟩
  keep := fun i h h' st kk => by
    obtain ⟨⟨old, h1⟩, h2⟩ := st
    exact ⟨⟨old, kk e (by simp) _ h1⟩, h2.at fun o q => kk it (by simp) o q⟩
  item := by
    intro X hP hw hK hc i pins s σ H E I hf st hg
    subst hP hw hK
    obtain ⟨⟨old, h1⟩, h2⟩ := st
    obtain ⟨xs, x, hq, hx⟩ := hg
    obtain ⟨its, rv, p, hz⟩ := I.tuple hq
    obtain ⟨u, hu, ru⟩ := rv.get hx
    refine nextE_item h1 h2 (show SqK true s.heap a its.toArray from p) (x := u) (by simpa using hu) hne fun h' a1 a2 a3 a5 => ⟨_, rfl, wpAny_letOwnedTupleGo_enum a1 fun h'' b1 b2 => ?_⟩
    have ge : e ≠ s.heap.objs.size := Nat.ne_of_lt (Heap.lt_size h1)
    have kk : ∀ b u, b ∉ [e, it] → s.heap.get? b = some u → h''.get? b = some u := fun b u nb q => (b2.2 b (fun z => nb (by simp [z]))).trans (a5 b u (fun z => nb (by simp [z])) (fun z => nb (by simp [z])) q)
    have hT : h''.get? s.heap.objs.size = some { cls := .type "tuple", data := .seq #[.int i s.toks, u] } := (b2.2 _ (Ne.symm ge)).trans a3
    have git : it ≠ s.heap.objs.size := by obtain ⟨o, e, _⟩ := id h2; exact Nat.ne_of_lt (Heap.lt_size e)
    refine ⟨.ref s.heap.objs.size, _, I.turnedT (o := .tup [.int i, x]) (t' := s.toks + 1) hf kk (Nat.le_refl _) ⟨by show 2 ≤ sizeLine; decide, [.int i s.toks, u], .cons ⟨_, rfl⟩ (.cons ru .nil), ⟨_, hT, rfl, _, rfl⟩⟩, rfl,
      ⟨_, x, I.fresh, rfl, rfl, fun ys hy => by rw [I.tuple_inj hy hq]; exact hx⟩, ⟨⟨u, by simpa using b1⟩, a2.at fun o q => (b2.2 it (Ne.symm hne)).trans q⟩, fun b hb => ?_⟩
    have : b ≠ s.heap.objs.size := by
      rcases List.mem_cons.mp hb with rfl | hb
      · exact ge
      · have eb : b = it := by simpa using hb
        subst eb; exact git
    rw [upd_ne this]; exact (hf b hb).1
  done := by
    intro X hP hw hK hc i pins s σ H E I hf st hg
    subst hP hw hK
    obtain ⟨⟨old, h1⟩, h2⟩ := st
    obtain ⟨xs, hq, hx⟩ := hg
    obtain ⟨its, rv, p, hz⟩ := I.tuple hq
    have hl := rv.length
    exact nextE_end (I.ok.hd hc) h1 h2 (show SqK true s.heap a its.toArray from p) (by simp; omega) fun h' eb => ⟨rfl, I.turnedF (t' := s.toks) hf fun b u nb q => eb b u (fun z => nb (by simp [z])) q⟩
  self := fun _ _ _ _ _ st h => let ⟨⟨_, h1⟩, _⟩ := st; wpAny_pyIter_enum h1 h
section
variable {X : Cx} {E : XK} {pos p p2 : Pos} {es : List Expr} {k : Nat}
def iEnT (K : PySem.W.Frag) (tl : TA) : TI := fun σ H R => tl σ H fun vs H1 => ∃ a, vs = [.ref a] ∧ (∃ xs, SqT K H1 a xs) ∧ R (IteT K a) H1
theorem pi_enumT {l : Expr} {tl : TA} (hg : Gl X "enumerate") (hm : X.mg "enumerate" = none) (hl : PA X [l] tl) (hs : starEach [l] X.env = [(false, eval l X.env)] := by rfl) : PI X (.Tuple es k p2) (.Call (.Name "enumerate" p) [l] [] pos) (iEnT X.K tl) := by
  intro pins s σ H R I h
  refine Call_ (ld_blt I hg hm boot_enumerate (PyProof.Rows.callWith_type1 (thn (hl pos pins s σ H _ I h) fun us s1 ⟨vs, H1, I1, r1, q1⟩ => ?_) hs rfl))
  obtain ⟨a, rfl, ⟨xs, hq⟩, q⟩ := q1
  obtain ⟨u, rfl, rx⟩ := vals1 r1
  cases rx
  obtain ⟨its, rv, pl, hz⟩ := I1.tuple hq
  refine callE (show SqK true s1.heap a its.toArray from pl) fun h' e1 e2 e4 => wpAny_pyIter_enum e1 ?_
  have I2 : Inv X pins σ H1 { s1 with heap := h' } := I1.kept (t' := s1.toks) e4
  refine ⟨s1.heap.objs.size + 1, [s1.heap.objs.size + 1, s1.heap.objs.size], _, _, H1, rfl, I2, turn_enumT a (s1.heap.objs.size + 1) s1.heap.objs.size (Nat.succ_ne_self _), ⟨⟨_, by simpa using e1⟩, e2⟩, fun b hb => ?_, q⟩
  have hb : s1.heap.objs.size ≤ b := by simp at hb; rcases hb with rfl | rfl <;> omega
  exact I1.fpOk hb (I1.hok.fresh hb)
def iEnumT (fs : DSt → M (List D)) (sd : DSt) : M (List D) := (fs sd).bind fun ds => match ds with
  | [.tup xs] => .ok (enumD 0 xs)
  | _ => .bad
theorem iteT_ok {K : PySem.W.Frag} {Hf H : Hp} {a : Addr} {xs : List V} {ds : List D} (h : SqT K Hf a xs) (r : Reps K Hf ds xs) : ItOk K Hf H (enumD 0 ds) (IteT K a) := by
  intro i Hf1 H1 e1 e2
  have h2 := e2.seqT (e1.seqT h)
  rw [enumD_get]
  cases q : ds[i]? with
  | some d =>
    obtain ⟨x, ex, rx⟩ := r.get q
    refine ⟨⟨xs, x, h2, ex⟩, fun y H2 hy => ?_⟩
    obtain ⟨p, y', hp, rfl, rfl, hall⟩ := hy
    have ey := hall xs h2
    rw [ex] at ey
    cases ey
    exact ⟨_, Gr.alloc e2 hp _, Gr.tup e2 hp (Reps.cons (rep_int.mpr (by simp)) (Reps.cons (rx.mono e1) Reps.nil))⟩
  | none => exact ⟨xs, h2, List.getElem?_eq_none_iff.mp (r.none_of q)⟩
theorem pid_enumT {l : Expr} {fs : DSt → M (List D)} (hg : Gl X "enumerate") (hm : X.mg "enumerate" = none) (h : PAd X E [l] fs) (hs : starEach [l] X.env = [(false, eval l X.env)] := by rfl) : PId X E (.Tuple es k p2) (.Call (.Name "enumerate" p) [l] [] pos) (iEnumT fs) := by
  obtain ⟨t, pt, q⟩ := h
  refine ⟨_, pi_enumT hg hm pt hs, fun H0 B Hf sd σ H R sr h => ?_⟩
  refine q H0 B Hf sd σ H _ sr (Po.bind h fun ds vs Hf1 H1 _ g1 rs h1 => ?_)
  split at h1
  · rename_i xs
    obtain ⟨v, rfl, rv⟩ := reps1 rs
    obtain ⟨a, ys, rfl, ha, hr⟩ := rep_tupQ rv
    exact ⟨a, rfl, ⟨ys, g1.sub.seqT ha⟩, Po.ret (R := ItOk X.K) g1.sub h1 (iteT_ok ha hr)⟩
  · exact h1.elim
end
end DL

set_option maxHeartbeats 4000000
set_option linter.all false
set_option maxRecDepth 100000

namespace DL
open PySem PySem.Spec PyProof.Rows L2 PySem.W

/-! ### sorted, of fewer than 64 tuples of ints and texts -/
/-- the questions of the sort, answered by a table -/
def runO (q : Nat → Nat → Option Bool) {α : Type} : KasT α → Option α
  | .ret a => some a
  | .ask i j k => match q i j with
    | some b => runO q (k b)
    | none => none
theorem runO_wp {q : Nat → Nat → Option Bool} {cmp : Nat → Nat → (Bool → Shared → Prop) → Shared → Prop} {α : Type} {Q : α → Shared → Prop} {s : Shared} {a : α} (hc : ∀ i j b C, q i j = some b → C b s → cmp i j C s) : ∀ t : KasT α, runO q t = some a → Q a s → t.kasWp cmp Q s
  | .ret b, e, h => by
    cases (Option.some.inj (show some b = some a from e))
    exact h
  | .ask i j k, e, h => by
    unfold runO at e
    cases z : q i j with
    | none => rw [z] at e; cases e
    | some b =>
      rw [z] at e
      exact hc i j b _ z (runO_wp hc (k b) e h)
def ltA : V → V → Option Bool
  | .int a, .int b => some (decide (a < b))
  | .str a, .str b => some (decide (a.cps.toList < b.cps.toList))
  | _, _ => none
def eqA : V → V → Option Bool
  | .int a, .int b => some (a == b)
  | .str a, .str b => some (a == b)
  | _, _ => none
def ltR : List V → List V → Option Bool
  | [], [] => some false
  | x :: xs, y :: ys => match eqA x y with
    | some true => ltR xs ys
    | some false => ltA x y
    | none => none
  | _, _ => none
section
variable {prog : Program} {w : World} {A : Around} {E : Value → Shared → Prop} {s : Shared}
theorem eqA_ok {x y : V} {u v : Value} {b : Bool} {Q : Bool → Shared → Prop} (h : eqA x y = some b) (rx : RelV x u) (ry : RelV y v) (q : Q b s) : wpAny (model prog w) A (eqBool u v) Q E s := by
  unfold eqA at h
  split at h
  · obtain ⟨t, rfl⟩ := rx
    obtain ⟨t', rfl⟩ := ry
    cases h
    exact wpAny_eqBool_int q
  · obtain ⟨t, rfl⟩ := rx
    obtain ⟨t', rfl⟩ := ry
    cases h
    exact PyProof.Rows.eqBool_str q
  · cases h
theorem ltA_ok {o : Bool} {x y : V} {u v : Value} {b : Bool} {Q : Bool → Shared → Prop} (h : ltA x y = some b) (rx : RelV x u) (ry : RelV y v) (q : Q b s) : wpAny (model prog w) A (oneLt' o u v) Q E s := by
  unfold ltA at h
  split at h
  · obtain ⟨t, rfl⟩ := rx
    obtain ⟨t', rfl⟩ := ry
    cases h
    cases o with
    | true => exact oneLt_int q
    | false => exact kat_one _ _ (PyProof.Rows.lt_int q)
  · obtain ⟨t, rfl⟩ := rx
    obtain ⟨t', rfl⟩ := ry
    cases h
    cases o with
    | true => exact PyProof.Rows.oneLt_str q
    | false => exact kat_one _ _ (PyProof.Rows.lt_str q)
  · cases h
theorem ltR_ok {o : Bool} {r : Bool} {Q : Bool → Shared → Prop} : ∀ {xs ys : List V} {us vs : List Value} (i : Nat), ltR xs ys = some r → Vals xs us → Vals ys vs → Q r s → KatLex prog w A o false Q (us.zip vs) i s
  | [], [], _, _, i, h, .nil, .nil, q => by
    cases (Option.some.inj (show some false = some r from h))
    exact kat_nil q
  | x :: xs, y :: ys, _, _, i, h, .cons rx r1, .cons ry r2, q => by
    unfold ltR at h
    refine kat_cons ?_
    cases z : eqA x y with
    | none => rw [z] at h; cases h
    | some b =>
      rw [z] at h
      refine eqA_ok z rx ry ?_
      cases b with
      | true => exact kat_yes (ltR_ok (i + 1) h r1 r2 q)
      | false => exact kat_no (ltA_ok h rx ry q)
  | [], _ :: _, _, _, _, h, _, _, _ => by cases h
  | _ :: _, [], _, _, _, h, _, _, _ => by cases h
theorem sortT_tree {a : Addr} {vs : List Value} {n : Nat} {κ : SortKind} {q : Nat → Nat → Option Bool} {p : Array Nat} {P : Fin → Shared → Prop} (ho : s.heap.get? a = some (seqObj "list" vs.toArray n)) (h2 : 2 ≤ vs.length) (h64 : vs.length < 64)
    (hk : ∀ h', (∀ b o, b ≠ a → s.heap.get? b = some o → h'.get? b = some o) → ∀ Q : SortKind → Shared → Prop, Q κ { s with heap := h' } → wpAny (model prog w) A (keyKind' vs.toArray) Q E { s with heap := h' })
    (hq : ∀ h', (∀ b o, b ≠ a → s.heap.get? b = some o → h'.get? b = some o) → ∀ i j b (C : Bool → Shared → Prop), q i j = some b → C b { s with heap := h' } → kas_ask prog w A κ vs i j C { s with heap := h' })
    (hp : runO q (kas_sort vs.length) = some p) (h : p.size = vs.length → P (.done (.ret .none)) { s with heap := sortedHeap s.heap a vs (p.toList.map fun i => vs.getD i Value.none).toArray }) :
    wpAny (model prog w) A (Builtin.«list.sort» ⟨[.ref a], []⟩) P E s := by
  have la : a < s.heap.objs.size := Heap.lt_size ho
  obtain ⟨e1, ho1⟩ : ∃ e1, (s.heap.update a (Obj.mapSeq fun _ => #[])).get? a = some (seqObj "list" #[] e1) := ⟨_, get?_update_seq ho fun _ => #[]⟩
  have keep : ∀ b o, b ≠ a → s.heap.get? b = some o → (((s.heap.update a (Obj.mapSeq fun _ => #[])).push (seqObj "tuple" vs.toArray 0)).push (seqObj "list" #[] 0)).get? b = some o :=
    fun b o nb e => Heap.get?_push_of_some _ (Heap.get?_push_of_some _ ((Heap.get?_update_other _ _ (Ne.symm nb)).trans e))
  have ho6 : (((s.heap.update a (Obj.mapSeq fun _ => #[])).push (seqObj "tuple" vs.toArray 0)).push (seqObj "list" #[] 0)).get? a = some (seqObj "list" #[] e1) := Heap.get?_push_of_some _ (Heap.get?_push_of_some _ ho1)
  have z1 : vs.toArray.size ≤ sizeLine := by rw [List.size_toArray, sizeLine_eq]; omega
  have n2 : ¬ vs.toArray.size < 2 := by rw [List.size_toArray]; omega
  rw [list_sort_plain]
  refine wpAny_bind (listItems_at ho rfl (wpAny_bind (listUpdate_at ho rfl (wpAny_bind (seqEpoch_at ho1 rfl (wpAny_bind (wpAny_newTuple (wpAny_bind (wpAny_newList (wpAny_holding ?_) (Nat.zero_le _))) (by simpa using z1))))) z1 (Nat.zero_le _))))
  dsimp only
  rw [if_neg n2, if_neg n2]
  refine wpAny_bind (hk _ keep _ ?_)
  have hz : (vs.toArray.zip vs.toArray) = pairsOf vs := rfl
  refine wpAny_bind (wpAny_mono (kat_run (ks := vs) (vs := vs) (κ := κ) (Q := fun st' s' => p.size = vs.length ∧ arrOf st' = p.map (kas_item (vs.toArray.zip vs.toArray)) ∧ failedOf st' = none ∧ s' = _) (G := fun p' s' => p' = p ∧ s' = _) rfl h2 h64
    (fun p' st' s' a1 a2 a3 a4 => by obtain ⟨rfl, e⟩ := a4; exact ⟨a1, a2, a3, e⟩) (runO_wp (hq _ keep) _ hp ⟨rfl, rfl⟩)) ?_ fun _ _ x => x)
  rintro ⟨⟨⟩, st'⟩ s' ⟨zz, har, hf, rfl⟩
  dsimp only
  have hout := kat_snds (ks := vs) (vs := vs) rfl har
  refine wpAny_bind (seqEpoch_at ho6 rfl (wpAny_bind (listUpdate_at ho6 rfl ?_ (Nat.zero_le _) (by rw [hout, List.size_toArray, List.length_map, Array.length_toList, zz, sizeLine_eq]; omega))))
  rw [hf]
  simp only [bne_self_eq_false, Bool.false_eq_true, if_false]
  rw [hout]
  exact wpAny_pure (h zz)
theorem collectK {t : Bool} {l : Addr} {vs : List Value} {Q : List Value → Shared → Prop} (hl : SqK t s.heap l vs.toArray) (h : Q vs { s with heap := (s.heap.push (seqObj "list" #[] 0)).update s.heap.objs.size (Obj.mapSeq (· ++ vs.toArray)) }) (hz : vs.length ≤ sizeLine) :
    wpAny (model prog w) A (collect (.ref l)) Q E s := by
  cases t with
  | false => exact collect_list (show s.heap.IsList l vs.toArray from hl) h hz
  | true =>
    obtain ⟨o, ho, hc, n, hd⟩ := id hl
    have ho' : (s.heap.push (seqObj "list" #[] 0)).get? l = some o := Heap.get?_push_of_some _ ho
    have hn : (s.heap.push (seqObj "list" #[] 0)).get? s.heap.objs.size = some (seqObj "list" #[] 0) := Heap.get?_push_size _ rfl
    unfold collect
    refine wpAny_bind (wpAny_runValue (codeAny_builtin entry_proto_collect' (wpAny_bind (m := newList []) (wpAny_newList (wpAny_pure ⟨Code.quiet_builtin _ (by decide +kernel), codeAny_builtin entry_list_iadd' ?_⟩)))))
    change wpAny _ _ (Builtin.List.listExtendWith _ _ _) _ _ _
    unfold Builtin.List.listExtendWith
    refine wpAny_bind (wpAny_typeOf (T := "tuple") ⟨o, ho', hc⟩ ?_)
    have ht : (Value.type "tuple" == Value.type "tuple") = true := by rfl
    rw [if_pos (by rw [ht]; simp)]
    refine wpAny_bind (listItems_at ho' hd (wpAny_bind (listItems_at hn rfl ?_)))
    rw [if_neg (by simp)]
    refine wpAny_bind (listUpdate_at hn rfl (wpAny_pure ?_) (Nat.zero_le _) (by show (#[] ++ vs.toArray).size ≤ _; simp only [Array.size_append, List.size_toArray, List.length_nil]; omega))
    change wpAny _ _ (do
      let o ← load s.heap.objs.size
      match o.data with
      | .seq xs _ => pure xs.toList
      | _ => unsupported "internal:collect") Q E _
    refine wpAny_bind (wpAny_load (get?_update_seq hn _) ?_)
    change wpAny _ _ (pure ((#[] : Array Value) ++ vs.toArray).toList) Q E _
    have e0 : ((#[] : Array Value) ++ vs.toArray).toList = vs := by simp
    rw [e0]
    exact wpAny_pure h
theorem sortedT {t : Bool} {l : Addr} {vs : List Value} {κ : SortKind} {q : Nat → Nat → Option Bool} {p : Array Nat} {Q : Value → Shared → Prop} (hl : SqK t s.heap l vs.toArray) (h2 : 2 ≤ vs.length) (h64 : vs.length < 64)
    (hk : ∀ A' E' h', (∀ b o, s.heap.get? b = some o → h'.get? b = some o) → ∀ Q : SortKind → Shared → Prop, Q κ { s with heap := h' } → wpAny (model prog w) A' (keyKind' vs.toArray) Q E' { s with heap := h' })
    (hq : ∀ A' h', (∀ b o, s.heap.get? b = some o → h'.get? b = some o) → ∀ i j b (C : Bool → Shared → Prop), q i j = some b → C b { s with heap := h' } → kas_ask prog w A' κ vs i j C { s with heap := h' })
    (hp : runO q (kas_sort vs.length) = some p) (h : p.size = vs.length → Q (.ref (s.heap.objs.size + 1)) { s with heap := sortedAll s.heap vs (p.toList.map fun i => vs.getD i Value.none).toArray }) :
    wpAny (model prog w) A (call (.builtin "sorted") [.ref l]) Q E s := by
  have z1 : vs.length ≤ sizeLine := by rw [sizeLine_eq]; omega
  refine Calls.call_function_entry kind_sorted plain_sorted entry_sorted (args_sorted1 _) ?_
  unfold Builtin.«sorted»
  refine wpAny_bind (m := checkCount "sorted" 1 1 _) (wpAny_pure (wpAny_bind (collectK hl (wpAny_bind (wpAny_newList ?_ z1)) z1)))
  have hsz : ((s.heap.push (seqObj "list" #[] 0)).update s.heap.objs.size (Obj.mapSeq (· ++ vs.toArray))).objs.size = s.heap.objs.size + 1 := (Heap.size_update ..).trans (size_push' ..)
  have hoL : (((s.heap.push (seqObj "list" #[] 0)).update s.heap.objs.size (Obj.mapSeq (· ++ vs.toArray))).push (seqObj "list" vs.toArray 0)).get? (s.heap.objs.size + 1) = some (seqObj "list" vs.toArray 0) := hsz ▸ Heap.get?_push_size _ rfl
  have keep : ∀ b o, s.heap.get? b = some o → (((s.heap.push (seqObj "list" #[] 0)).update s.heap.objs.size (Obj.mapSeq (· ++ vs.toArray))).push (seqObj "list" vs.toArray 0)).get? b = some o := fun b o e =>
    Heap.get?_push_of_some _ ((Heap.get?_update_other _ _ (Nat.ne_of_gt (Heap.lt_size e))).trans (Heap.get?_push_of_some _ e))
  have nb : ∀ b o, s.heap.get? b = some o → b ≠ s.heap.objs.size + 1 := fun b o e => Nat.ne_of_lt (Nat.lt_succ_of_lt (Heap.lt_size e))
  change wpAny _ _ _ _ _ { s with heap := ((s.heap.push (seqObj "list" #[] 0)).update s.heap.objs.size (Obj.mapSeq (· ++ vs.toArray))).push (seqObj "list" vs.toArray 0) }
  rw [hsz]
  refine wpAny_bind (wpAny_holding (wpAny_call_entry slot_list_sort ⟨_, hoL, rfl⟩ entry_list_sort (sortT_tree (κ := κ) (q := q) (p := p) hoL h2 h64 (fun h' e Q hQ => hk _ _ h' (fun b o z => e b o (nb b o z) (keep b o z)) Q hQ)
    (fun h' e => hq _ h' fun b o z => e b o (nb b o z) (keep b o z)) hp fun hz => ⟨_, rfl, wpAny_pure ⟨_, rfl, h hz⟩⟩) (args_list_sort _)))
theorem sort0_tree {a : Addr} {vs : List Value} {n : Nat} {P : Fin → Shared → Prop} (ho : s.heap.get? a = some (seqObj "list" vs.toArray n)) (h2 : vs.length < 2)
    (h : P (.done (.ret .none)) { s with heap := sortedHeap s.heap a vs vs.toArray }) : wpAny (model prog w) A (Builtin.«list.sort» ⟨[.ref a], []⟩) P E s := by
  obtain ⟨e1, ho1⟩ : ∃ e1, (s.heap.update a (Obj.mapSeq fun _ => #[])).get? a = some (seqObj "list" #[] e1) := ⟨_, get?_update_seq ho fun _ => #[]⟩
  have ho6 : (((s.heap.update a (Obj.mapSeq fun _ => #[])).push (seqObj "tuple" vs.toArray 0)).push (seqObj "list" #[] 0)).get? a = some (seqObj "list" #[] e1) := Heap.get?_push_of_some _ (Heap.get?_push_of_some _ ho1)
  have z1 : vs.toArray.size ≤ sizeLine := by rw [List.size_toArray, sizeLine_eq]; lia
  rw [list_sort_plain]
  refine wpAny_bind (listItems_at ho rfl (wpAny_bind (listUpdate_at ho rfl (wpAny_bind (seqEpoch_at ho1 rfl (wpAny_bind (wpAny_newTuple (wpAny_bind (wpAny_newList (wpAny_holding ?_) (Nat.zero_le _))) (by simpa using z1))))) z1 (Nat.zero_le _))))
  dsimp only
  have n2 : vs.toArray.size < 2 := by rw [List.size_toArray]; exact h2
  rw [if_pos n2, if_pos n2]
  refine wpAny_bind (wpAny_pure ?_)
  rw [StateT.run_pure]
  refine wpAny_bind (wpAny_pure ?_)
  dsimp only
  have eo : (vs.toArray.zip vs.toArray).map (·.2) = vs.toArray := by
    apply Array.toList_inj.mp
    rw [Array.toList_map, Array.toList_zip, List.map_snd_zip]
    lia
  refine wpAny_bind (seqEpoch_at ho6 rfl (wpAny_bind (listUpdate_at ho6 rfl ?_ (Nat.zero_le _) (by show ((vs.toArray.zip vs.toArray).map (·.2)).size ≤ _; rw [eo]; lia))))
  simp only [bne_self_eq_false, Bool.false_eq_true, if_false]
  change wpAny _ _ (ret .none) _ _ { s with heap := sortedHeap s.heap a vs ((vs.toArray.zip vs.toArray).map (·.2)) }
  rw [eo]
  exact wpAny_pure h
theorem sorted0 {t : Bool} {l : Addr} {vs : List Value} {Q : Value → Shared → Prop} (hl : SqK t s.heap l vs.toArray) (h2 : vs.length < 2)
    (h : Q (.ref (s.heap.objs.size + 1)) { s with heap := sortedAll s.heap vs vs.toArray }) :
    wpAny (model prog w) A (call (.builtin "sorted") [.ref l]) Q E s := by
  have z1 : vs.length ≤ sizeLine := by rw [sizeLine_eq]; lia
  refine Calls.call_function_entry kind_sorted plain_sorted entry_sorted (args_sorted1 _) ?_
  unfold Builtin.«sorted»
  refine wpAny_bind (m := checkCount "sorted" 1 1 _) (wpAny_pure (wpAny_bind (collectK hl (wpAny_bind (wpAny_newList ?_ z1)) z1)))
  have hsz : ((s.heap.push (seqObj "list" #[] 0)).update s.heap.objs.size (Obj.mapSeq (· ++ vs.toArray))).objs.size = s.heap.objs.size + 1 := (Heap.size_update ..).trans (size_push' ..)
  have hoL : (((s.heap.push (seqObj "list" #[] 0)).update s.heap.objs.size (Obj.mapSeq (· ++ vs.toArray))).push (seqObj "list" vs.toArray 0)).get? (s.heap.objs.size + 1) = some (seqObj "list" vs.toArray 0) := hsz ▸ Heap.get?_push_size _ rfl
  change wpAny _ _ _ _ _ { s with heap := ((s.heap.push (seqObj "list" #[] 0)).update s.heap.objs.size (Obj.mapSeq (· ++ vs.toArray))).push (seqObj "list" vs.toArray 0) }
  rw [hsz]
  exact wpAny_bind (wpAny_holding (wpAny_call_entry slot_list_sort ⟨_, hoL, rfl⟩ entry_list_sort (sort0_tree hoL h2 ⟨_, rfl, wpAny_pure ⟨_, rfl, h⟩⟩) (args_list_sort _)))
end

def headS : List V → Bool
  | .str _ :: _ => true
  | _ => false
def headI : List V → Bool
  | .int _ :: _ => true
  | _ => false
def RowsH (h : Heap) : List Value → List (List V) → Prop := Paired fun u y => ∃ a us, u = Value.ref a ∧ IsTup h a us.toArray ∧ Vals y us
theorem RowsH.mono {h h' : Heap} {us : List Value} {ys : List (List V)} (k : ∀ b o, h.get? b = some o → h'.get? b = some o) (r : RowsH h us ys) : RowsH h' us ys :=
  Paired.mapP r fun u y q => by
    obtain ⟨a, vs, e, ⟨o, e1, e2⟩, e3⟩ := q
    exact ⟨a, vs, e, ⟨o, k _ _ e1, e2⟩, e3⟩
theorem RowsH.firstS {h : Heap} : ∀ {us : List Value} {ys : List (List V)}, RowsH h us ys → ys.all headS = true → ∃ fs, KatTups h us fs ∧ (∀ v ∈ fs, ∃ x t, v = Value.str x t) ∧ fs.length = us.length
  | _, _, .nil, _ => ⟨[], KatTups.nil, fun v hv => (by cases hv), rfl⟩
  | _, y :: ys, .cons q r, hs => by
    rw [List.all_cons, Bool.and_eq_true] at hs
    obtain ⟨fs, k1, k2, k3⟩ := RowsH.firstS r hs.2
    obtain ⟨a, vs, rfl, ⟨o, e1, e2, n, e3⟩, e4⟩ := q
    cases y with
    | nil => simp [headS] at hs
    | cons z y =>
      cases z with
      | str x =>
        cases e4 with
        | cons rx rr =>
          obtain ⟨t, rfl⟩ := rx
          exact ⟨Value.str x t :: fs, KatTups.cons e1 e2 e3 (by simp) k1, fun v hv => by
            rcases List.mem_cons.mp hv with rfl | hv
            · exact ⟨x, t, rfl⟩
            · exact k2 v hv, by rw [List.length_cons, List.length_cons, k3]⟩
      | _ => simp [headS] at hs
theorem RowsH.firstI {h : Heap} : ∀ {us : List Value} {ys : List (List V)}, RowsH h us ys → ys.all headI = true → ∃ fs, KatTups h us fs ∧ (∀ v ∈ fs, ∃ x t, v = Value.int x t) ∧ fs.length = us.length
  | _, _, .nil, _ => ⟨[], KatTups.nil, fun v hv => (by cases hv), rfl⟩
  | _, y :: ys, .cons q r, hs => by
    rw [List.all_cons, Bool.and_eq_true] at hs
    obtain ⟨fs, k1, k2, k3⟩ := RowsH.firstI r hs.2
    obtain ⟨a, vs, rfl, ⟨o, e1, e2, n, e3⟩, e4⟩ := q
    cases y with
    | nil => simp [headI] at hs
    | cons z y =>
      cases z with
      | int x =>
        cases e4 with
        | cons rx rr =>
          obtain ⟨t, rfl⟩ := rx
          exact ⟨Value.int x t :: fs, KatTups.cons e1 e2 e3 (by simp) k1, fun v hv => by
            rcases List.mem_cons.mp hv with rfl | hv
            · exact ⟨x, t, rfl⟩
            · exact k2 v hv, by rw [List.length_cons, List.length_cons, k3]⟩
      | _ => simp [headI] at hs
theorem RowsH.get {h : Heap} : ∀ {us : List Value} {ys : List (List V)} {i : Nat} {y : List V}, RowsH h us ys → ys[i]? = some y → ∃ a vs, us.getD i Value.none = Value.ref a ∧ IsTup h a vs.toArray ∧ Vals y vs
  | _, _, _, _, .nil, e => by simp at e
  | _, _, 0, _, .cons q _, e => by
    simp at e
    subst e
    obtain ⟨a, vs, rfl, e1, e2⟩ := q
    exact ⟨a, vs, rfl, e1, e2⟩
  | _, _, i + 1, _, .cons _ r, e => by
    obtain ⟨a, vs, e1, e2, e3⟩ := RowsH.get (i := i) r (by simpa using e)
    exact ⟨a, vs, by simpa using e1, e2, e3⟩
def askR (ys : List (List V)) (i j : Nat) : Option Bool := match ys[i]?, ys[j]? with
  | some x, some y => if x.length = y.length then ltR x y else none
  | _, _ => none
theorem askR_ok {prog : Program} {w : World} {A : Around} {s : Shared} {o : Bool} {us : List Value} {ys : List (List V)} (r : RowsH s.heap us ys) {i j : Nat} {b : Bool} {C : Bool → Shared → Prop} (e : askR ys i j = some b) (h : C b s) : kas_ask prog w A (tuples' o) us i j C s := by
  unfold askR at e
  split at e
  · rename_i x y ex ey
    split at e
    · rename_i hl
      obtain ⟨a, vs, e1, ⟨o1, e2, _, n, e3⟩, e4⟩ := r.get ex
      obtain ⟨a', vs', e1', ⟨o1', e2', _, n', e3'⟩, e4'⟩ := r.get ey
      unfold kas_ask
      rw [e1, e1']
      refine kat_lt e2 e3 e2' e3' ?_
      have l1 := e4.length
      have l2 := e4'.length
      have : decide (vs.toArray.size < vs'.toArray.size) = false := decide_eq_false (by rw [List.size_toArray, List.size_toArray]; omega)
      rw [this]
      exact ltR_ok 0 e e4 e4' h
    · cases e
  · cases e
/-- rows, tracked -/
def RowsT (H : Hp) : List V → List (List V) → Prop := Paired fun z y => ∃ a, z = V.ref a ∧ H a = some (.tup y)
theorem rows_h {X : Cx} {pins : List (Addr × Obj)} {σ : L2.St} {H : Hp} {s : Shared} (I : Inv X pins σ H s) : ∀ {zs : List V} {ys : List (List V)} {us : List Value}, RowsT H zs ys → Vals zs us → RowsH s.heap us ys
  | _, _, _, .nil, .nil => .nil
  | _, _, _, .cons q r, .cons v t => .cons (by
      obtain ⟨a, rfl, e⟩ := q
      cases v
      obtain ⟨its, rv, p, _⟩ := I.tuple (SqT.of e)
      exact ⟨a, its, rfl, p, rv⟩) (rows_h I r t)
theorem vals_pick {zs : List V} {us : List Value} (r : Vals zs us) : ∀ l : List Nat, Vals (l.map fun i => zs.getD i .non) (l.map fun i => us.getD i Value.none)
  | [] => .nil
  | i :: l => .cons (by
      by_cases h : i < zs.length
      · obtain ⟨u, e1, e2⟩ := r.get (List.getElem?_eq_getElem h)
        dsimp only
        rw [List.getD_eq_getElem?_getD, List.getD_eq_getElem?_getD, e1, List.getElem?_eq_getElem h]
        exact e2
      · have h1 : zs[i]? = none := List.getElem?_eq_none_iff.mpr (by omega)
        have h2 : us[i]? = none := r.none_of h1
        dsimp only
        rw [List.getD_eq_getElem?_getD, List.getD_eq_getElem?_getD, h1, h2]
        exact rfl) (vals_pick r l)
section
variable {X : Cx} {E : XK}
theorem call_sortR : CallR X (.builtin "sorted") (fun xs H Q => ∃ (t : Bool) (p : Addr) (zs : List V) (ys : List (List V)) (q : Array Nat), xs = [.ref p] ∧ SqG t X.K H p zs ∧ RowsT H zs ys ∧ 2 ≤ zs.length ∧ zs.length < 64 ∧ (ys.all headS || ys.all headI) = true ∧
    runO (askR ys) (kas_sort zs.length) = some q ∧ ∀ l, H l = none → Q (.ref l) (upd H l (.lst (q.toList.map fun i => zs.getD i .non)))) := by
  intro pins s σ H xs us Q I r h
  obtain ⟨t, p, zs, ys, q, rfl, hp, hr, h2, h64, hh, hq, k⟩ := h
  obtain ⟨u, rfl, rx⟩ := vals1 r
  cases rx
  obtain ⟨its, rv, pl⟩ := inv_sqg I hp
  have hl := rv.length
  have rows := rows_h I hr rv
  have kind : ∃ o : Bool, ∀ A' E' h', (∀ b o, s.heap.get? b = some o → h'.get? b = some o) → ∀ Q : SortKind → Shared → Prop, Q (tuples' o) { s with heap := h' } → wpAny (model X.prog X.w) A' (keyKind' its.toArray) Q E' { s with heap := h' } := by
    rcases Bool.or_eq_true _ _ ▸ hh with hh | hh
    · refine ⟨Value.type "str" != Value.type "tuple", fun A' E' h' e Q hQ => ?_⟩
      obtain ⟨fs, k1, k2, k3⟩ := (rows.mono e).firstS hh
      exact kat_kind (s := { s with heap := h' }) (T := Value.type "str") k1 (by omega) (fun v hv => by obtain ⟨x, t, rfl⟩ := k2 v hv; exact Looks.of_pure rfl) (by rfl) hQ
    · refine ⟨Value.type "int" != Value.type "tuple", fun A' E' h' e Q hQ => ?_⟩
      obtain ⟨fs, k1, k2, k3⟩ := (rows.mono e).firstI hh
      exact kat_kind (s := { s with heap := h' }) (T := Value.type "int") k1 (by omega) (fun v hv => by obtain ⟨x, t, rfl⟩ := k2 v hv; exact Looks.of_pure rfl) (by rfl) hQ
  obtain ⟨o, kind⟩ := kind
  refine sortedT (κ := tuples' o) (q := askR ys) (p := q) pl (by omega) (by omega) kind (fun A' h' e i j b C z c => askR_ok (s := { s with heap := h' }) (rows.mono e) z c) (by rw [← hl]; exact hq) fun hz => ?_
  obtain ⟨n, he⟩ := sortedAll_at s.heap its (q.toList.map fun i => its.getD i Value.none).toArray
  refine ⟨.ref (s.heap.objs.size + 1), _, I.laid (t' := s.toks) (o := .lst (q.toList.map fun i => zs.getD i .non)) (fun b o e => sortedAll_old e) (Nat.le_succ _) ?_, rfl, k _ (I.hok.fresh (Nat.le_succ _))⟩
  refine ⟨?_, (q.toList.map fun i => its.getD i Value.none), n, vals_pick rv _, by simpa using he⟩
  rw [List.length_map, Array.length_toList, hz, sizeLine_eq]
  omega
theorem call_sortR0 : CallR X (.builtin "sorted") (fun xs H Q => (∃ (t : Bool) (p : Addr) (zs : List V), xs = [.ref p] ∧ SqG t X.K H p zs ∧ zs.length < 2 ∧ ∀ l, H l = none → Q (.ref l) (upd H l (.lst zs))) ∨
    ∃ (t : Bool) (p : Addr) (zs : List V) (ys : List (List V)) (q : Array Nat), xs = [.ref p] ∧ SqG t X.K H p zs ∧ RowsT H zs ys ∧ 2 ≤ zs.length ∧ zs.length < 64 ∧ (ys.all headS || ys.all headI) = true ∧
    runO (askR ys) (kas_sort zs.length) = some q ∧ ∀ l, H l = none → Q (.ref l) (upd H l (.lst (q.toList.map fun i => zs.getD i .non)))) := by
  intro pins s σ H xs us Q I r h
  rcases h with h | h
  · obtain ⟨t, p, zs, rfl, hp, h2, k⟩ := h
    obtain ⟨u, rfl, rx⟩ := vals1 r
    cases rx
    obtain ⟨its, rv, pl⟩ := inv_sqg I hp
    have hl := rv.length
    refine sorted0 pl (by lia) ?_
    obtain ⟨n, he⟩ := sortedAll_at s.heap its its.toArray
    refine ⟨.ref (s.heap.objs.size + 1), _, I.laid (t' := s.toks) (o := .lst zs) (fun b o e => sortedAll_old e) (Nat.le_succ _) ?_, rfl, k _ (I.hok.fresh (Nat.le_succ _))⟩
    refine ⟨?_, its, n, rv, by simpa using he⟩
    rw [sizeLine_eq]
    lia
  · exact call_sortR _ _ _ _ _ _ _ I r h
def atomD : D → Option V
  | .int i => some (.int i)
  | .str x => some (.str x)
  | _ => none
def atomsD : List D → Option (List V)
  | [] => some []
  | d :: r => match atomD d, atomsD r with
    | some v, some vs => some (v :: vs)
    | _, _ => none
def rowsD : List D → Option (List (List V))
  | [] => some []
  | .tup ds :: r => match atomsD ds, rowsD r with
    | some v, some vs => some (v :: vs)
    | _, _ => none
  | _ :: _ => none
theorem atomD_rep {K : PySem.W.Frag} {H : Hp} {d : D} {v x : V} (e : atomD d = some v) (r : Rep K H d x) : x = v := by
  unfold atomD at e
  split at e
  · cases e; exact rep_int.mp r
  · cases e; exact rep_str.mp r
  · cases e
theorem atomsD_reps {K : PySem.W.Frag} {H : Hp} : ∀ {ds : List D} {vs xs : List V}, atomsD ds = some vs → Reps K H ds xs → xs = vs
  | [], vs, xs, e, r => by
    cases e
    exact reps_nil.mp r
  | d :: ds, vs, xs, e, r => by
    obtain ⟨x, t, rfl, h1, h2⟩ := reps_cons.mp r
    unfold atomsD at e
    split at e
    · rename_i a b ea eb
      cases e
      rw [atomD_rep ea h1, atomsD_reps eb h2]
    · cases e
theorem rowsD_reps {K : PySem.W.Frag} {H : Hp} : ∀ {ds : List D} {ys : List (List V)} {xs : List V}, rowsD ds = some ys → Reps K H ds xs → RowsT H xs ys
  | [], ys, xs, e, r => by
    cases e
    rw [reps_nil.mp r]
    exact .nil
  | d :: ds, ys, xs, e, r => by
    obtain ⟨x, t, rfl, h1, h2⟩ := reps_cons.mp r
    cases d with
    | tup es =>
      unfold rowsD at e
      split at e
      · rename_i a b ea eb
        cases e
        obtain ⟨p, us, rfl, hp, hr⟩ := rep_tup.mp h1
        have := atomsD_reps ea hr
        subst this
        exact .cons ⟨p, rfl, hp⟩ (rowsD_reps eb h2)
      · cases e
    | _ => cases e
theorem RowsT.mono {H H' : Hp} {xs : List V} {ys : List (List V)} (e : Same H H') (r : RowsT H xs ys) : RowsT H' xs ys := Paired.mapP r fun _ _ q => by
  obtain ⟨a, h1, h2⟩ := q
  exact ⟨a, h1, e _ _ h2⟩
theorem reps_pick {K : PySem.W.Frag} {H : Hp} {ds : List D} {zs : List V} (r : Reps K H ds zs) : ∀ l : List Nat, Reps K H (l.map fun i => ds.getD i .non) (l.map fun i => zs.getD i .non)
  | [] => Reps.nil
  | i :: l => Reps.cons (by
      by_cases h : i < ds.length
      · obtain ⟨x, e1, e2⟩ := r.get (List.getElem?_eq_getElem h)
        dsimp only
        rw [List.getD_eq_getElem?_getD, List.getD_eq_getElem?_getD, e1, List.getElem?_eq_getElem h]
        exact e2
      · have h1 : ds[i]? = none := List.getElem?_eq_none_iff.mpr (by omega)
        have h2 : zs[i]? = none := r.none_of h1
        dsimp only
        rw [List.getD_eq_getElem?_getD, List.getD_eq_getElem?_getD, h1, h2]
        exact rep_non.mpr rfl) (reps_pick r l)
def sortRD (ds : List D) : M D := match rowsD ds with
  | some ys => if 2 ≤ ds.length ∧ ds.length < 64 ∧ (ys.all headS || ys.all headI) = true then (match runO (askR ys) (kas_sort ds.length) with
      | some p => .ok (.lst (p.toList.map fun i => ds.getD i .non))
      | none => .bad) else .bad
  | none => .bad
def sortR0 (ds : List D) : M D := if ds.length < 2 then .ok (.lst ds) else sortRD ds
def bSortR : List D → M D
  | [.lst ds] => sortR0 ds
  | [.tup ds] => sortR0 ds
  | _ => .bad
theorem sortRD_ok {t : Bool} {Hf H : Hp} {p : Addr} {zs : List V} {ds : List D} {Q : VK} (e : Same Hf H) (hp : SqG t X.K Hf p zs) (hr : Reps X.K Hf ds zs) (q : Po X.K E (rV X.K) Hf H (sortRD ds) Q) :
    ∃ (t : Bool) (p' : Addr) (zs : List V) (ys : List (List V)) (q : Array Nat), [V.ref p] = [V.ref p'] ∧ SqG t X.K H p' zs ∧ RowsT H zs ys ∧ 2 ≤ zs.length ∧ zs.length < 64 ∧ (ys.all headS || ys.all headI) = true ∧
    runO (askR ys) (kas_sort zs.length) = some q ∧ ∀ l, H l = none → Q (.ref l) (upd H l (.lst (q.toList.map fun i => zs.getD i .non))) := by
  unfold sortRD at q
  have hl := hr.length
  split at q
  · rename_i ys ey
    split at q
    · rename_i hc
      split at q
      · rename_i a ea
        exact ⟨t, p, zs, ys, a, rfl, sqg_same e hp, (rowsD_reps ey hr).mono e, by omega, by omega, hc.2.2, by rw [← hl]; exact ea, fun l hl => q _ _ _ (Gr.alloc e hl _) (Gr.lst e hl (reps_pick hr _))⟩
      · exact q.elim
    · exact q.elim
  · exact q.elim
theorem sortR0_ok {t : Bool} {Hf H : Hp} {p : Addr} {zs : List V} {ds : List D} {Q : VK} (e : Same Hf H) (hp : SqG t X.K Hf p zs) (hr : Reps X.K Hf ds zs) (q : Po X.K E (rV X.K) Hf H (sortR0 ds) Q) :
    (∃ (t : Bool) (p' : Addr) (zs : List V), [V.ref p] = [V.ref p'] ∧ SqG t X.K H p' zs ∧ zs.length < 2 ∧ ∀ l, H l = none → Q (.ref l) (upd H l (.lst zs))) ∨
    ∃ (t : Bool) (p' : Addr) (zs : List V) (ys : List (List V)) (q : Array Nat), [V.ref p] = [V.ref p'] ∧ SqG t X.K H p' zs ∧ RowsT H zs ys ∧ 2 ≤ zs.length ∧ zs.length < 64 ∧ (ys.all headS || ys.all headI) = true ∧
    runO (askR ys) (kas_sort zs.length) = some q ∧ ∀ l, H l = none → Q (.ref l) (upd H l (.lst (q.toList.map fun i => zs.getD i .non))) := by
  unfold sortR0 at q
  split at q
  · rename_i h
    have hl := hr.length
    exact .inl ⟨t, p, zs, rfl, sqg_same e hp, by lia, fun l hl => q _ _ _ (Gr.alloc e hl _) (Gr.lst e hl hr)⟩
  · exact .inr (sortRD_ok e hp hr q)
theorem cd_sortR : CallD X E (.builtin "sorted") bSortR := by
  refine ⟨_, call_sortR0, fun Hf H xs ds Q e r q => ?_⟩
  unfold bSortR at q
  split at q
  · obtain ⟨x, rfl, h⟩ := reps1 r
    obtain ⟨p, ys, rfl, hp, hr⟩ := rep_lst.mp h
    exact sortR0_ok (t := false) e hp hr q
  · obtain ⟨x, rfl, h⟩ := reps1 r
    obtain ⟨p, ys, rfl, hp, hr⟩ := rep_tupQ h
    exact sortR0_ok (t := true) e hp hr q
  · exact q.elim

/-! ### x in a tuple of the module -/
def flatA : D → Option V
  | .non => some .non
  | .bl b => some (.bl b)
  | .int i => some (.int i)
  | .str x => some (.str x)
  | _ => none
theorem flatA_rep {K : PySem.W.Frag} {H : Hp} {d : D} {v x : V} (e : flatA d = some v) (r : Rep K H d x) : x = v ∧ flatV v = true := by
  unfold flatA at e
  split at e
  · cases e; exact ⟨rep_non.mp r, rfl⟩
  · cases e; exact ⟨rep_bl.mp r, rfl⟩
  · cases e; exact ⟨rep_int.mp r, rfl⟩
  · cases e; exact ⟨rep_str.mp r, rfl⟩
  · cases e
def gInC (cs : List V) (neg : Bool) (d : D) : M D := match flatA d with
  | some x => .ok (.bl (if neg then !inV x cs else inV x cs))
  | none => .bad
/-- a tuple of the module, of things without a heap -/
def tupB (K : PySem.W.Frag) (a : Addr) (cs : List V) : Bool := match K.lookup a with
  | some o => (match o.cls, o.data with
    | .type n, .seq its _ => decide (n = "tuple") && decide (its.size ≤ 1000) && decide (its.toList.map absV = cs.map some) && cs.all flatV
    | _, _ => false)
  | none => false
theorem vals_of_abs : ∀ {cs : List V} {us : List Value}, us.map absV = cs.map some → cs.all flatV = true → Vals cs us
  | [], [], _, _ => .nil
  | c :: cs, u :: us, e, f => by
    rw [List.map_cons, List.map_cons] at e
    injection e with e1 e2
    rw [List.all_cons, Bool.and_eq_true] at f
    refine .cons ?_ (vals_of_abs e2 f.2)
    cases u <;> simp [absV] at e1 <;> subst e1 <;> first | exact rfl | exact ⟨_, rfl⟩
  | [], _ :: _, e, _ => by simp at e
  | _ :: _, [], e, _ => by simp at e
theorem tupB_sq {K : PySem.W.Frag} {H : Hp} {a : Addr} {cs : List V} (h : tupB K a cs = true) : SqT K H a cs ∧ cs.all flatV = true := by
  unfold tupB at h
  split at h
  · rename_i o eo
    split at h
    · rename_i n its m e1 e2
      rw [Bool.and_eq_true, Bool.and_eq_true, Bool.and_eq_true] at h
      obtain ⟨⟨⟨h1, h2⟩, h3⟩, h4⟩ := h
      have h1 := of_decide_eq_true h1
      subst h1
      refine ⟨.inr ⟨o, its, m, eo, e1, e2, ?_, vals_of_abs (of_decide_eq_true h3) h4⟩, h4⟩
      have := of_decide_eq_true h2
      rw [sizeLine_eq]
      omega
    · cases h
  · cases h
variable {e : Expr} {x : Str} {pos p2 : Pos} {a : Addr} {cs : List V} {f : DSt → M D}
/-! ### xs[i] = v, of our own list -/
def tLPut (to ti tv : TE) : TS := fun D σ H => tv σ H fun v H1 => to σ H1 fun o H2 => ti σ H2 fun i H3 => rSetL o i v H3 fun H4 => D.nx σ H4
theorem ps_lput {o i value : Expr} {to ti tv : TE} {pos' : Pos} (ho : PE X o to) (hi : PE X i ti) (hv : PE X value tv) (hs : swapsWith value (some (.Subscript o i pos')) pos.line X.env = pure false) : PS X (.Assign [.Subscript o i pos'] value pos) (tLPut to ti tv) := by
  intro pins s σ H D I h
  refine wpAny_Assign_Subscript (thn (hv pins s σ H _ I h) fun r s1 ⟨v, H1, I1, rv, q1⟩ => thn (ho pins s1 σ H1 _ I1 q1) fun u s2 ⟨x, H2, I2, rx, q2⟩ => thn (hi pins s2 σ H2 _ I2 q2) fun iv s3 ⟨y, H3, I3, ry, q3⟩ => ?_) hs
  exact thn (set_list pins s3 σ H3 x y v u iv r _ I3 rx ry rv q3) fun _ s4 ⟨H4, I4, q4⟩ => ⟨σ, H4, I4, q4⟩
theorem Reps.set {K : PySem.W.Frag} {H : Hp} {d : D} {x : V} (h : Rep K H d x) : ∀ {ds : List D} {xs : List V} (j : Nat), Reps K H ds xs → Reps K H (ds.set j d) (xs.set j x)
  | [], _, _, r => by rw [reps_nil.mp r]; exact Reps.nil
  | _ :: ds, _, 0, r => by
    obtain ⟨y, t, rfl, _, q⟩ := reps_cons.mp r
    exact Reps.cons h q
  | _ :: ds, _, j + 1, r => by
    obtain ⟨y, t, rfl, z, q⟩ := reps_cons.mp r
    exact Reps.cons z (Reps.set h j q)
def sLPut (i : Nat) (fk fv : DSt → M D) (sd : DSt) : M O := match sd[i]? with
  | some (some (.ow ds)) => (fv sd).bind fun v => (fk sd).bind fun k => match k with
    | .int n => (match ixN ds.length n with
      | some j => .ok (.nx (sd.set i (some (.ow (ds.set j v)))))
      | none => .bad)
    | _ => .bad
  | _ => .bad
theorem psd_lput (i : Nat) {key value : Expr} {p1 pos' : Pos} {fk fv : DSt → M D} (hk : PEd X E key fk) (hv : PEd X E value fv) (hi : X.N[i]? = some x := by rfl) (hvis : Vis X.env.scope x := by first | exact Or.inl rfl | exact Or.inr (Or.inl rfl) | exact Or.inr (Or.inr rfl))
    (hd : (x == ("__debug__" : Str)) = false := by decide) (hcd : (x == ("__classdict__" : Str)) = false := by decide) (hs : swapsWith value (some (.Subscript (.Name x p1) key pos')) pos.line X.env = pure false := by rfl) :
    PSd X E (.Assign [.Subscript (.Name x p1) key pos'] value pos) (sLPut i fk fv) := by
  obtain ⟨tk, pk, qk⟩ := hk
  obtain ⟨tv, pv, qv⟩ := hv
  refine ⟨_, ps_lput (pe_var hi hvis hd hcd) pk pv hs, fun H0 B Hf sd σ H D sr h => ?_⟩
  unfold sLPut at h
  split at h
  · rename_i ds et
    obtain ⟨p, z1, z2, z3, xs0, z4, z5⟩ := sr.ow i _ et rfl
    refine qv H0 B Hf sd σ H _ sr (PoS.bind sr h fun dv v Hf1 H1 _ g1 sr1 rv h1 => ?_)
    refine ⟨_, z1, ?_⟩
    refine qk H0 B Hf1 sd σ H1 _ sr1 (PoS.bind sr1 h1 fun dk y Hf2 H2 _ g2 sr2 ry h2 => ?_)
    obtain ⟨p', z1', _, _, xs, w4, w5⟩ := sr2.ow i _ et rfl
    rw [z1] at z1'
    cases z1'
    split at h2
    · rename_i n _
      split at h2
      · rename_i j ej
        have hl := w5.length
        exact ⟨p, xs, n, j, rfl, rep_int.mp ry, w4, by rw [← hl]; exact ej, h2 _ Hf2 _ (Same.refl _) (sr2.change et rfl z1 rfl ⟨_, upd_same, Reps.set (Rep.mono g2.fz rv) j w5⟩)⟩
      · exact h2.elim
    · exact h2.elim
  · exact h.elim
/-! ### tests -/
theorem po_asB {f : DSt → M D} {sd : DSt} {Hf H : Hp} {Q : Bool → Hp → Prop} (h : Po X.K E rQ Hf H (DL.tB f sd) Q) : Po X.K E (rV X.K) Hf H (f sd) (fun v H' => ∃ k, v = .bl k ∧ Q k H') :=
  Po.bind h fun d v Hf1 H1 _ g1 rv h1 => by
    unfold asB at h1
    split at h1
    · exact ⟨_, rep_bl.mp rv, Po.ret (R := rQ) g1.sub h1 rfl⟩
    · exact h1.elim
theorem ptd_notinC (hm : X.mg x = some (.ref a)) (ht : tupB X.K a cs = true) (he : PEd X E e f) (hg : Gl X x := by rfl) (hd : (x == ("__debug__" : Str)) = false := by decide) : PTd X E (.Compare e [.NotIn] [.Name x p2] pos) (DL.tB (eUn (gInC cs true) f)) := by
  obtain ⟨t, p, q⟩ := he
  refine ⟨_, pt_cmpR op_notIn_seq p (pe_glob (v := .ref a) hg hm rfl hd) (by with_unfolding_all rfl), fun H0 B Hf sd σ H Q sr h => ?_⟩
  refine q H0 B Hf sd σ H _ sr (Po.bind (po_asB h) fun d v Hf1 H1 _ g1 rv h1 => ?_)
  unfold gInC at h1
  split at h1
  · rename_i y ey
    obtain ⟨rfl, fy⟩ := flatA_rep ey rv
    obtain ⟨hs, fc⟩ := tupB_sq (H := H1) ht
    exact ⟨a, cs, rfl, .inr hs, fy, fc, Po.ret g1.sub h1 (rep_bl.mpr rfl)⟩
  · exact h1.elim
theorem ptd_din (i : Nat) {key : Expr} {p1 : Pos} {fk : DSt → M D} (hu : X.A.units + 64 < cLine) (hk : PEd X E key fk) (hi : X.N[i]? = some x := by rfl) (hvis : Vis X.env.scope x := by first | exact Or.inl rfl | exact Or.inr (Or.inl rfl) | exact Or.inr (Or.inr rfl))
    (hd : (x == ("__debug__" : Str)) = false := by decide) (hcd : (x == ("__classdict__" : Str)) = false := by decide) : PTd X E (.Compare key [.In] [.Name x p1] pos) (DL.tB (eDIn i fk)) := by
  obtain ⟨tk, pk, qk⟩ := hk
  refine ⟨_, pt_cmp (pc_din (by omega) pk (pe_var hi hvis hd hcd)) (by rfl), fun H0 B Hf sd σ H Q sr h => ?_⟩
  have h := po_asB h
  unfold eDIn at h
  split at h
  case isFalse => exact h.elim
  case isTrue hdc => exact din_core (g := id) qk sr hdc h
end
end DL

set_option maxRecDepth 100000
set_option maxHeartbeats 4000000
namespace DL
open PySem PySem.Spec PySem.W PyProof.Rows L2
/-! ### an expression whose value is dropped -/
def sXp (f : DSt → M D) (sd : DSt) : M O := (f sd).bind fun _ => .ok (.nx sd)
theorem psd_xp {X : Cx} {E : XK} {pos : Pos} {e : Expr} {f : DSt → M D} (h : PEd X E e f) (hs : swapsWith e none pos.line X.env = pure false := by rfl) : PSd X E (.Expr e pos) (sXp f) := by
  obtain ⟨t, p, q⟩ := h
  refine ⟨_, ps_expr p hs, fun H0 B Hf sd σ H D sr h => ?_⟩
  refine q H0 B Hf sd σ H _ sr (PoS.bind sr h fun d v Hf1 H1 _ g1 sr1 rv h1 => ?_)
  exact h1 _ Hf1 H1 (Same.refl _) sr1
end DL

namespace Law
open PySem L2 DL
def top (i : Nat) : Stmt := PySem.Challenge.pw_selfsight_k28_boxes_and_images.main.body.getD i (.Pass ⟨0, 0, 0, 0⟩)
abbrev s_common_divisor : Stmt := top 1
abbrev s_amount : Stmt := top 2
abbrev s_plus : Stmt := top 3
abbrev s_minus : Stmt := top 4
abbrev s_is_whole : Stmt := top 11
abbrev s_is_from_to : Stmt := top 12
abbrev s_is_edge : Stmt := top 13
abbrev s_outward_face : Stmt := top 14
abbrev s_is_side : Stmt := top 15
abbrev s_checked : Stmt := top 16
abbrev s_box : Stmt := top 18
abbrev s_folded_out : Stmt := top 19
abbrev s_image_at : Stmt := top 20
abbrev s__law_cell : Stmt := top 22
abbrev s__law_numbers : Stmt := top 23
abbrev s__law_lowest : Stmt := top 24
abbrev s__law_edges : Stmt := top 25
abbrev s__law_part : Stmt := top 26
abbrev s__law_plus : Stmt := top 28
abbrev s__law_is_number : Stmt := top 29
abbrev s__law_is_point : Stmt := top 30
abbrev s__law_box_right : Stmt := top 31
abbrev s__law_mirrored : Stmt := top 32
abbrev s__law_folded : Stmt := top 33
abbrev s_law : Stmt := top 34
abbrev sI_NoHall : Stmt := inCls (top 7) 0
theorem scI_NoHall : FnScope ["self", "side"] ["self", "side"] (defScope sI_NoHall) := ⟨rfl, rfl, rfl, by decide +kernel, rfl, by decide +kernel, by decide +kernel⟩
section
variable {P : Program} {w : World} {K : PySem.W.Frag} {mg : Str → Option Value} {base : Heap}
noncomputable def F_common_divisor : List D → M S := fnD 2 3
    (sSeq (sSet 2 (eCB bAbs (aCons (eVar 0) aNil)))
      (sSeq (sSet 3 (eCB bAbs (aCons (eVar 1) aNil)))
      (sSeq (sWhile (tB (eOp gNe (eVar 3) (eC (.int 0)))) (sSeq (sSet 4 (eOp gMod (eVar 2) (eVar 3)))
      (sSeq (sSet 2 (eVar 3))
      (sSet 3 (eVar 4)))))
      (sRet (eVar 2)))))
theorem sc_common_divisor : FnScope ["one", "other", "greater", "lesser", "rest"] ["one", "other"] (defScope s_common_divisor) := ⟨rfl, rfl, rfl, by decide +kernel, rfl, by decide +kernel, by decide +kernel⟩
theorem ok_common_divisor {f : Addr} {fd : FuncData} (F : Fun K "common_divisor" "common_divisor" s_common_divisor f fd) (z_abs : mg "abs" = none) : FnOk P w K mg base CX0 1 f fd ["one", "other"] (spN K F_common_divisor) :=
  fn_d F sc_common_divisor rfl rfl fun cdv A outer s H E hr =>
    (psd_cons (psd_set 2 sc_common_divisor.nd (pd_callB cd_abs (by rfl) z_abs (by rfl) (pad_cons (pd_var 0) pad_nil)))
      (psd_cons (psd_set 3 sc_common_divisor.nd (pd_callB cd_abs (by rfl) z_abs (by rfl) (pad_cons (pd_var 1) pad_nil)))
      (psd_cons (psd_while PassesOwn.never (ptd_cmp (od_ne hr.units) (pd_var 3) pd_int (nomark _)) (psd_cons (psd_set 4 sc_common_divisor.nd (pd_op od_mod (pd_var 2) (pd_var 3)))
      (psd_cons (psd_set 2 sc_common_divisor.nd (pd_var 3))
      (psd_one (psd_set 3 sc_common_divisor.nd (pd_var 4))))))
      (psd_one (psd_ret (pd_var 2))))))
noncomputable def F_amount : List D → M S := fnD 2 1
    (sSeq (sSet 2 (eCall F_common_divisor (aCons (eVar 0) (aCons (eVar 1) aNil))))
      (sRet (eTup (aCons (eOp gFdiv (eVar 0) (eVar 2)) (aCons (eOp gFdiv (eVar 1) (eVar 2)) aNil)))))
theorem sc_amount : FnScope ["top", "bottom", "divisor"] ["top", "bottom"] (defScope s_amount) := ⟨rfl, rfl, rfl, by decide +kernel, rfl, by decide +kernel, by decide +kernel⟩
theorem ok_amount {f : Addr} {fd : FuncData} (F : Fun K "amount" "amount" s_amount f fd) {f_common_divisor : Addr} {fd_common_divisor : FuncData} (G_common_divisor : FnOk P w K mg base CX0 1 f_common_divisor fd_common_divisor ["one", "other"] (spN K F_common_divisor)) (b_common_divisor : Binds K fd_common_divisor ["one", "other"] []) (k_common_divisor : PySem.W.keepIn K (.ref f_common_divisor) = true) (m_common_divisor : mg "common_divisor" = some (.ref f_common_divisor)) : FnOk P w K mg base CX0 2 f fd ["top", "bottom"] (spN K F_amount) :=
  fn_d F sc_amount rfl rfl fun cdv A outer s H E hr =>
    (psd_cons (psd_set 2 sc_amount.nd (pd_call G_common_divisor (hr.mono (by decide)) m_common_divisor k_common_divisor b_common_divisor (pad_cons (pd_var 0) (pad_cons (pd_var 1) pad_nil))))
      (psd_one (psd_ret (pd_tup (pad_cons (pd_op od_fdiv (pd_var 0) (pd_var 2)) (pad_cons (pd_op od_fdiv (pd_var 1) (pd_var 2)) pad_nil))))))
noncomputable def F_plus : List D → M S := fnD 2 0
    (sRet (eCall F_amount (aCons (eOp gPlus (eOp gTimes (eOp gIx (eVar 0) (eC (.int 0))) (eOp gIx (eVar 1) (eC (.int 1)))) (eOp gTimes (eOp gIx (eVar 1) (eC (.int 0))) (eOp gIx (eVar 0) (eC (.int 1))))) (aCons (eOp gTimes (eOp gIx (eVar 0) (eC (.int 1))) (eOp gIx (eVar 1) (eC (.int 1)))) aNil))))
theorem sc_plus : FnScope ["one", "other"] ["one", "other"] (defScope s_plus) := ⟨rfl, rfl, rfl, by decide +kernel, rfl, by decide +kernel, by decide +kernel⟩
theorem ok_plus {f : Addr} {fd : FuncData} (F : Fun K "plus" "plus" s_plus f fd) {f_amount : Addr} {fd_amount : FuncData} (G_amount : FnOk P w K mg base CX0 2 f_amount fd_amount ["top", "bottom"] (spN K F_amount)) (b_amount : Binds K fd_amount ["top", "bottom"] []) (k_amount : PySem.W.keepIn K (.ref f_amount) = true) (m_amount : mg "amount" = some (.ref f_amount)) : FnOk P w K mg base CX0 3 f fd ["one", "other"] (spN K F_plus) :=
  fn_d F sc_plus rfl rfl fun cdv A outer s H E hr =>
    (psd_one (psd_ret (pd_call G_amount (hr.mono (by decide)) m_amount k_amount b_amount (pad_cons (pd_op od_plus (pd_op od_times (pd_ix (pd_var 0) pd_int (fun _ _ => rfl)) (pd_ix (pd_var 1) pd_int (fun _ _ => rfl))) (pd_op od_times (pd_ix (pd_var 1) pd_int (fun _ _ => rfl)) (pd_ix (pd_var 0) pd_int (fun _ _ => rfl)))) (pad_cons (pd_op od_times (pd_ix (pd_var 0) pd_int (fun _ _ => rfl)) (pd_ix (pd_var 1) pd_int (fun _ _ => rfl))) pad_nil)))))
noncomputable def F_minus : List D → M S := fnD 2 0
    (sRet (eCall F_amount (aCons (eOp gSub (eOp gTimes (eOp gIx (eVar 0) (eC (.int 0))) (eOp gIx (eVar 1) (eC (.int 1)))) (eOp gTimes (eOp gIx (eVar 1) (eC (.int 0))) (eOp gIx (eVar 0) (eC (.int 1))))) (aCons (eOp gTimes (eOp gIx (eVar 0) (eC (.int 1))) (eOp gIx (eVar 1) (eC (.int 1)))) aNil))))
theorem sc_minus : FnScope ["one", "other"] ["one", "other"] (defScope s_minus) := ⟨rfl, rfl, rfl, by decide +kernel, rfl, by decide +kernel, by decide +kernel⟩
theorem ok_minus {f : Addr} {fd : FuncData} (F : Fun K "minus" "minus" s_minus f fd) {f_amount : Addr} {fd_amount : FuncData} (G_amount : FnOk P w K mg base CX0 2 f_amount fd_amount ["top", "bottom"] (spN K F_amount)) (b_amount : Binds K fd_amount ["top", "bottom"] []) (k_amount : PySem.W.keepIn K (.ref f_amount) = true) (m_amount : mg "amount" = some (.ref f_amount)) : FnOk P w K mg base CX0 3 f fd ["one", "other"] (spN K F_minus) :=
  fn_d F sc_minus rfl rfl fun cdv A outer s H E hr =>
    (psd_one (psd_ret (pd_call G_amount (hr.mono (by decide)) m_amount k_amount b_amount (pad_cons (pd_op od_sub (pd_op od_times (pd_ix (pd_var 0) pd_int (fun _ _ => rfl)) (pd_ix (pd_var 1) pd_int (fun _ _ => rfl))) (pd_op od_times (pd_ix (pd_var 1) pd_int (fun _ _ => rfl)) (pd_ix (pd_var 0) pd_int (fun _ _ => rfl)))) (pad_cons (pd_op od_times (pd_ix (pd_var 0) pd_int (fun _ _ => rfl)) (pd_ix (pd_var 1) pd_int (fun _ _ => rfl))) pad_nil)))))
noncomputable def F_is_whole : List D → M S := fnD 1 0
    (sRet (eAnd (eIs "int" (eVar 0)) (eNot (eIs "bool" (eVar 0)))))
theorem sc_is_whole : FnScope ["value"] ["value"] (defScope s_is_whole) := ⟨rfl, rfl, rfl, by decide +kernel, rfl, by decide +kernel, by decide +kernel⟩
theorem ok_is_whole {f : Addr} {fd : FuncData} (F : Fun K "is_whole" "is_whole" s_is_whole f fd) (z_isinstance : mg "isinstance" = none) (z_int : mg "int" = none) (z_bool : mg "bool" = none) : FnOk P w K mg base CX0 1 f fd ["value"] (spN K F_is_whole) :=
  fn_d F sc_is_whole rfl rfl fun cdv A outer s H E hr =>
    (psd_one (psd_ret (pd_and (pd_isinst "int" (by rfl) z_isinstance z_int (by rfl) (by rfl) (pd_var 0)) (pd_one (pd_not (pd_isinst "bool" (by rfl) z_isinstance z_bool (by rfl) (by rfl) (pd_var 0)))))))
noncomputable def F_is_from_to : List D → M S := fnD 3 0
    (sRet (eAnd (eCall F_is_whole (aCons (eVar 0) aNil)) (eAnd (eOp gLe (eVar 1) (eVar 0)) (eOp gLe (eVar 0) (eVar 2)))))
theorem sc_is_from_to : FnScope ["value", "least", "greatest"] ["value", "least", "greatest"] (defScope s_is_from_to) := ⟨rfl, rfl, rfl, by decide +kernel, rfl, by decide +kernel, by decide +kernel⟩
theorem ok_is_from_to {f : Addr} {fd : FuncData} (F : Fun K "is_from_to" "is_from_to" s_is_from_to f fd) {f_is_whole : Addr} {fd_is_whole : FuncData} (G_is_whole : FnOk P w K mg base CX0 1 f_is_whole fd_is_whole ["value"] (spN K F_is_whole)) (b_is_whole : Binds K fd_is_whole ["value"] []) (k_is_whole : PySem.W.keepIn K (.ref f_is_whole) = true) (m_is_whole : mg "is_whole" = some (.ref f_is_whole)) : FnOk P w K mg base CX0 2 f fd ["value", "least", "greatest"] (spN K F_is_from_to) :=
  fn_d F sc_is_from_to rfl rfl fun cdv A outer s H E hr =>
    (psd_one (psd_ret (pd_and (pd_call G_is_whole (hr.mono (by decide)) m_is_whole k_is_whole b_is_whole (pad_cons (pd_var 0) pad_nil)) (pd_and (pd_cmp od_le (pd_var 1) (pd_var 0) (nomark _)) (pd_one (pd_cmp od_le (pd_var 0) (pd_var 2) (nomark _)))))))
noncomputable def F_is_edge : List D → M S := fnD 5 0
    (sSeq (sIf (tB (eOp gEq (eVar 2) (eC (.str (Str.ofString "up"))))) (sRet (eAnd (eCall F_is_from_to (aCons (eVar 3) (aCons (eC (.int 0)) (aCons (eVar 0) aNil)))) (eCall F_is_from_to (aCons (eVar 4) (aCons (eC (.int 0)) (aCons (eOp gSub (eVar 1) (eC (.int 1))) aNil)))))) sNil)
      (sSeq (sIf (tB (eOp gEq (eVar 2) (eC (.str (Str.ofString "flat"))))) (sRet (eAnd (eCall F_is_from_to (aCons (eVar 3) (aCons (eC (.int 0)) (aCons (eOp gSub (eVar 0) (eC (.int 1))) aNil)))) (eCall F_is_from_to (aCons (eVar 4) (aCons (eC (.int 0)) (aCons (eVar 1) aNil)))))) sNil)
      (sRet (eC (.bl false)))))
theorem sc_is_edge : FnScope ["width", "height", "kind", "x", "y"] ["width", "height", "kind", "x", "y"] (defScope s_is_edge) := ⟨rfl, rfl, rfl, by decide +kernel, rfl, by decide +kernel, by decide +kernel⟩
theorem ok_is_edge {f : Addr} {fd : FuncData} (F : Fun K "is_edge" "is_edge" s_is_edge f fd) {f_is_from_to : Addr} {fd_is_from_to : FuncData} (G_is_from_to : FnOk P w K mg base CX0 2 f_is_from_to fd_is_from_to ["value", "least", "greatest"] (spN K F_is_from_to)) (b_is_from_to : Binds K fd_is_from_to ["value", "least", "greatest"] []) (k_is_from_to : PySem.W.keepIn K (.ref f_is_from_to) = true) (m_is_from_to : mg "is_from_to" = some (.ref f_is_from_to)) : FnOk P w K mg base CX0 3 f fd ["width", "height", "kind", "x", "y"] (spN K F_is_edge) :=
  fn_d F sc_is_edge rfl rfl fun cdv A outer s H E hr =>
    (psd_cons (psd_if (ptd_cmp (od_eq hr.units) (pd_var 2) pd_str (nomark _)) (psd_one (psd_ret (pd_and (pd_call G_is_from_to (hr.mono (by decide)) m_is_from_to k_is_from_to b_is_from_to (pad_cons (pd_var 3) (pad_cons pd_int (pad_cons (pd_var 0) pad_nil)))) (pd_one (pd_call G_is_from_to (hr.mono (by decide)) m_is_from_to k_is_from_to b_is_from_to (pad_cons (pd_var 4) (pad_cons pd_int (pad_cons (pd_op od_sub (pd_var 1) pd_int) pad_nil)))))))) psd_nil)
      (psd_cons (psd_if (ptd_cmp (od_eq hr.units) (pd_var 2) pd_str (nomark _)) (psd_one (psd_ret (pd_and (pd_call G_is_from_to (hr.mono (by decide)) m_is_from_to k_is_from_to b_is_from_to (pad_cons (pd_var 3) (pad_cons pd_int (pad_cons (pd_op od_sub (pd_var 0) pd_int) pad_nil)))) (pd_one (pd_call G_is_from_to (hr.mono (by decide)) m_is_from_to k_is_from_to b_is_from_to (pad_cons (pd_var 4) (pad_cons pd_int (pad_cons (pd_var 1) pad_nil)))))))) psd_nil)
      (psd_one (psd_ret pd_bl))))
noncomputable def F_outward_face : List D → M S := fnD 5 2
    (sSeq (sSet 5 (eIf (tB (eOp gEq (eVar 2) (eC (.str (Str.ofString "up"))))) (eVar 3) (eVar 4)))
      (sSeq (sSet 6 (eIf (tB (eOp gEq (eVar 2) (eC (.str (Str.ofString "up"))))) (eVar 0) (eVar 1)))
      (sSeq (sIf (tB (eOp gEq (eVar 5) (eC (.int 0)))) (sRet (eC (.int 3))) sNil)
      (sSeq (sIf (tB (eOp gEq (eVar 5) (eVar 6))) (sRet (eC (.int 4))) sNil)
      (sRet (eC .non))))))
theorem sc_outward_face : FnScope ["width", "height", "kind", "x", "y", "line", "last"] ["width", "height", "kind", "x", "y"] (defScope s_outward_face) := ⟨rfl, rfl, rfl, by decide +kernel, rfl, by decide +kernel, by decide +kernel⟩
theorem ok_outward_face {f : Addr} {fd : FuncData} (F : Fun K "outward_face" "outward_face" s_outward_face f fd)  : FnOk P w K mg base CX0 1 f fd ["width", "height", "kind", "x", "y"] (spN K F_outward_face) :=
  fn_d F sc_outward_face rfl rfl fun cdv A outer s H E hr =>
    (psd_cons (psd_set 5 sc_outward_face.nd (pd_ifexp (ptd_cmp (od_eq hr.units) (pd_var 2) pd_str (nomark _)) (pd_var 3) (pd_var 4)))
      (psd_cons (psd_set 6 sc_outward_face.nd (pd_ifexp (ptd_cmp (od_eq hr.units) (pd_var 2) pd_str (nomark _)) (pd_var 0) (pd_var 1)))
      (psd_cons (psd_if (ptd_cmp (od_eq hr.units) (pd_var 5) pd_int (nomark _)) (psd_one (psd_ret pd_int)) psd_nil)
      (psd_cons (psd_if (ptd_cmp (od_eq hr.units) (pd_var 5) (pd_var 6) (nomark _)) (psd_one (psd_ret pd_int)) psd_nil)
      (psd_one (psd_ret pd_non))))))
noncomputable def F_is_side : List D → M S := fnD 3 1
    (sSeq (sIf (tN (tB (eCall F_is_edge (aCons (eVar 0) (aCons (eVar 1) (aCons (eOp gIx (eVar 2) (eC (.int 0))) (aCons (eOp gIx (eVar 2) (eC (.int 1))) (aCons (eOp gIx (eVar 2) (eC (.int 2))) aNil)))))))) (sRet (eC (.bl false))) sNil)
      (sSeq (sIf (tO (tB (eUn (gInC [V.str (Str.ofString "m"), V.str (Str.ofString "p")] true) (eOp gIx (eVar 2) (eC (.int 3))))) (tB (eUn (gInC [V.str (Str.ofString "m"), V.str (Str.ofString "p")] true) (eOp gIx (eVar 2) (eC (.int 4)))))) (sRet (eC (.bl false))) sNil)
      (sSeq (sSet 3 (eCall F_outward_face (aCons (eVar 0) (aCons (eVar 1) (aCons (eOp gIx (eVar 2) (eC (.int 0))) (aCons (eOp gIx (eVar 2) (eC (.int 1))) (aCons (eOp gIx (eVar 2) (eC (.int 2))) aNil)))))))
      (sRet (eOr (eOp gIsN (eVar 3) (eC .non)) (eOp gEq (eOp gIx (eVar 2) (eVar 3)) (eC (.str (Str.ofString "p")))))))))
theorem sc_is_side : FnScope ["width", "height", "side", "outward"] ["width", "height", "side"] (defScope s_is_side) := ⟨rfl, rfl, rfl, by decide +kernel, rfl, by decide +kernel, by decide +kernel⟩
theorem ok_is_side {f : Addr} {fd : FuncData} (F : Fun K "is_side" "is_side" s_is_side f fd) {f_is_edge : Addr} {fd_is_edge : FuncData} (G_is_edge : FnOk P w K mg base CX0 3 f_is_edge fd_is_edge ["width", "height", "kind", "x", "y"] (spN K F_is_edge)) (b_is_edge : Binds K fd_is_edge ["width", "height", "kind", "x", "y"] []) (k_is_edge : PySem.W.keepIn K (.ref f_is_edge) = true) (m_is_edge : mg "is_edge" = some (.ref f_is_edge)) {f_outward_face : Addr} {fd_outward_face : FuncData} (G_outward_face : FnOk P w K mg base CX0 1 f_outward_face fd_outward_face ["width", "height", "kind", "x", "y"] (spN K F_outward_face)) (b_outward_face : Binds K fd_outward_face ["width", "height", "kind", "x", "y"] []) (k_outward_face : PySem.W.keepIn K (.ref f_outward_face) = true) (m_outward_face : mg "outward_face" = some (.ref f_outward_face)) {at_FACES : Addr} (mt_FACES : mg "FACES" = some (.ref at_FACES)) (tb_FACES : tupB K at_FACES [V.str (Str.ofString "m"), V.str (Str.ofString "p")] = true) : FnOk P w K mg base CX0 4 f fd ["width", "height", "side"] (spN K F_is_side) :=
  fn_d F sc_is_side rfl rfl fun cdv A outer s H E hr =>
    (psd_cons (psd_if (ptd_not (ptd_val (pd_call G_is_edge (hr.mono (by decide)) m_is_edge k_is_edge b_is_edge (pad_cons (pd_var 0) (pad_cons (pd_var 1) (pad_cons (pd_ix (pd_var 2) pd_int (fun _ _ => rfl)) (pad_cons (pd_ix (pd_var 2) pd_int (fun _ _ => rfl)) (pad_cons (pd_ix (pd_var 2) pd_int (fun _ _ => rfl)) pad_nil)))))))) (psd_one (psd_ret pd_bl)) psd_nil)
      (psd_cons (psd_if ((pwd_or (ptd_notinC mt_FACES tb_FACES (pd_ix (pd_var 2) pd_int (fun _ _ => rfl))) (pwd_or1 (ptd_notinC mt_FACES tb_FACES (pd_ix (pd_var 2) pd_int (fun _ _ => rfl)))))).pt (psd_one (psd_ret pd_bl)) psd_nil)
      (psd_cons (psd_set 3 sc_is_side.nd (pd_call G_outward_face (hr.mono (by decide)) m_outward_face k_outward_face b_outward_face (pad_cons (pd_var 0) (pad_cons (pd_var 1) (pad_cons (pd_ix (pd_var 2) pd_int (fun _ _ => rfl)) (pad_cons (pd_ix (pd_var 2) pd_int (fun _ _ => rfl)) (pad_cons (pd_ix (pd_var 2) pd_int (fun _ _ => rfl)) pad_nil)))))))
      (psd_one (psd_ret (pd_or (pd_cmp od_isN (pd_var 3) pd_non (nomark _)) (pd_one (pd_cmp (od_eq hr.units) (pd_ix (pd_var 2) (pd_var 3) (fun _ _ => rfl)) pd_str (nomark _)))))))))
noncomputable def F_checked : List D → M S := fnD 1 5
    (sSeq (sSet 1 (eOp gIx (eVar 0) (eC (.int 0))))
      (sSeq (sSet 2 (eOp gIx (eVar 0) (eC (.int 1))))
      (sSeq (sIf (tO (tN (tB (eCall F_is_from_to (aCons (eVar 1) (aCons (eC (.int 1)) (aCons (eC (.int 8)) aNil)))))) (tN (tB (eCall F_is_from_to (aCons (eVar 2) (aCons (eC (.int 1)) (aCons (eC (.int 8)) aNil))))))) (sRaise "NoHall" "side" (aCons (eC .non) aNil)) sNil)
      (sSeq (sDNewT 3)
      (sSeq (sFor (iEnumT (aCons (eOp gIx (eVar 0) (eC (.int 2))) aNil)) (gTupD 2 (gsCons (gNm 4) (gsCons (gNm 5) gsNil))) (sSeq (sIf (tO (tN (tB (eCall F_is_side (aCons (eVar 1) (aCons (eVar 2) (aCons (eVar 5) aNil)))))) (tB (eDIn 3 (eSl (eVar 5) oNone (oSome (eC (.int 3))))))) (sRaise "NoHall" "side" (aCons (eVar 4) aNil)) sNil)
      (sDPut 3 (eSl (eVar 5) oNone (oSome (eC (.int 3)))) (eC (.bl true)))))
      (sRet (eTup (aCons (eVar 1) (aCons (eVar 2) (aCons (eCB bTuple (aCons (eCB bSortR (aCons (eOp gIx (eVar 0) (eC (.int 2))) aNil)) aNil)) aNil))))))))))
theorem sc_checked : FnScope ["hall", "width", "height", "told", "number", "side"] ["hall"] (defScope s_checked) := ⟨rfl, rfl, rfl, by decide +kernel, rfl, by decide +kernel, by decide +kernel⟩
theorem ok_checked {f : Addr} {fd : FuncData} (F : Fun K "checked" "checked" s_checked f fd) {f_is_from_to : Addr} {fd_is_from_to : FuncData} (G_is_from_to : FnOk P w K mg base CX0 2 f_is_from_to fd_is_from_to ["value", "least", "greatest"] (spN K F_is_from_to)) (b_is_from_to : Binds K fd_is_from_to ["value", "least", "greatest"] []) (k_is_from_to : PySem.W.keepIn K (.ref f_is_from_to) = true) (m_is_from_to : mg "is_from_to" = some (.ref f_is_from_to)) {f_is_side : Addr} {fd_is_side : FuncData} (G_is_side : FnOk P w K mg base CX0 4 f_is_side fd_is_side ["width", "height", "side"] (spN K F_is_side)) (b_is_side : Binds K fd_is_side ["width", "height", "side"] []) (k_is_side : PySem.W.keepIn K (.ref f_is_side) = true) (m_is_side : mg "is_side" = some (.ref f_is_side)) {tk_GREATEST_SIZE : Tok} (gi_GREATEST_SIZE : mg "GREATEST_SIZE" = some (.int 8 tk_GREATEST_SIZE)) {C_NoHall : Addr} (ya_NoHall : PySem.W.nsIn K mainGlobals "NoHall" = some (some (.ref C_NoHall))) (mc_NoHall : mg "NoHall" = some (.ref C_NoHall)) {fI_NoHall : Addr} {fdI_NoHall : FuncData} (ye_NoHall : exInit K C_NoHall fI_NoHall = true) (yp_NoHall : PySem.W.keepIn K (.ref C_NoHall) = true) (yf_NoHall : PySem.W.isFn K (.ref fI_NoHall) = true) (I_NoHall : FnOk P w K mg base CX0 1 fI_NoHall fdI_NoHall ["self", "side"] (spI C_NoHall "side")) (bI_NoHall : Binds K fdI_NoHall ["self", "side"] []) (z_enumerate : mg "enumerate" = none) (z_sorted : mg "sorted" = none) (z_tuple : mg "tuple" = none) : FnOk P w K mg base (CX1 P w) 5 f fd ["hall"] (spX K F_checked) :=
  fn_x F sc_checked rfl rfl fun cdv A outer s H E hr =>
    (psd_cons (psd_set 1 sc_checked.nd (pd_ix (pd_var 0) pd_int (fun _ _ => rfl)))
      (psd_cons (psd_set 2 sc_checked.nd (pd_ix (pd_var 0) pd_int (fun _ _ => rfl)))
      (psd_cons (psd_if ((pwd_or (ptd_not (ptd_val (pd_call G_is_from_to (hr.mono (by decide)) m_is_from_to k_is_from_to b_is_from_to (pad_cons (pd_var 1) (pad_cons pd_int (pad_cons (pd_globI gi_GREATEST_SIZE) pad_nil)))))) (pwd_or1 (ptd_not (ptd_val (pd_call G_is_from_to (hr.mono (by decide)) m_is_from_to k_is_from_to b_is_from_to (pad_cons (pd_var 2) (pad_cons pd_int (pad_cons (pd_globI gi_GREATEST_SIZE) pad_nil))))))))).pt (psd_one (psd_raise out_fn rfl (xc_of ye_NoHall) yp_NoHall yf_NoHall I_NoHall (hr.mono (by decide)) bI_NoHall mc_NoHall ya_NoHall (pad_cons pd_non pad_nil))) psd_nil)
      (psd_cons (psd_dnewT 3 sc_checked.nd)
      (psd_cons (psd_for PassesOwn.leaving rfl (pid_enumT (by rfl) z_enumerate (pad_cons (pd_ix (pd_var 0) pd_int (fun _ _ => rfl)) pad_nil)) (pgd_tup rfl (pgsd_cons (pgd_name 4 sc_checked.nd) (pgsd_cons (pgd_name 5 sc_checked.nd) pgsd_nil))) (psd_cons (psd_if ((pwd_or (ptd_not (ptd_val (pd_call G_is_side (hr.mono (by decide)) m_is_side k_is_side b_is_side (pad_cons (pd_var 1) (pad_cons (pd_var 2) (pad_cons (pd_var 5) pad_nil)))))) (pwd_or1 (ptd_din 3 hr.units (pd_slice (pd_var 5) pod_none (pod_some pd_int)))))).pt (psd_one (psd_raise out_fn rfl (xc_of ye_NoHall) yp_NoHall yf_NoHall I_NoHall (hr.mono (by decide)) bI_NoHall mc_NoHall ya_NoHall (pad_cons (pd_var 4) pad_nil))) psd_nil)
      (psd_one (psd_dput 3 hr.units (pd_slice (pd_var 5) pod_none (pod_some pd_int)) pd_bl))))
      (psd_one (psd_ret (pd_tup (pad_cons (pd_var 1) (pad_cons (pd_var 2) (pad_cons (pd_callT cd_tuple (by rfl) z_tuple (by rfl) (pad_cons (pd_callB cd_sortR (by rfl) z_sorted (by rfl) (pad_cons (pd_ix (pd_var 0) pd_int (fun _ _ => rfl)) pad_nil)) pad_nil)) pad_nil)))))))))))
noncomputable def F_box : List D → M S := fnD 2 3
    (sSeq (sXp (eCallX F_checked (aCons (eTup (aCons (eVar 0) (aCons (eVar 1) (aCons (eTup aNil) aNil)))) aNil)))
      (sSeq (sOwn 2 (fLst aNil))
      (sSeq (sFor (iRange1 (aCons (eVar 0) aNil)) (gNm 3) (sSeq (sApp 2 (eTup (aCons (eC (.str (Str.ofString "flat"))) (aCons (eVar 3) (aCons (eC (.int 0)) (aCons (eC (.str (Str.ofString "p"))) (aCons (eC (.str (Str.ofString "m"))) aNil)))))))
      (sApp 2 (eTup (aCons (eC (.str (Str.ofString "flat"))) (aCons (eVar 3) (aCons (eVar 1) (aCons (eC (.str (Str.ofString "m"))) (aCons (eC (.str (Str.ofString "p"))) aNil)))))))))
      (sSeq (sFor (iRange1 (aCons (eVar 1) aNil)) (gNm 4) (sSeq (sApp 2 (eTup (aCons (eC (.str (Str.ofString "up"))) (aCons (eC (.int 0)) (aCons (eVar 4) (aCons (eC (.str (Str.ofString "p"))) (aCons (eC (.str (Str.ofString "m"))) aNil)))))))
      (sApp 2 (eTup (aCons (eC (.str (Str.ofString "up"))) (aCons (eVar 0) (aCons (eVar 4) (aCons (eC (.str (Str.ofString "m"))) (aCons (eC (.str (Str.ofString "p"))) aNil)))))))))
      (sFrz 2 (sRet (eCallX F_checked (aCons (eTup (aCons (eVar 0) (aCons (eVar 1) (aCons (eCB bTuple (aCons (eVar 2) aNil)) aNil)))) aNil))))))))
theorem sc_box : FnScope ["width", "height", "sides", "x", "y"] ["width", "height"] (defScope s_box) := ⟨rfl, rfl, rfl, by decide +kernel, rfl, by decide +kernel, by decide +kernel⟩
theorem ok_box {f : Addr} {fd : FuncData} (F : Fun K "box" "box" s_box f fd) {f_checked : Addr} {fd_checked : FuncData} (G_checked : FnOk P w K mg base (CX1 P w) 5 f_checked fd_checked ["hall"] (spX K F_checked)) (b_checked : Binds K fd_checked ["hall"] []) (k_checked : PySem.W.keepIn K (.ref f_checked) = true) (m_checked : mg "checked" = some (.ref f_checked)) (z_range : mg "range" = none) (z_tuple : mg "tuple" = none) : FnOk P w K mg base (CX1 P w) 6 f fd ["width", "height"] (spX K F_box) :=
  fn_x F sc_box rfl rfl fun cdv A outer s H E hr =>
    (psd_cons (psd_xp (pd_callX G_checked (hr.mono (by decide)) m_checked k_checked b_checked out_fn (pad_cons (pd_tup (pad_cons (pd_var 0) (pad_cons (pd_var 1) (pad_cons (pd_tup pad_nil) pad_nil)))) pad_nil)))
      (psd_cons (psd_own 2 sc_box.nd (pfd_lst pad_nil))
      (psd_cons (psd_for PassesOwn.leaving rfl (pid_range1 (by rfl) z_range (pad_cons (pd_var 0) pad_nil)) (pgd_name 3 sc_box.nd) (psd_cons (psd_app 2 (pd_tup (pad_cons pd_str (pad_cons (pd_var 3) (pad_cons pd_int (pad_cons pd_str (pad_cons pd_str pad_nil)))))))
      (psd_one (psd_app 2 (pd_tup (pad_cons pd_str (pad_cons (pd_var 3) (pad_cons (pd_var 1) (pad_cons pd_str (pad_cons pd_str pad_nil))))))))))
      (psd_cons (psd_for PassesOwn.leaving rfl (pid_range1 (by rfl) z_range (pad_cons (pd_var 1) pad_nil)) (pgd_name 4 sc_box.nd) (psd_cons (psd_app 2 (pd_tup (pad_cons pd_str (pad_cons pd_int (pad_cons (pd_var 4) (pad_cons pd_str (pad_cons pd_str pad_nil)))))))
      (psd_one (psd_app 2 (pd_tup (pad_cons pd_str (pad_cons (pd_var 0) (pad_cons (pd_var 4) (pad_cons pd_str (pad_cons pd_str pad_nil))))))))))
      (psd_frz 2 (psd_one (psd_ret (pd_callX G_checked (hr.mono (by decide)) m_checked k_checked b_checked out_fn (pad_cons (pd_tup (pad_cons (pd_var 0) (pad_cons (pd_var 1) (pad_cons (pd_callT cd_tuple (by rfl) z_tuple (by rfl) (pad_cons (pd_var 2) pad_nil)) pad_nil)))) pad_nil)))))))))
noncomputable def F_folded_out : List D → M S := fnD 3 1
    (sSeq (sSet 3 (eIf (tB (eOp gEq (eOp gMod (eVar 2) (eC (.int 2))) (eC (.int 1)))) (eCall F_minus (aCons (eTup (aCons (eVar 0) (aCons (eC (.int 1)) aNil))) (aCons (eVar 1) aNil))) (eVar 1)))
      (sRet (eCall F_plus (aCons (eTup (aCons (eOp gTimes (eVar 2) (eVar 0)) (aCons (eC (.int 1)) aNil))) (aCons (eVar 3) aNil)))))
theorem sc_folded_out : FnScope ["size", "place", "number", "within"] ["size", "place", "number"] (defScope s_folded_out) := ⟨rfl, rfl, rfl, by decide +kernel, rfl, by decide +kernel, by decide +kernel⟩
theorem ok_folded_out {f : Addr} {fd : FuncData} (F : Fun K "folded_out" "folded_out" s_folded_out f fd) {f_minus : Addr} {fd_minus : FuncData} (G_minus : FnOk P w K mg base CX0 3 f_minus fd_minus ["one", "other"] (spN K F_minus)) (b_minus : Binds K fd_minus ["one", "other"] []) (k_minus : PySem.W.keepIn K (.ref f_minus) = true) (m_minus : mg "minus" = some (.ref f_minus)) {f_plus : Addr} {fd_plus : FuncData} (G_plus : FnOk P w K mg base CX0 3 f_plus fd_plus ["one", "other"] (spN K F_plus)) (b_plus : Binds K fd_plus ["one", "other"] []) (k_plus : PySem.W.keepIn K (.ref f_plus) = true) (m_plus : mg "plus" = some (.ref f_plus)) : FnOk P w K mg base CX0 4 f fd ["size", "place", "number"] (spN K F_folded_out) :=
  fn_d F sc_folded_out rfl rfl fun cdv A outer s H E hr =>
    (psd_cons (psd_set 3 sc_folded_out.nd (pd_ifexp (ptd_cmp (od_eq hr.units) (pd_op od_mod (pd_var 2) pd_int) pd_int (nomark _)) (pd_call G_minus (hr.mono (by decide)) m_minus k_minus b_minus (pad_cons (pd_tup (pad_cons (pd_var 0) (pad_cons pd_int pad_nil))) (pad_cons (pd_var 1) pad_nil))) (pd_var 1)))
      (psd_one (psd_ret (pd_call G_plus (hr.mono (by decide)) m_plus k_plus b_plus (pad_cons (pd_tup (pad_cons (pd_op od_times (pd_var 2) (pd_var 0)) (pad_cons pd_int pad_nil))) (pad_cons (pd_var 3) pad_nil))))))
noncomputable def F_image_at : List D → M S := fnD 4 0
    (sRet (eTup (aCons (eCall F_folded_out (aCons (eVar 0) (aCons (eOp gIx (eVar 2) (eC (.int 0))) (aCons (eOp gIx (eVar 3) (eC (.int 0))) aNil)))) (aCons (eCall F_folded_out (aCons (eVar 1) (aCons (eOp gIx (eVar 2) (eC (.int 1))) (aCons (eOp gIx (eVar 3) (eC (.int 1))) aNil)))) aNil))))
theorem sc_image_at : FnScope ["width", "height", "point", "cell"] ["width", "height", "point", "cell"] (defScope s_image_at) := ⟨rfl, rfl, rfl, by decide +kernel, rfl, by decide +kernel, by decide +kernel⟩
theorem ok_image_at {f : Addr} {fd : FuncData} (F : Fun K "image_at" "image_at" s_image_at f fd) {f_folded_out : Addr} {fd_folded_out : FuncData} (G_folded_out : FnOk P w K mg base CX0 4 f_folded_out fd_folded_out ["size", "place", "number"] (spN K F_folded_out)) (b_folded_out : Binds K fd_folded_out ["size", "place", "number"] []) (k_folded_out : PySem.W.keepIn K (.ref f_folded_out) = true) (m_folded_out : mg "folded_out" = some (.ref f_folded_out)) : FnOk P w K mg base CX0 5 f fd ["width", "height", "point", "cell"] (spN K F_image_at) :=
  fn_d F sc_image_at rfl rfl fun cdv A outer s H E hr =>
    (psd_one (psd_ret (pd_tup (pad_cons (pd_call G_folded_out (hr.mono (by decide)) m_folded_out k_folded_out b_folded_out (pad_cons (pd_var 0) (pad_cons (pd_ix (pd_var 2) pd_int (fun _ _ => rfl)) (pad_cons (pd_ix (pd_var 3) pd_int (fun _ _ => rfl)) pad_nil)))) (pad_cons (pd_call G_folded_out (hr.mono (by decide)) m_folded_out k_folded_out b_folded_out (pad_cons (pd_var 1) (pad_cons (pd_ix (pd_var 2) pd_int (fun _ _ => rfl)) (pad_cons (pd_ix (pd_var 3) pd_int (fun _ _ => rfl)) pad_nil)))) pad_nil)))))
noncomputable def F__law_cell : List D → M S := fnD 2 0
    (sRet (eOp gIx (eOp gPlus (eSl (eVar 0) (oSome (eVar 1)) (oSome (eOp gPlus (eVar 1) (eC (.int 1))))) (eLst (aCons (eC (.int 0)) aNil))) (eC (.int 0))))
theorem sc__law_cell : FnScope ["_law_script", "_law_k"] ["_law_script", "_law_k"] (defScope s__law_cell) := ⟨rfl, rfl, rfl, by decide +kernel, rfl, by decide +kernel, by decide +kernel⟩
theorem ok__law_cell {f : Addr} {fd : FuncData} (F : Fun K "_law_cell" "_law_cell" s__law_cell f fd)  : FnOk P w K mg base CX0 1 f fd ["_law_script", "_law_k"] (spN K F__law_cell) :=
  fn_d F sc__law_cell rfl rfl fun cdv A outer s H E hr =>
    (psd_one (psd_ret (pd_ix (pd_op od_plus (pd_slice (pd_var 0) (pod_some (pd_var 1)) (pod_some (pd_op od_plus (pd_var 1) pd_int))) (pd_lst (pad_cons pd_int pad_nil))) pd_int (fun _ _ => rfl))))
noncomputable def F__law_numbers : List D → M S := fnD 2 4
    (sSeq (sOwn 2 (fLst aNil))
      (sSeq (sSet 3 (eOp gMod (eOp gTimes (eOp gPlus (eOp gMod (eVar 0) (eC (.int 1999999973))) (eC (.int 31))) (eC (.int 765432101))) (eC (.int 1999999973))))
      (sSeq (sSet 4 (eC (.int 0)))
      (sSeq (sIf (tO (tB (eOp gLt (eVar 0) (eC (.int 0)))) (tB (eOp gGe (eVar 0) (eOp gPow (eC (.int 10)) (eC (.int 18)))))) (sSet 4 (eCB bAbs (aCons (eVar 0) aNil))) sNil)
      (sSeq (sFor (iRange1 (aCons (eVar 1) aNil)) (gNm 5) (sSeq (sSet 3 (eOp gMod (eOp gPlus (eOp gPlus (eOp gTimes (eVar 3) (eOp gPlus (eOp gMod (eVar 3) (eC (.int 65521))) (eC (.int 40487)))) (eOp gTimes (eC (.int 7)) (eVar 5))) (eC (.int 5))) (eC (.int 1999999973))))
      (sSeq (sApp 2 (eOp gIx (eLst (aCons (eVar 3) (aCons (eOp gMod (eVar 4) (eC (.int 1000000))) aNil))) (eCB bInt (aCons (eOp gGt (eVar 4) (eC (.int 0))) aNil))))
      (sSet 4 (eOp gFdiv (eVar 4) (eC (.int 1000000)))))))
      (sRetO 2))))))
theorem sc__law_numbers : FnScope ["_law_cell_here", "_law_many", "_law_found", "_law_number", "_law_digits", "_law_k"] ["_law_cell_here", "_law_many"] (defScope s__law_numbers) := ⟨rfl, rfl, rfl, by decide +kernel, rfl, by decide +kernel, by decide +kernel⟩
theorem ok__law_numbers {f : Addr} {fd : FuncData} (F : Fun K "_law_numbers" "_law_numbers" s__law_numbers f fd) (z_abs : mg "abs" = none) (z_range : mg "range" = none) (z_int : mg "int" = none) : FnOk P w K mg base CX0 1 f fd ["_law_cell_here", "_law_many"] (spN K F__law_numbers) :=
  fn_d F sc__law_numbers rfl rfl fun cdv A outer s H E hr =>
    (psd_cons (psd_own 2 sc__law_numbers.nd (pfd_lst pad_nil))
      (psd_cons (psd_set 3 sc__law_numbers.nd (pd_op od_mod (pd_op od_times (pd_op od_plus (pd_op od_mod (pd_var 0) pd_int) pd_int) pd_int) pd_int))
      (psd_cons (psd_set 4 sc__law_numbers.nd pd_int)
      (psd_cons (psd_if ((pwd_or (ptd_cmp od_lt (pd_var 0) pd_int (nomark _)) (pwd_or1 (ptd_cmp od_ge (pd_var 0) (pd_op od_pow pd_int pd_int) (nomark _))))).pt (psd_one (psd_set 4 sc__law_numbers.nd (pd_callB cd_abs (by rfl) z_abs (by rfl) (pad_cons (pd_var 0) pad_nil)))) psd_nil)
      (psd_cons (psd_for PassesOwn.never rfl (pid_range1 (by rfl) z_range (pad_cons (pd_var 1) pad_nil)) (pgd_name 5 sc__law_numbers.nd) (psd_cons (psd_set 3 sc__law_numbers.nd (pd_op od_mod (pd_op od_plus (pd_op od_plus (pd_op od_times (pd_var 3) (pd_op od_plus (pd_op od_mod (pd_var 3) pd_int) pd_int)) (pd_op od_times pd_int (pd_var 5))) pd_int) pd_int))
      (psd_cons (psd_app 2 (pd_ix (pd_lst (pad_cons (pd_var 3) (pad_cons (pd_op od_mod (pd_var 4) pd_int) pad_nil))) (pd_callT cd_int (by rfl) z_int (by rfl) (pad_cons (pd_cmp od_gt (pd_var 4) pd_int (nomark _)) pad_nil)) (fun _ _ => rfl)))
      (psd_one (psd_set 4 sc__law_numbers.nd (pd_op od_fdiv (pd_var 4) pd_int))))))
      (psd_one (psd_retO 2)))))))
noncomputable def F__law_lowest : List D → M S := fnD 2 2
    (sSeq (sPar 2 3 (aCons (eCB bAbs (aCons (eVar 0) aNil)) (aCons (eVar 1) aNil)))
      (sSeq (sWhile (tB (eOp gGt (eVar 3) (eC (.int 0)))) (sPar 2 3 (aCons (eVar 3) (aCons (eOp gMod (eVar 2) (eVar 3)) aNil))))
      (sRet (eTup (aCons (eOp gFdiv (eVar 0) (eVar 2)) (aCons (eOp gFdiv (eVar 1) (eVar 2)) aNil))))))
theorem sc__law_lowest : FnScope ["_law_top", "_law_bottom", "_law_high", "_law_low"] ["_law_top", "_law_bottom"] (defScope s__law_lowest) := ⟨rfl, rfl, rfl, by decide +kernel, rfl, by decide +kernel, by decide +kernel⟩
theorem ok__law_lowest {f : Addr} {fd : FuncData} (F : Fun K "_law_lowest" "_law_lowest" s__law_lowest f fd) (z_abs : mg "abs" = none) : FnOk P w K mg base CX0 1 f fd ["_law_top", "_law_bottom"] (spN K F__law_lowest) :=
  fn_d F sc__law_lowest rfl rfl fun cdv A outer s H E hr =>
    (psd_cons (psd_par 2 3 rfl sc__law_lowest.nd (pad_cons (pd_callB cd_abs (by rfl) z_abs (by rfl) (pad_cons (pd_var 0) pad_nil)) (pad_cons (pd_var 1) pad_nil)) (by rfl))
      (psd_cons (psd_while PassesOwn.never (ptd_cmp od_gt (pd_var 3) pd_int (nomark _)) (psd_one (psd_par 2 3 rfl sc__law_lowest.nd (pad_cons (pd_var 3) (pad_cons (pd_op od_mod (pd_var 2) (pd_var 3)) pad_nil)) (by rfl))))
      (psd_one (psd_ret (pd_tup (pad_cons (pd_op od_fdiv (pd_var 0) (pd_var 2)) (pad_cons (pd_op od_fdiv (pd_var 1) (pd_var 2)) pad_nil)))))))
noncomputable def F__law_edges : List D → M S := fnD 2 3
    (sSeq (sOwn 2 (fLst aNil))
      (sSeq (sFor (iRange1 (aCons (eOp gPlus (eVar 0) (eC (.int 1))) aNil)) (gNm 3) (sExt 2 (fComp (iRange1 (aCons (eVar 1) aNil)) 1 [3] (gNm 0) (eTup (aCons (eC (.str (Str.ofString "up"))) (aCons (eVar 1) (aCons (eVar 0) aNil)))))))
      (sSeq (sFor (iRange1 (aCons (eOp gPlus (eVar 1) (eC (.int 1))) aNil)) (gNm 4) (sExt 2 (fComp (iRange1 (aCons (eVar 0) aNil)) 1 [4] (gNm 0) (eTup (aCons (eC (.str (Str.ofString "flat"))) (aCons (eVar 0) (aCons (eVar 1) aNil)))))))
      (sRetO 2))))
theorem sc__law_edges : FnScope ["_law_width", "_law_height", "_law_found", "_law_x", "_law_y"] ["_law_width", "_law_height"] (defScope s__law_edges) := ⟨rfl, rfl, rfl, by decide +kernel, rfl, by decide +kernel, by decide +kernel⟩
theorem ok__law_edges {f : Addr} {fd : FuncData} (F : Fun K "_law_edges" "_law_edges" s__law_edges f fd) (z_range : mg "range" = none) : FnOk P w K mg base CX0 1 f fd ["_law_width", "_law_height"] (spN K F__law_edges) :=
  fn_d F sc__law_edges rfl rfl fun cdv A outer s H E hr =>
    (psd_cons (psd_own 2 sc__law_edges.nd (pfd_lst pad_nil))
      (psd_cons (psd_for PassesOwn.never rfl (pid_range1 (by rfl) z_range (pad_cons (pd_op od_plus (pd_var 0) pd_int) pad_nil)) (pgd_name 3 sc__law_edges.nd) (psd_one (psd_ext 2 (pfd_comp (Nc := ["_law_y", "_law_x"]) rfl (closure_eq (fun y hy hf => cell_has (capF (sc := defScope s__law_edges) (by decide +kernel) y hy hf))) (capN (sc := defScope s__law_edges) rfl rfl (by decide +kernel) (capF (by decide +kernel)) (fun y hy hf => cell_has (capF (sc := defScope s__law_edges) (by decide +kernel) y hy hf)) rfl (capB_ok (N := ["_law_width", "_law_height", "_law_found", "_law_x", "_law_y"]) rfl (by decide +kernel))) rfl (by decide +kernel) (by decide +kernel) (keep_name (by decide)) (pid_range1 (by rfl) z_range (pad_cons (pd_var 1) pad_nil)) (fun s3 H3 C ex => pgd_name 0 (show (["_law_y", "_law_x"] : List Str).Nodup by decide +kernel)) (fun s3 H3 C ex => (pd_tup (pad_cons pd_str (pad_cons (pd_var 1) (pad_cons (pd_var 0) pad_nil)))))))))
      (psd_cons (psd_for PassesOwn.never rfl (pid_range1 (by rfl) z_range (pad_cons (pd_op od_plus (pd_var 1) pd_int) pad_nil)) (pgd_name 4 sc__law_edges.nd) (psd_one (psd_ext 2 (pfd_comp (Nc := ["_law_x", "_law_y"]) rfl (closure_eq (fun y hy hf => cell_has (capF (sc := defScope s__law_edges) (by decide +kernel) y hy hf))) (capN (sc := defScope s__law_edges) rfl rfl (by decide +kernel) (capF (by decide +kernel)) (fun y hy hf => cell_has (capF (sc := defScope s__law_edges) (by decide +kernel) y hy hf)) rfl (capB_ok (N := ["_law_width", "_law_height", "_law_found", "_law_x", "_law_y"]) rfl (by decide +kernel))) rfl (by decide +kernel) (by decide +kernel) (keep_name (by decide)) (pid_range1 (by rfl) z_range (pad_cons (pd_var 0) pad_nil)) (fun s3 H3 C ex => pgd_name 0 (show (["_law_x", "_law_y"] : List Str).Nodup by decide +kernel)) (fun s3 H3 C ex => (pd_tup (pad_cons pd_str (pad_cons (pd_var 0) (pad_cons (pd_var 1) pad_nil)))))))))
      (psd_one (psd_retO 2)))))
noncomputable def F__law_part : List D → M S := fnD 4 1
    (sSeq (sSet 4 (eOp gPlus (eC (.int 2)) (eOp gMod (eVar 1) (eOp gSub (eVar 3) (eC (.int 1))))))
      (sRet (eCall F__law_lowest (aCons (eOp gPlus (eOp gPlus (eOp gTimes (eOp gMod (eOp gFdiv (eVar 1) (eC (.int 1000))) (eVar 0)) (eVar 4)) (eC (.int 1))) (eOp gMod (eVar 2) (eOp gSub (eVar 4) (eC (.int 1))))) (aCons (eVar 4) aNil)))))
theorem sc__law_part : FnScope ["_law_size", "_law_one", "_law_other", "_law_most", "_law_bottom"] ["_law_size", "_law_one", "_law_other", "_law_most"] (defScope s__law_part) := ⟨rfl, rfl, rfl, by decide +kernel, rfl, by decide +kernel, by decide +kernel⟩
theorem ok__law_part {f : Addr} {fd : FuncData} (F : Fun K "_law_part" "_law_part" s__law_part f fd) {f__law_lowest : Addr} {fd__law_lowest : FuncData} (G__law_lowest : FnOk P w K mg base CX0 1 f__law_lowest fd__law_lowest ["_law_top", "_law_bottom"] (spN K F__law_lowest)) (b__law_lowest : Binds K fd__law_lowest ["_law_top", "_law_bottom"] []) (k__law_lowest : PySem.W.keepIn K (.ref f__law_lowest) = true) (m__law_lowest : mg "_law_lowest" = some (.ref f__law_lowest)) : FnOk P w K mg base CX0 2 f fd ["_law_size", "_law_one", "_law_other", "_law_most"] (spN K F__law_part) :=
  fn_d F sc__law_part rfl rfl fun cdv A outer s H E hr =>
    (psd_cons (psd_set 4 sc__law_part.nd (pd_op od_plus pd_int (pd_op od_mod (pd_var 1) (pd_op od_sub (pd_var 3) pd_int))))
      (psd_one (psd_ret (pd_call G__law_lowest (hr.mono (by decide)) m__law_lowest k__law_lowest b__law_lowest (pad_cons (pd_op od_plus (pd_op od_plus (pd_op od_times (pd_op od_mod (pd_op od_fdiv (pd_var 1) pd_int) (pd_var 0)) (pd_var 4)) pd_int) (pd_op od_mod (pd_var 2) (pd_op od_sub (pd_var 4) pd_int))) (pad_cons (pd_var 4) pad_nil))))))
noncomputable def F__law_plus : List D → M S := fnD 2 0
    (sRet (eCall F__law_lowest (aCons (eOp gPlus (eOp gTimes (eOp gIx (eVar 0) (eC (.int 0))) (eOp gIx (eVar 1) (eC (.int 1)))) (eOp gTimes (eOp gIx (eVar 1) (eC (.int 0))) (eOp gIx (eVar 0) (eC (.int 1))))) (aCons (eOp gTimes (eOp gIx (eVar 0) (eC (.int 1))) (eOp gIx (eVar 1) (eC (.int 1)))) aNil))))
theorem sc__law_plus : FnScope ["_law_one", "_law_other"] ["_law_one", "_law_other"] (defScope s__law_plus) := ⟨rfl, rfl, rfl, by decide +kernel, rfl, by decide +kernel, by decide +kernel⟩
theorem ok__law_plus {f : Addr} {fd : FuncData} (F : Fun K "_law_plus" "_law_plus" s__law_plus f fd) {f__law_lowest : Addr} {fd__law_lowest : FuncData} (G__law_lowest : FnOk P w K mg base CX0 1 f__law_lowest fd__law_lowest ["_law_top", "_law_bottom"] (spN K F__law_lowest)) (b__law_lowest : Binds K fd__law_lowest ["_law_top", "_law_bottom"] []) (k__law_lowest : PySem.W.keepIn K (.ref f__law_lowest) = true) (m__law_lowest : mg "_law_lowest" = some (.ref f__law_lowest)) : FnOk P w K mg base CX0 2 f fd ["_law_one", "_law_other"] (spN K F__law_plus) :=
  fn_d F sc__law_plus rfl rfl fun cdv A outer s H E hr =>
    (psd_one (psd_ret (pd_call G__law_lowest (hr.mono (by decide)) m__law_lowest k__law_lowest b__law_lowest (pad_cons (pd_op od_plus (pd_op od_times (pd_ix (pd_var 0) pd_int (fun _ _ => rfl)) (pd_ix (pd_var 1) pd_int (fun _ _ => rfl))) (pd_op od_times (pd_ix (pd_var 1) pd_int (fun _ _ => rfl)) (pd_ix (pd_var 0) pd_int (fun _ _ => rfl)))) (pad_cons (pd_op od_times (pd_ix (pd_var 0) pd_int (fun _ _ => rfl)) (pd_ix (pd_var 1) pd_int (fun _ _ => rfl))) pad_nil)))))
noncomputable def F__law_is_number : List D → M S := fnD 1 1
    (sSeq (sIf (tO (tN (tB (eIs "tuple" (eVar 0)))) (tB (eOp gNe (eCB bLen (aCons (eVar 0) aNil)) (eC (.int 2))))) (sRet (eC (.bl false))) sNil)
      (sSeq (sFor (iSeq (eVar 0)) (gNm 1) (sIf (tO (tN (tB (eIs "int" (eVar 1)))) (tB (eIs "bool" (eVar 1)))) (sRet (eC (.bl false))) sNil))
      (sRet (eAnd (eOp gGt (eOp gIx (eVar 0) (eC (.int 1))) (eC (.int 0))) (eOp gEq (eCall F__law_lowest (aCons (eOp gIx (eVar 0) (eC (.int 0))) (aCons (eOp gIx (eVar 0) (eC (.int 1))) aNil))) (eVar 0))))))
theorem sc__law_is_number : FnScope ["_law_found", "_law_part_here"] ["_law_found"] (defScope s__law_is_number) := ⟨rfl, rfl, rfl, by decide +kernel, rfl, by decide +kernel, by decide +kernel⟩
theorem ok__law_is_number {f : Addr} {fd : FuncData} (F : Fun K "_law_is_number" "_law_is_number" s__law_is_number f fd) {f__law_lowest : Addr} {fd__law_lowest : FuncData} (G__law_lowest : FnOk P w K mg base CX0 1 f__law_lowest fd__law_lowest ["_law_top", "_law_bottom"] (spN K F__law_lowest)) (b__law_lowest : Binds K fd__law_lowest ["_law_top", "_law_bottom"] []) (k__law_lowest : PySem.W.keepIn K (.ref f__law_lowest) = true) (m__law_lowest : mg "_law_lowest" = some (.ref f__law_lowest)) (z_isinstance : mg "isinstance" = none) (z_tuple : mg "tuple" = none) (z_len : mg "len" = none) (z_int : mg "int" = none) (z_bool : mg "bool" = none) : FnOk P w K mg base CX0 2 f fd ["_law_found"] (spN K F__law_is_number) :=
  fn_d F sc__law_is_number rfl rfl fun cdv A outer s H E hr =>
    (psd_cons (psd_if ((pwd_or (ptd_not (ptd_val (pd_isinst "tuple" (by rfl) z_isinstance z_tuple (by rfl) (by rfl) (pd_var 0)))) (pwd_or1 (ptd_cmp (od_ne hr.units) (pd_callB cd_len (by rfl) z_len (by rfl) (pad_cons (pd_var 0) pad_nil)) pd_int (nomark _))))).pt (psd_one (psd_ret pd_bl)) psd_nil)
      (psd_cons (psd_for PassesOwn.never rfl (pid_seq (pd_var 0)) (pgd_name 1 sc__law_is_number.nd) (psd_one (psd_if ((pwd_or (ptd_not (ptd_val (pd_isinst "int" (by rfl) z_isinstance z_int (by rfl) (by rfl) (pd_var 1)))) (pwd_or1 (ptd_val (pd_isinst "bool" (by rfl) z_isinstance z_bool (by rfl) (by rfl) (pd_var 1)))))).pt (psd_one (psd_ret pd_bl)) psd_nil)))
      (psd_one (psd_ret (pd_and (pd_cmp od_gt (pd_ix (pd_var 0) pd_int (fun _ _ => rfl)) pd_int (nomark _)) (pd_one (pd_cmp (od_eq hr.units) (pd_call G__law_lowest (hr.mono (by decide)) m__law_lowest k__law_lowest b__law_lowest (pad_cons (pd_ix (pd_var 0) pd_int (fun _ _ => rfl)) (pad_cons (pd_ix (pd_var 0) pd_int (fun _ _ => rfl)) pad_nil))) (pd_var 0) (nomark _))))))))
noncomputable def F__law_is_point : List D → M S := fnD 1 0
    (sRet (eAnd (eIs "tuple" (eVar 0)) (eAnd (eOp gEq (eCB bLen (aCons (eVar 0) aNil)) (eC (.int 2))) (eCB bAll (aCons (eNew (fComp (iSeq (eVar 0)) 1 [] (gNm 0) (eCall F__law_is_number (aCons (eVar 0) aNil)))) aNil)))))
theorem sc__law_is_point : FnScope ["_law_found"] ["_law_found"] (defScope s__law_is_point) := ⟨rfl, rfl, rfl, by decide +kernel, rfl, by decide +kernel, by decide +kernel⟩
theorem ok__law_is_point {f : Addr} {fd : FuncData} (F : Fun K "_law_is_point" "_law_is_point" s__law_is_point f fd) {f__law_is_number : Addr} {fd__law_is_number : FuncData} (G__law_is_number : FnOk P w K mg base CX0 2 f__law_is_number fd__law_is_number ["_law_found"] (spN K F__law_is_number)) (b__law_is_number : Binds K fd__law_is_number ["_law_found"] []) (k__law_is_number : PySem.W.keepIn K (.ref f__law_is_number) = true) (m__law_is_number : mg "_law_is_number" = some (.ref f__law_is_number)) (z_isinstance : mg "isinstance" = none) (z_tuple : mg "tuple" = none) (z_len : mg "len" = none) (z_all : mg "all" = none) : FnOk P w K mg base CX0 3 f fd ["_law_found"] (spN K F__law_is_point) :=
  fn_d F sc__law_is_point rfl rfl fun cdv A outer s H E hr =>
    (psd_one (psd_ret (pd_and (pd_isinst "tuple" (by rfl) z_isinstance z_tuple (by rfl) (by rfl) (pd_var 0)) (pd_and (pd_cmp (od_eq hr.units) (pd_callB cd_len (by rfl) z_len (by rfl) (pad_cons (pd_var 0) pad_nil)) pd_int (nomark _)) (pd_one (pd_callB (cd_all rfl) (by rfl) z_all (by rfl) (pad_cons (pd_new (pfd_comp (Nc := ["_law_part_here"]) rfl (closureFor_none (by decide +kernel)) (cap0 rfl (by decide +kernel)) rfl (by decide +kernel) (by decide +kernel) (keep_name (by decide)) (pid_seq (pd_var 0)) (fun s3 H3 C ex => pgd_name 0 (show (["_law_part_here"] : List Str).Nodup by decide +kernel)) (fun s3 H3 C ex => (pd_call G__law_is_number (hr.mono (by decide)) m__law_is_number k__law_is_number b__law_is_number (pad_cons (pd_var 0) pad_nil))))) pad_nil)))))))
noncomputable def F__law_box_right : List D → M S := fnD 3 6
    (sSeq (sOwn 3 (fLst aNil))
      (sSeq (sFor (iSeq (eCall F__law_edges (aCons (eVar 1) (aCons (eVar 2) aNil)))) (gTupD 3 (gsCons (gNm 4) (gsCons (gNm 5) (gsCons (gNm 6) gsNil)))) (sSeq (sAsg (eIf (tB (eOp gEq (eVar 4) (eC (.str (Str.ofString "up"))))) (eTup (aCons (eVar 5) (aCons (eVar 1) aNil))) (eTup (aCons (eVar 6) (aCons (eVar 2) aNil)))) (gTupD 2 (gsCons (gNm 7) (gsCons (gNm 8) gsNil))))
      (sIf (tB (eOp gEq (eVar 7) (eC (.int 0)))) (sApp 3 (eTup (aCons (eVar 4) (aCons (eVar 5) (aCons (eVar 6) (aCons (eC (.str (Str.ofString "p"))) (aCons (eC (.str (Str.ofString "m"))) aNil))))))) (sIf (tB (eOp gEq (eVar 7) (eVar 8))) (sApp 3 (eTup (aCons (eVar 4) (aCons (eVar 5) (aCons (eVar 6) (aCons (eC (.str (Str.ofString "m"))) (aCons (eC (.str (Str.ofString "p"))) aNil))))))) sNil))))
      (sFrz 3 (sSeq (sIf (tO (tN (tB (eIs "tuple" (eVar 0)))) (tB (eOp gNe (eVar 0) (eTup (aCons (eVar 1) (aCons (eVar 2) (aCons (eCB bTuple (aCons (eCB bSortR (aCons (eVar 3) aNil)) aNil)) aNil))))))) (sRet (eC (.bl false))) sNil)
      (sRet (eNot (eCB bAny (aCons (eNew (fComp (iSeq (eCB bList (aCons (eSl (eVar 0) oNone (oSome (eC (.int 2)))) aNil))) 1 [] (gNm 0) (eIs "bool" (eVar 0)))) aNil))))))))
theorem sc__law_box_right : FnScope ["_law_found", "_law_width", "_law_height", "_law_sides", "_law_kind", "_law_x", "_law_y", "_law_at", "_law_end"] ["_law_found", "_law_width", "_law_height"] (defScope s__law_box_right) := ⟨rfl, rfl, rfl, by decide +kernel, rfl, by decide +kernel, by decide +kernel⟩
theorem ok__law_box_right {f : Addr} {fd : FuncData} (F : Fun K "_law_box_right" "_law_box_right" s__law_box_right f fd) {f__law_edges : Addr} {fd__law_edges : FuncData} (G__law_edges : FnOk P w K mg base CX0 1 f__law_edges fd__law_edges ["_law_width", "_law_height"] (spN K F__law_edges)) (b__law_edges : Binds K fd__law_edges ["_law_width", "_law_height"] []) (k__law_edges : PySem.W.keepIn K (.ref f__law_edges) = true) (m__law_edges : mg "_law_edges" = some (.ref f__law_edges)) (z_isinstance : mg "isinstance" = none) (z_tuple : mg "tuple" = none) (z_sorted : mg "sorted" = none) (z_list : mg "list" = none) (z_bool : mg "bool" = none) (z_any : mg "any" = none) : FnOk P w K mg base CX0 2 f fd ["_law_found", "_law_width", "_law_height"] (spN K F__law_box_right) :=
  fn_d F sc__law_box_right rfl rfl fun cdv A outer s H E hr =>
    (psd_cons (psd_own 3 sc__law_box_right.nd (pfd_lst pad_nil))
      (psd_cons (psd_for PassesOwn.never rfl (pid_seq (pd_call G__law_edges (hr.mono (by decide)) m__law_edges k__law_edges b__law_edges (pad_cons (pd_var 1) (pad_cons (pd_var 2) pad_nil)))) (pgd_tup rfl (pgsd_cons (pgd_name 4 sc__law_box_right.nd) (pgsd_cons (pgd_name 5 sc__law_box_right.nd) (pgsd_cons (pgd_name 6 sc__law_box_right.nd) pgsd_nil)))) (psd_cons (psd_asg (pd_ifexp (ptd_cmp (od_eq hr.units) (pd_var 4) pd_str (nomark _)) (pd_tup (pad_cons (pd_var 5) (pad_cons (pd_var 1) pad_nil))) (pd_tup (pad_cons (pd_var 6) (pad_cons (pd_var 2) pad_nil)))) (pgd_tup rfl (pgsd_cons (pgd_name 7 sc__law_box_right.nd) (pgsd_cons (pgd_name 8 sc__law_box_right.nd) pgsd_nil))))
      (psd_one (psd_if (ptd_cmp (od_eq hr.units) (pd_var 7) pd_int (nomark _)) (psd_one (psd_app 3 (pd_tup (pad_cons (pd_var 4) (pad_cons (pd_var 5) (pad_cons (pd_var 6) (pad_cons pd_str (pad_cons pd_str pad_nil)))))))) (psd_one (psd_if (ptd_cmp (od_eq hr.units) (pd_var 7) (pd_var 8) (nomark _)) (psd_one (psd_app 3 (pd_tup (pad_cons (pd_var 4) (pad_cons (pd_var 5) (pad_cons (pd_var 6) (pad_cons pd_str (pad_cons pd_str pad_nil)))))))) psd_nil))))))
      (psd_frz 3 (psd_cons (psd_if ((pwd_or (ptd_not (ptd_val (pd_isinst "tuple" (by rfl) z_isinstance z_tuple (by rfl) (by rfl) (pd_var 0)))) (pwd_or1 (ptd_cmp (od_ne hr.units) (pd_var 0) (pd_tup (pad_cons (pd_var 1) (pad_cons (pd_var 2) (pad_cons (pd_callT cd_tuple (by rfl) z_tuple (by rfl) (pad_cons (pd_callB cd_sortR (by rfl) z_sorted (by rfl) (pad_cons (pd_var 3) pad_nil)) pad_nil)) pad_nil)))) (nomark _))))).pt (psd_one (psd_ret pd_bl)) psd_nil)
      (psd_one (psd_ret (pd_not (pd_callB (cd_any rfl) (by rfl) z_any (by rfl) (pad_cons (pd_new (pfd_comp (Nc := ["_law_part_here"]) rfl (closureFor_none (by decide +kernel)) (cap0 rfl (by decide +kernel)) rfl (by decide +kernel) (by decide +kernel) (keep_name (by decide)) (pid_seq (pd_callT cd_list (by rfl) z_list (by rfl) (pad_cons (pd_slice (pd_var 0) pod_none (pod_some pd_int)) pad_nil))) (fun s3 H3 C ex => pgd_name 0 (show (["_law_part_here"] : List Str).Nodup by decide +kernel)) (fun s3 H3 C ex => (pd_isinst "bool" (by rfl) z_isinstance z_bool (by rfl) (by rfl) (pd_var 0))))) pad_nil)))))))))
noncomputable def F__law_mirrored : List D → M S := fnD 3 1
    (sSeq (sOwn 3 (fList (aCons (eVar 0) aNil)))
      (sSeq (sLPut 3 (eVar 1) (eCall F__law_plus (aCons (eTup (aCons (eOp gTimes (eC (.int 2)) (eVar 2)) (aCons (eC (.int 1)) aNil))) (aCons (eTup (aCons (eOp gSub (eC (.int 0)) (eOp gIx (eOp gIx (eVar 0) (eVar 1)) (eC (.int 0)))) (aCons (eOp gIx (eOp gIx (eVar 0) (eVar 1)) (eC (.int 1))) aNil))) aNil))))
      (sFrz 3 (sRet (eCB bTuple (aCons (eVar 3) aNil))))))
theorem sc__law_mirrored : FnScope ["_law_point_here", "_law_k", "_law_line", "_law_found"] ["_law_point_here", "_law_k", "_law_line"] (defScope s__law_mirrored) := ⟨rfl, rfl, rfl, by decide +kernel, rfl, by decide +kernel, by decide +kernel⟩
theorem ok__law_mirrored {f : Addr} {fd : FuncData} (F : Fun K "_law_mirrored" "_law_mirrored" s__law_mirrored f fd) {f__law_plus : Addr} {fd__law_plus : FuncData} (G__law_plus : FnOk P w K mg base CX0 2 f__law_plus fd__law_plus ["_law_one", "_law_other"] (spN K F__law_plus)) (b__law_plus : Binds K fd__law_plus ["_law_one", "_law_other"] []) (k__law_plus : PySem.W.keepIn K (.ref f__law_plus) = true) (m__law_plus : mg "_law_plus" = some (.ref f__law_plus)) (z_list : mg "list" = none) (z_tuple : mg "tuple" = none) : FnOk P w K mg base CX0 3 f fd ["_law_point_here", "_law_k", "_law_line"] (spN K F__law_mirrored) :=
  fn_d F sc__law_mirrored rfl rfl fun cdv A outer s H E hr =>
    (psd_cons (psd_own 3 sc__law_mirrored.nd (pfd_list (by rfl) z_list (by rfl) (pad_cons (pd_var 0) pad_nil)))
      (psd_cons (psd_lput 3 (pd_var 1) (pd_call G__law_plus (hr.mono (by decide)) m__law_plus k__law_plus b__law_plus (pad_cons (pd_tup (pad_cons (pd_op od_times pd_int (pd_var 2)) (pad_cons pd_int pad_nil))) (pad_cons (pd_tup (pad_cons (pd_op od_sub pd_int (pd_ix (pd_ix (pd_var 0) (pd_var 1) (fun _ _ => rfl)) pd_int (fun _ _ => rfl))) (pad_cons (pd_ix (pd_ix (pd_var 0) (pd_var 1) (fun _ _ => rfl)) pd_int (fun _ _ => rfl)) pad_nil))) pad_nil))))
      (psd_frz 3 (psd_one (psd_ret (pd_callT cd_tuple (by rfl) z_tuple (by rfl) (pad_cons (pd_var 3) pad_nil)))))))
noncomputable def F__law_folded : List D → M S := fnD 5 5
    (sSeq (sFor (iSeq (eLst (aCons (eTup (aCons (eC (.int 0)) (aCons (eVar 3) (aCons (eVar 0) aNil)))) (aCons (eTup (aCons (eC (.int 1)) (aCons (eVar 4) (aCons (eVar 1) aNil)))) aNil)))) (gTupD 3 (gsCons (gNm 5) (gsCons (gNm 6) (gsCons (gNm 7) gsNil)))) (sFor (iRange1 (aCons (eCB bAbs (aCons (eVar 6) aNil)) aNil)) (gNm 8) (sSeq (sSet 9 (eIf (tB (eOp gGt (eVar 6) (eC (.int 0)))) (eOp gTimes (eOp gPlus (eVar 8) (eC (.int 1))) (eVar 7)) (eOp gSub (eC (.int 0)) (eOp gTimes (eVar 8) (eVar 7)))))
      (sSet 2 (eCall F__law_mirrored (aCons (eVar 2) (aCons (eVar 5) (aCons (eVar 9) aNil))))))))
      (sRet (eVar 2)))
theorem sc__law_folded : FnScope ["_law_width", "_law_height", "_law_point_here", "_law_i", "_law_j", "_law_k", "_law_often", "_law_size", "_law_n", "_law_line"] ["_law_width", "_law_height", "_law_point_here", "_law_i", "_law_j"] (defScope s__law_folded) := ⟨rfl, rfl, rfl, by decide +kernel, rfl, by decide +kernel, by decide +kernel⟩
theorem ok__law_folded {f : Addr} {fd : FuncData} (F : Fun K "_law_folded" "_law_folded" s__law_folded f fd) {f__law_mirrored : Addr} {fd__law_mirrored : FuncData} (G__law_mirrored : FnOk P w K mg base CX0 3 f__law_mirrored fd__law_mirrored ["_law_point_here", "_law_k", "_law_line"] (spN K F__law_mirrored)) (b__law_mirrored : Binds K fd__law_mirrored ["_law_point_here", "_law_k", "_law_line"] []) (k__law_mirrored : PySem.W.keepIn K (.ref f__law_mirrored) = true) (m__law_mirrored : mg "_law_mirrored" = some (.ref f__law_mirrored)) (z_abs : mg "abs" = none) (z_range : mg "range" = none) : FnOk P w K mg base CX0 4 f fd ["_law_width", "_law_height", "_law_point_here", "_law_i", "_law_j"] (spN K F__law_folded) :=
  fn_d F sc__law_folded rfl rfl fun cdv A outer s H E hr =>
    (psd_cons (psd_for PassesOwn.never rfl (pid_seq (pd_lst (pad_cons (pd_tup (pad_cons pd_int (pad_cons (pd_var 3) (pad_cons (pd_var 0) pad_nil)))) (pad_cons (pd_tup (pad_cons pd_int (pad_cons (pd_var 4) (pad_cons (pd_var 1) pad_nil)))) pad_nil)))) (pgd_tup rfl (pgsd_cons (pgd_name 5 sc__law_folded.nd) (pgsd_cons (pgd_name 6 sc__law_folded.nd) (pgsd_cons (pgd_name 7 sc__law_folded.nd) pgsd_nil)))) (psd_one (psd_for PassesOwn.never rfl (pid_range1 (by rfl) z_range (pad_cons (pd_callB cd_abs (by rfl) z_abs (by rfl) (pad_cons (pd_var 6) pad_nil)) pad_nil)) (pgd_name 8 sc__law_folded.nd) (psd_cons (psd_set 9 sc__law_folded.nd (pd_ifexp (ptd_cmp od_gt (pd_var 6) pd_int (nomark _)) (pd_op od_times (pd_op od_plus (pd_var 8) pd_int) (pd_var 7)) (pd_op od_sub pd_int (pd_op od_times (pd_var 8) (pd_var 7)))))
      (psd_one (psd_set 2 sc__law_folded.nd (pd_call G__law_mirrored (hr.mono (by decide)) m__law_mirrored k__law_mirrored b__law_mirrored (pad_cons (pd_var 2) (pad_cons (pd_var 5) (pad_cons (pd_var 9) pad_nil))))))))))
      (psd_one (psd_ret (pd_var 2))))
noncomputable def F_law : List D → M S := fnD 1 9
    (sSeq (sSet 1 (eOp gMod (eOp gIx (eCall F__law_numbers (aCons (eCall F__law_cell (aCons (eVar 0) (aCons (eC (.int 0)) aNil))) (aCons (eC (.int 1)) aNil))) (eC (.int 0))) (eC (.int 64))))
      (sSeq (sSet 2 (eOp gPlus (eC (.int 1)) (eOp gMod (eVar 1) (eC (.int 8)))))
      (sSeq (sSet 3 (eOp gPlus (eC (.int 1)) (eOp gFdiv (eVar 1) (eC (.int 8)))))
      (sSeq (sIf (tN (tB (eCall F__law_box_right (aCons (eCallX F_box (aCons (eVar 2) (aCons (eVar 3) aNil))) (aCons (eVar 2) (aCons (eVar 3) aNil)))))) (sRet (eC (.bl false))) sNil)
      (sSeq (sFor (iSeq (eOp gPlus (eLst (aCons (eCall F__law_cell (aCons (eVar 0) (aCons (eC (.int 1)) aNil))) aNil)) (eSl (eVar 0) (oSome (eC (.int 2))) (oSome (eC (.int 42)))))) (gNm 4) (sSeq (sSet 5 (eCall F__law_numbers (aCons (eVar 4) (aCons (eC (.int 6)) aNil))))
      (sSeq (sSet 6 (eTup (aCons (eCall F__law_part (aCons (eVar 2) (aCons (eOp gIx (eVar 5) (eC (.int 0))) (aCons (eOp gIx (eVar 5) (eC (.int 1))) (aCons (eC (.int 1000)) aNil))))) (aCons (eCall F__law_part (aCons (eVar 3) (aCons (eOp gIx (eVar 5) (eC (.int 2))) (aCons (eOp gIx (eVar 5) (eC (.int 3))) (aCons (eC (.int 1000)) aNil))))) aNil))))
      (sSeq (sSet 7 (eOp gSub (eOp gMod (eOp gIx (eVar 5) (eC (.int 4))) (eC (.int 41))) (eC (.int 20))))
      (sSeq (sSet 8 (eOp gSub (eOp gMod (eOp gIx (eVar 5) (eC (.int 5))) (eC (.int 41))) (eC (.int 20))))
      (sSeq (sSet 9 (eCall F_image_at (aCons (eVar 2) (aCons (eVar 3) (aCons (eVar 6) (aCons (eTup (aCons (eVar 7) (aCons (eVar 8) aNil))) aNil))))))
      (sSeq (sIf (tO (tN (tB (eCall F__law_is_point (aCons (eVar 9) aNil)))) (tB (eOp gNe (eVar 9) (eCall F__law_folded (aCons (eVar 2) (aCons (eVar 3) (aCons (eVar 6) (aCons (eVar 7) (aCons (eVar 8) aNil))))))))) (sRet (eC (.bl false))) sNil)
      (sSeq (sIf (tB (eOp gNe (eCall F_image_at (aCons (eVar 2) (aCons (eVar 3) (aCons (eVar 6) (aCons (eTup (aCons (eC (.int 0)) (aCons (eC (.int 0)) aNil))) aNil))))) (eVar 6))) (sRet (eC (.bl false))) sNil)
      (sSeq (sIf (tB (eOp gNe (eCall F_image_at (aCons (eVar 2) (aCons (eVar 3) (aCons (eVar 6) (aCons (eTup (aCons (eOp gPlus (eVar 7) (eC (.int 1))) (aCons (eVar 8) aNil))) aNil))))) (eCall F__law_mirrored (aCons (eVar 9) (aCons (eC (.int 0)) (aCons (eOp gTimes (eOp gPlus (eVar 7) (eC (.int 1))) (eVar 2)) aNil)))))) (sRet (eC (.bl false))) sNil)
      (sSeq (sIf (tB (eOp gNe (eCall F_image_at (aCons (eVar 2) (aCons (eVar 3) (aCons (eVar 6) (aCons (eTup (aCons (eVar 7) (aCons (eOp gPlus (eVar 8) (eC (.int 1))) aNil))) aNil))))) (eCall F__law_mirrored (aCons (eVar 9) (aCons (eC (.int 1)) (aCons (eOp gTimes (eOp gPlus (eVar 8) (eC (.int 1))) (eVar 3)) aNil)))))) (sRet (eC (.bl false))) sNil)
      (sIf (tN (tB (eChain gLt gLt (eOp gTimes (eOp gTimes (eVar 7) (eVar 2)) (eOp gIx (eOp gIx (eVar 9) (eC (.int 0))) (eC (.int 1)))) (eOp gIx (eOp gIx (eVar 9) (eC (.int 0))) (eC (.int 0))) (eOp gTimes (eOp gTimes (eOp gPlus (eVar 7) (eC (.int 1))) (eVar 2)) (eOp gIx (eOp gIx (eVar 9) (eC (.int 0))) (eC (.int 1))))))) (sRet (eC (.bl false))) sNil)))))))))))
      (sRet (eC (.bl true))))))))
theorem sc_law : FnScope ["_law_script", "_law_first", "_law_width", "_law_height", "_law_cell_here", "_law_xs", "_law_point_here", "_law_i", "_law_j", "_law_here"] ["_law_script"] (defScope s_law) := ⟨rfl, rfl, rfl, by decide +kernel, rfl, by decide +kernel, by decide +kernel⟩
theorem ok_law {f : Addr} {fd : FuncData} (F : Fun K "law" "law" s_law f fd) {f__law_numbers : Addr} {fd__law_numbers : FuncData} (G__law_numbers : FnOk P w K mg base CX0 1 f__law_numbers fd__law_numbers ["_law_cell_here", "_law_many"] (spN K F__law_numbers)) (b__law_numbers : Binds K fd__law_numbers ["_law_cell_here", "_law_many"] []) (k__law_numbers : PySem.W.keepIn K (.ref f__law_numbers) = true) (m__law_numbers : mg "_law_numbers" = some (.ref f__law_numbers)) {f__law_cell : Addr} {fd__law_cell : FuncData} (G__law_cell : FnOk P w K mg base CX0 1 f__law_cell fd__law_cell ["_law_script", "_law_k"] (spN K F__law_cell)) (b__law_cell : Binds K fd__law_cell ["_law_script", "_law_k"] []) (k__law_cell : PySem.W.keepIn K (.ref f__law_cell) = true) (m__law_cell : mg "_law_cell" = some (.ref f__law_cell)) {f__law_box_right : Addr} {fd__law_box_right : FuncData} (G__law_box_right : FnOk P w K mg base CX0 2 f__law_box_right fd__law_box_right ["_law_found", "_law_width", "_law_height"] (spN K F__law_box_right)) (b__law_box_right : Binds K fd__law_box_right ["_law_found", "_law_width", "_law_height"] []) (k__law_box_right : PySem.W.keepIn K (.ref f__law_box_right) = true) (m__law_box_right : mg "_law_box_right" = some (.ref f__law_box_right)) {f_box : Addr} {fd_box : FuncData} (G_box : FnOk P w K mg base (CX1 P w) 6 f_box fd_box ["width", "height"] (spX K F_box)) (b_box : Binds K fd_box ["width", "height"] []) (k_box : PySem.W.keepIn K (.ref f_box) = true) (m_box : mg "box" = some (.ref f_box)) {f__law_part : Addr} {fd__law_part : FuncData} (G__law_part : FnOk P w K mg base CX0 2 f__law_part fd__law_part ["_law_size", "_law_one", "_law_other", "_law_most"] (spN K F__law_part)) (b__law_part : Binds K fd__law_part ["_law_size", "_law_one", "_law_other", "_law_most"] []) (k__law_part : PySem.W.keepIn K (.ref f__law_part) = true) (m__law_part : mg "_law_part" = some (.ref f__law_part)) {f_image_at : Addr} {fd_image_at : FuncData} (G_image_at : FnOk P w K mg base CX0 5 f_image_at fd_image_at ["width", "height", "point", "cell"] (spN K F_image_at)) (b_image_at : Binds K fd_image_at ["width", "height", "point", "cell"] []) (k_image_at : PySem.W.keepIn K (.ref f_image_at) = true) (m_image_at : mg "image_at" = some (.ref f_image_at)) {f__law_is_point : Addr} {fd__law_is_point : FuncData} (G__law_is_point : FnOk P w K mg base CX0 3 f__law_is_point fd__law_is_point ["_law_found"] (spN K F__law_is_point)) (b__law_is_point : Binds K fd__law_is_point ["_law_found"] []) (k__law_is_point : PySem.W.keepIn K (.ref f__law_is_point) = true) (m__law_is_point : mg "_law_is_point" = some (.ref f__law_is_point)) {f__law_folded : Addr} {fd__law_folded : FuncData} (G__law_folded : FnOk P w K mg base CX0 4 f__law_folded fd__law_folded ["_law_width", "_law_height", "_law_point_here", "_law_i", "_law_j"] (spN K F__law_folded)) (b__law_folded : Binds K fd__law_folded ["_law_width", "_law_height", "_law_point_here", "_law_i", "_law_j"] []) (k__law_folded : PySem.W.keepIn K (.ref f__law_folded) = true) (m__law_folded : mg "_law_folded" = some (.ref f__law_folded)) {f__law_mirrored : Addr} {fd__law_mirrored : FuncData} (G__law_mirrored : FnOk P w K mg base CX0 3 f__law_mirrored fd__law_mirrored ["_law_point_here", "_law_k", "_law_line"] (spN K F__law_mirrored)) (b__law_mirrored : Binds K fd__law_mirrored ["_law_point_here", "_law_k", "_law_line"] []) (k__law_mirrored : PySem.W.keepIn K (.ref f__law_mirrored) = true) (m__law_mirrored : mg "_law_mirrored" = some (.ref f__law_mirrored)) : FnOk P w K mg base (CX1 P w) 7 f fd ["_law_script"] (spX K F_law) :=
  fn_x F sc_law rfl rfl fun cdv A outer s H E hr =>
    (psd_cons (psd_set 1 sc_law.nd (pd_op od_mod (pd_ix (pd_call G__law_numbers (hr.mono (by decide)) m__law_numbers k__law_numbers b__law_numbers (pad_cons (pd_call G__law_cell (hr.mono (by decide)) m__law_cell k__law_cell b__law_cell (pad_cons (pd_var 0) (pad_cons pd_int pad_nil))) (pad_cons pd_int pad_nil))) pd_int (fun _ _ => rfl)) pd_int))
      (psd_cons (psd_set 2 sc_law.nd (pd_op od_plus pd_int (pd_op od_mod (pd_var 1) pd_int)))
      (psd_cons (psd_set 3 sc_law.nd (pd_op od_plus pd_int (pd_op od_fdiv (pd_var 1) pd_int)))
      (psd_cons (psd_if (ptd_not (ptd_val (pd_call G__law_box_right (hr.mono (by decide)) m__law_box_right k__law_box_right b__law_box_right (pad_cons (pd_callX G_box (hr.mono (by decide)) m_box k_box b_box out_fn (pad_cons (pd_var 2) (pad_cons (pd_var 3) pad_nil))) (pad_cons (pd_var 2) (pad_cons (pd_var 3) pad_nil)))))) (psd_one (psd_ret pd_bl)) psd_nil)
      (psd_cons (psd_for PassesOwn.leaving rfl (pid_seq (pd_op od_plus (pd_lst (pad_cons (pd_call G__law_cell (hr.mono (by decide)) m__law_cell k__law_cell b__law_cell (pad_cons (pd_var 0) (pad_cons pd_int pad_nil))) pad_nil)) (pd_slice (pd_var 0) (pod_some pd_int) (pod_some pd_int)))) (pgd_name 4 sc_law.nd) (psd_cons (psd_set 5 sc_law.nd (pd_call G__law_numbers (hr.mono (by decide)) m__law_numbers k__law_numbers b__law_numbers (pad_cons (pd_var 4) (pad_cons pd_int pad_nil))))
      (psd_cons (psd_set 6 sc_law.nd (pd_tup (pad_cons (pd_call G__law_part (hr.mono (by decide)) m__law_part k__law_part b__law_part (pad_cons (pd_var 2) (pad_cons (pd_ix (pd_var 5) pd_int (fun _ _ => rfl)) (pad_cons (pd_ix (pd_var 5) pd_int (fun _ _ => rfl)) (pad_cons pd_int pad_nil))))) (pad_cons (pd_call G__law_part (hr.mono (by decide)) m__law_part k__law_part b__law_part (pad_cons (pd_var 3) (pad_cons (pd_ix (pd_var 5) pd_int (fun _ _ => rfl)) (pad_cons (pd_ix (pd_var 5) pd_int (fun _ _ => rfl)) (pad_cons pd_int pad_nil))))) pad_nil))))
      (psd_cons (psd_set 7 sc_law.nd (pd_op od_sub (pd_op od_mod (pd_ix (pd_var 5) pd_int (fun _ _ => rfl)) pd_int) pd_int))
      (psd_cons (psd_set 8 sc_law.nd (pd_op od_sub (pd_op od_mod (pd_ix (pd_var 5) pd_int (fun _ _ => rfl)) pd_int) pd_int))
      (psd_cons (psd_set 9 sc_law.nd (pd_call G_image_at (hr.mono (by decide)) m_image_at k_image_at b_image_at (pad_cons (pd_var 2) (pad_cons (pd_var 3) (pad_cons (pd_var 6) (pad_cons (pd_tup (pad_cons (pd_var 7) (pad_cons (pd_var 8) pad_nil))) pad_nil))))))
      (psd_cons (psd_if ((pwd_or (ptd_not (ptd_val (pd_call G__law_is_point (hr.mono (by decide)) m__law_is_point k__law_is_point b__law_is_point (pad_cons (pd_var 9) pad_nil)))) (pwd_or1 (ptd_cmp (od_ne hr.units) (pd_var 9) (pd_call G__law_folded (hr.mono (by decide)) m__law_folded k__law_folded b__law_folded (pad_cons (pd_var 2) (pad_cons (pd_var 3) (pad_cons (pd_var 6) (pad_cons (pd_var 7) (pad_cons (pd_var 8) pad_nil)))))) (nomark _))))).pt (psd_one (psd_ret pd_bl)) psd_nil)
      (psd_cons (psd_if (ptd_cmp (od_ne hr.units) (pd_call G_image_at (hr.mono (by decide)) m_image_at k_image_at b_image_at (pad_cons (pd_var 2) (pad_cons (pd_var 3) (pad_cons (pd_var 6) (pad_cons (pd_tup (pad_cons pd_int (pad_cons pd_int pad_nil))) pad_nil))))) (pd_var 6) (nomark _)) (psd_one (psd_ret pd_bl)) psd_nil)
      (psd_cons (psd_if (ptd_cmp (od_ne hr.units) (pd_call G_image_at (hr.mono (by decide)) m_image_at k_image_at b_image_at (pad_cons (pd_var 2) (pad_cons (pd_var 3) (pad_cons (pd_var 6) (pad_cons (pd_tup (pad_cons (pd_op od_plus (pd_var 7) pd_int) (pad_cons (pd_var 8) pad_nil))) pad_nil))))) (pd_call G__law_mirrored (hr.mono (by decide)) m__law_mirrored k__law_mirrored b__law_mirrored (pad_cons (pd_var 9) (pad_cons pd_int (pad_cons (pd_op od_times (pd_op od_plus (pd_var 7) pd_int) (pd_var 2)) pad_nil)))) (nomark _)) (psd_one (psd_ret pd_bl)) psd_nil)
      (psd_cons (psd_if (ptd_cmp (od_ne hr.units) (pd_call G_image_at (hr.mono (by decide)) m_image_at k_image_at b_image_at (pad_cons (pd_var 2) (pad_cons (pd_var 3) (pad_cons (pd_var 6) (pad_cons (pd_tup (pad_cons (pd_var 7) (pad_cons (pd_op od_plus (pd_var 8) pd_int) pad_nil))) pad_nil))))) (pd_call G__law_mirrored (hr.mono (by decide)) m__law_mirrored k__law_mirrored b__law_mirrored (pad_cons (pd_var 9) (pad_cons pd_int (pad_cons (pd_op od_times (pd_op od_plus (pd_var 8) pd_int) (pd_var 3)) pad_nil)))) (nomark _)) (psd_one (psd_ret pd_bl)) psd_nil)
      (psd_one (psd_if (ptd_not (ptd_chain od_lt od_lt (pd_op od_times (pd_op od_times (pd_var 7) (pd_var 2)) (pd_ix (pd_ix (pd_var 9) pd_int (fun _ _ => rfl)) pd_int (fun _ _ => rfl))) (pd_ix (pd_ix (pd_var 9) pd_int (fun _ _ => rfl)) pd_int (fun _ _ => rfl)) (pd_op od_times (pd_op od_times (pd_op od_plus (pd_var 7) pd_int) (pd_var 2)) (pd_ix (pd_ix (pd_var 9) pd_int (fun _ _ => rfl)) pd_int (fun _ _ => rfl))))) (psd_one (psd_ret pd_bl)) psd_nil))))))))))))
      (psd_one (psd_ret pd_bl)))))))
end
theorem all_mk {l : PySem.W.OpenLaw} {w : World} {K : PySem.W.Frag} {h : Heap} {mg : Str → Option Value} {fa f0 f1 f2 f3 f4 f5 f6 f7 f8 f9 f10 f11 f12 f13 f14 f15 f16 f17 f18 f19 f20 f21 f22 f23 f24 : Addr} (X : K.In h) (G : h.Ns mainGlobals mg) (hfa : mg "law" = some (.ref fa))
    {od0 an0 od1 an1 od2 an2 od3 an3 od4 an4 od5 an5 od6 an6 od7 an7 od8 an8 od9 an9 od10 an10 od11 an11 od12 an12 od13 an13 od14 an14 od15 an15 od16 an16 od17 an17 od18 an18 od19 an19 od20 an20 od21 an21 od22 an22 od23 an23 od24 an24 : Option Addr} {sl0 sl1 sl2 sl3 sl4 sl5 sl6 sl7 sl8 sl9 sl10 sl11 sl12 sl13 sl14 sl15 sl16 sl17 sl18 sl19 sl20 sl21 sl22 sl23 sl24 : Array (Option Value)} {oc0 kV0 dc0 pm0 cd0 ct0 oc1 kV1 dc1 pm1 cd1 ct1 oc2 kV2 dc2 pm2 cd2 ct2 oc3 kV3 dc3 pm3 cd3 ct3 oc4 kV4 dc4 pm4 cd4 ct4 oc5 kV5 dc5 pm5 cd5 ct5 oc6 kV6 dc6 pm6 cd6 ct6 oc7 kV7 dc7 pm7 cd7 ct7 oc8 kV8 dc8 pm8 cd8 ct8 oc9 kV9 dc9 pm9 cd9 ct9 oc10 kV10 dc10 pm10 cd10 ct10 oc11 kV11 dc11 pm11 cd11 ct11 oc12 kV12 dc12 pm12 cd12 ct12 oc13 kV13 dc13 pm13 cd13 ct13 oc14 kV14 dc14 pm14 cd14 ct14 oc15 kV15 dc15 pm15 cd15 ct15 oc16 kV16 dc16 pm16 cd16 ct16 oc17 kV17 dc17 pm17 cd17 ct17 oc18 kV18 dc18 pm18 cd18 ct18 oc19 kV19 dc19 pm19 cd19 ct19 oc20 kV20 dc20 pm20 cd20 ct20 oc21 kV21 dc21 pm21 cd21 ct21 oc22 kV22 dc22 pm22 cd22 ct22 oc23 kV23 dc23 pm23 cd23 ct23 oc24 kV24 dc24 pm24 cd24 ct24 : Value}
    (a0 : PySem.W.nsIn K mainGlobals "common_divisor" = some (some (.ref f0))) (l0 : K.lookup f0 = some ⟨oc0, od0, .func (PySem.W.fnOf "common_divisor" "common_divisor" (defArgs s_common_divisor) (defBody s_common_divisor) (defScope s_common_divisor) .none kV0 dc0 pm0 an0 cd0 ct0), sl0⟩) (c0 : PySem.W.codeIn K cd0 "common_divisor" = true) (k0 : PySem.W.keepIn K (.ref f0) = true)
    (a1 : PySem.W.nsIn K mainGlobals "amount" = some (some (.ref f1))) (l1 : K.lookup f1 = some ⟨oc1, od1, .func (PySem.W.fnOf "amount" "amount" (defArgs s_amount) (defBody s_amount) (defScope s_amount) .none kV1 dc1 pm1 an1 cd1 ct1), sl1⟩) (c1 : PySem.W.codeIn K cd1 "amount" = true) (k1 : PySem.W.keepIn K (.ref f1) = true)
    (a2 : PySem.W.nsIn K mainGlobals "plus" = some (some (.ref f2))) (l2 : K.lookup f2 = some ⟨oc2, od2, .func (PySem.W.fnOf "plus" "plus" (defArgs s_plus) (defBody s_plus) (defScope s_plus) .none kV2 dc2 pm2 an2 cd2 ct2), sl2⟩) (c2 : PySem.W.codeIn K cd2 "plus" = true) (k2 : PySem.W.keepIn K (.ref f2) = true)
    (a3 : PySem.W.nsIn K mainGlobals "minus" = some (some (.ref f3))) (l3 : K.lookup f3 = some ⟨oc3, od3, .func (PySem.W.fnOf "minus" "minus" (defArgs s_minus) (defBody s_minus) (defScope s_minus) .none kV3 dc3 pm3 an3 cd3 ct3), sl3⟩) (c3 : PySem.W.codeIn K cd3 "minus" = true) (k3 : PySem.W.keepIn K (.ref f3) = true)
    (a4 : PySem.W.nsIn K mainGlobals "is_whole" = some (some (.ref f4))) (l4 : K.lookup f4 = some ⟨oc4, od4, .func (PySem.W.fnOf "is_whole" "is_whole" (defArgs s_is_whole) (defBody s_is_whole) (defScope s_is_whole) .none kV4 dc4 pm4 an4 cd4 ct4), sl4⟩) (c4 : PySem.W.codeIn K cd4 "is_whole" = true) (k4 : PySem.W.keepIn K (.ref f4) = true)
    (a5 : PySem.W.nsIn K mainGlobals "is_from_to" = some (some (.ref f5))) (l5 : K.lookup f5 = some ⟨oc5, od5, .func (PySem.W.fnOf "is_from_to" "is_from_to" (defArgs s_is_from_to) (defBody s_is_from_to) (defScope s_is_from_to) .none kV5 dc5 pm5 an5 cd5 ct5), sl5⟩) (c5 : PySem.W.codeIn K cd5 "is_from_to" = true) (k5 : PySem.W.keepIn K (.ref f5) = true)
    (a6 : PySem.W.nsIn K mainGlobals "is_edge" = some (some (.ref f6))) (l6 : K.lookup f6 = some ⟨oc6, od6, .func (PySem.W.fnOf "is_edge" "is_edge" (defArgs s_is_edge) (defBody s_is_edge) (defScope s_is_edge) .none kV6 dc6 pm6 an6 cd6 ct6), sl6⟩) (c6 : PySem.W.codeIn K cd6 "is_edge" = true) (k6 : PySem.W.keepIn K (.ref f6) = true)
    (a7 : PySem.W.nsIn K mainGlobals "outward_face" = some (some (.ref f7))) (l7 : K.lookup f7 = some ⟨oc7, od7, .func (PySem.W.fnOf "outward_face" "outward_face" (defArgs s_outward_face) (defBody s_outward_face) (defScope s_outward_face) .none kV7 dc7 pm7 an7 cd7 ct7), sl7⟩) (c7 : PySem.W.codeIn K cd7 "outward_face" = true) (k7 : PySem.W.keepIn K (.ref f7) = true)
    (a8 : PySem.W.nsIn K mainGlobals "is_side" = some (some (.ref f8))) (l8 : K.lookup f8 = some ⟨oc8, od8, .func (PySem.W.fnOf "is_side" "is_side" (defArgs s_is_side) (defBody s_is_side) (defScope s_is_side) .none kV8 dc8 pm8 an8 cd8 ct8), sl8⟩) (c8 : PySem.W.codeIn K cd8 "is_side" = true) (k8 : PySem.W.keepIn K (.ref f8) = true)
    (a9 : PySem.W.nsIn K mainGlobals "checked" = some (some (.ref f9))) (l9 : K.lookup f9 = some ⟨oc9, od9, .func (PySem.W.fnOf "checked" "checked" (defArgs s_checked) (defBody s_checked) (defScope s_checked) .none kV9 dc9 pm9 an9 cd9 ct9), sl9⟩) (c9 : PySem.W.codeIn K cd9 "checked" = true) (k9 : PySem.W.keepIn K (.ref f9) = true)
    (a10 : PySem.W.nsIn K mainGlobals "box" = some (some (.ref f10))) (l10 : K.lookup f10 = some ⟨oc10, od10, .func (PySem.W.fnOf "box" "box" (defArgs s_box) (defBody s_box) (defScope s_box) .none kV10 dc10 pm10 an10 cd10 ct10), sl10⟩) (c10 : PySem.W.codeIn K cd10 "box" = true) (k10 : PySem.W.keepIn K (.ref f10) = true)
    (a11 : PySem.W.nsIn K mainGlobals "folded_out" = some (some (.ref f11))) (l11 : K.lookup f11 = some ⟨oc11, od11, .func (PySem.W.fnOf "folded_out" "folded_out" (defArgs s_folded_out) (defBody s_folded_out) (defScope s_folded_out) .none kV11 dc11 pm11 an11 cd11 ct11), sl11⟩) (c11 : PySem.W.codeIn K cd11 "folded_out" = true) (k11 : PySem.W.keepIn K (.ref f11) = true)
    (a12 : PySem.W.nsIn K mainGlobals "image_at" = some (some (.ref f12))) (l12 : K.lookup f12 = some ⟨oc12, od12, .func (PySem.W.fnOf "image_at" "image_at" (defArgs s_image_at) (defBody s_image_at) (defScope s_image_at) .none kV12 dc12 pm12 an12 cd12 ct12), sl12⟩) (c12 : PySem.W.codeIn K cd12 "image_at" = true) (k12 : PySem.W.keepIn K (.ref f12) = true)
    (a13 : PySem.W.nsIn K mainGlobals "_law_cell" = some (some (.ref f13))) (l13 : K.lookup f13 = some ⟨oc13, od13, .func (PySem.W.fnOf "_law_cell" "_law_cell" (defArgs s__law_cell) (defBody s__law_cell) (defScope s__law_cell) .none kV13 dc13 pm13 an13 cd13 ct13), sl13⟩) (c13 : PySem.W.codeIn K cd13 "_law_cell" = true) (k13 : PySem.W.keepIn K (.ref f13) = true)
    (a14 : PySem.W.nsIn K mainGlobals "_law_numbers" = some (some (.ref f14))) (l14 : K.lookup f14 = some ⟨oc14, od14, .func (PySem.W.fnOf "_law_numbers" "_law_numbers" (defArgs s__law_numbers) (defBody s__law_numbers) (defScope s__law_numbers) .none kV14 dc14 pm14 an14 cd14 ct14), sl14⟩) (c14 : PySem.W.codeIn K cd14 "_law_numbers" = true) (k14 : PySem.W.keepIn K (.ref f14) = true)
    (a15 : PySem.W.nsIn K mainGlobals "_law_lowest" = some (some (.ref f15))) (l15 : K.lookup f15 = some ⟨oc15, od15, .func (PySem.W.fnOf "_law_lowest" "_law_lowest" (defArgs s__law_lowest) (defBody s__law_lowest) (defScope s__law_lowest) .none kV15 dc15 pm15 an15 cd15 ct15), sl15⟩) (c15 : PySem.W.codeIn K cd15 "_law_lowest" = true) (k15 : PySem.W.keepIn K (.ref f15) = true)
    (a16 : PySem.W.nsIn K mainGlobals "_law_edges" = some (some (.ref f16))) (l16 : K.lookup f16 = some ⟨oc16, od16, .func (PySem.W.fnOf "_law_edges" "_law_edges" (defArgs s__law_edges) (defBody s__law_edges) (defScope s__law_edges) .none kV16 dc16 pm16 an16 cd16 ct16), sl16⟩) (c16 : PySem.W.codeIn K cd16 "_law_edges" = true) (k16 : PySem.W.keepIn K (.ref f16) = true)
    (a17 : PySem.W.nsIn K mainGlobals "_law_part" = some (some (.ref f17))) (l17 : K.lookup f17 = some ⟨oc17, od17, .func (PySem.W.fnOf "_law_part" "_law_part" (defArgs s__law_part) (defBody s__law_part) (defScope s__law_part) .none kV17 dc17 pm17 an17 cd17 ct17), sl17⟩) (c17 : PySem.W.codeIn K cd17 "_law_part" = true) (k17 : PySem.W.keepIn K (.ref f17) = true)
    (a18 : PySem.W.nsIn K mainGlobals "_law_plus" = some (some (.ref f18))) (l18 : K.lookup f18 = some ⟨oc18, od18, .func (PySem.W.fnOf "_law_plus" "_law_plus" (defArgs s__law_plus) (defBody s__law_plus) (defScope s__law_plus) .none kV18 dc18 pm18 an18 cd18 ct18), sl18⟩) (c18 : PySem.W.codeIn K cd18 "_law_plus" = true) (k18 : PySem.W.keepIn K (.ref f18) = true)
    (a19 : PySem.W.nsIn K mainGlobals "_law_is_number" = some (some (.ref f19))) (l19 : K.lookup f19 = some ⟨oc19, od19, .func (PySem.W.fnOf "_law_is_number" "_law_is_number" (defArgs s__law_is_number) (defBody s__law_is_number) (defScope s__law_is_number) .none kV19 dc19 pm19 an19 cd19 ct19), sl19⟩) (c19 : PySem.W.codeIn K cd19 "_law_is_number" = true) (k19 : PySem.W.keepIn K (.ref f19) = true)
    (a20 : PySem.W.nsIn K mainGlobals "_law_is_point" = some (some (.ref f20))) (l20 : K.lookup f20 = some ⟨oc20, od20, .func (PySem.W.fnOf "_law_is_point" "_law_is_point" (defArgs s__law_is_point) (defBody s__law_is_point) (defScope s__law_is_point) .none kV20 dc20 pm20 an20 cd20 ct20), sl20⟩) (c20 : PySem.W.codeIn K cd20 "_law_is_point" = true) (k20 : PySem.W.keepIn K (.ref f20) = true)
    (a21 : PySem.W.nsIn K mainGlobals "_law_box_right" = some (some (.ref f21))) (l21 : K.lookup f21 = some ⟨oc21, od21, .func (PySem.W.fnOf "_law_box_right" "_law_box_right" (defArgs s__law_box_right) (defBody s__law_box_right) (defScope s__law_box_right) .none kV21 dc21 pm21 an21 cd21 ct21), sl21⟩) (c21 : PySem.W.codeIn K cd21 "_law_box_right" = true) (k21 : PySem.W.keepIn K (.ref f21) = true)
    (a22 : PySem.W.nsIn K mainGlobals "_law_mirrored" = some (some (.ref f22))) (l22 : K.lookup f22 = some ⟨oc22, od22, .func (PySem.W.fnOf "_law_mirrored" "_law_mirrored" (defArgs s__law_mirrored) (defBody s__law_mirrored) (defScope s__law_mirrored) .none kV22 dc22 pm22 an22 cd22 ct22), sl22⟩) (c22 : PySem.W.codeIn K cd22 "_law_mirrored" = true) (k22 : PySem.W.keepIn K (.ref f22) = true)
    (a23 : PySem.W.nsIn K mainGlobals "_law_folded" = some (some (.ref f23))) (l23 : K.lookup f23 = some ⟨oc23, od23, .func (PySem.W.fnOf "_law_folded" "_law_folded" (defArgs s__law_folded) (defBody s__law_folded) (defScope s__law_folded) .none kV23 dc23 pm23 an23 cd23 ct23), sl23⟩) (c23 : PySem.W.codeIn K cd23 "_law_folded" = true) (k23 : PySem.W.keepIn K (.ref f23) = true)
    (a24 : PySem.W.nsIn K mainGlobals "law" = some (some (.ref f24))) (l24 : K.lookup f24 = some ⟨oc24, od24, .func (PySem.W.fnOf "law" "law" (defArgs s_law) (defBody s_law) (defScope s_law) .none kV24 dc24 pm24 an24 cd24 ct24), sl24⟩) (c24 : PySem.W.codeIn K cd24 "law" = true) (k24 : PySem.W.keepIn K (.ref f24) = true)
    {C_NoHall : Addr}
    {fI_NoHall : Addr} {cdd_NoHall : ClassData} {odI_NoHall anI_NoHall : Option Addr} {slI_NoHall : Array (Option Value)} {ocI_NoHall kVI_NoHall dcI_NoHall pmI_NoHall cdI_NoHall ctI_NoHall : Value}
    (ya_NoHall : PySem.W.nsIn K mainGlobals "NoHall" = some (some (.ref C_NoHall)))
    (yd_NoHall : PySem.W.clsIn K C_NoHall = some cdd_NoHall) (yi_NoHall : PySem.W.nsIn K cdd_NoHall.ns "__init__" = some (some (.ref fI_NoHall))) (yl_NoHall : K.lookup fI_NoHall = some ⟨ocI_NoHall, odI_NoHall, .func (PySem.W.fnOf "__init__" "NoHall.__init__" (defArgs sI_NoHall) (defBody sI_NoHall) (defScope sI_NoHall) .none kVI_NoHall dcI_NoHall pmI_NoHall anI_NoHall cdI_NoHall ctI_NoHall), slI_NoHall⟩) (yc_NoHall : PySem.W.codeIn K cdI_NoHall "NoHall.__init__" = true) (yk_NoHall : PySem.W.keepIn K (.ref fI_NoHall) = true) (yp_NoHall : PySem.W.keepIn K (.ref C_NoHall) = true) (yf_NoHall : PySem.W.isFn K (.ref fI_NoHall) = true) (yn_NoHall_side : PySem.W.findIn K (.ref C_NoHall) "side" = some none)
    (ye_NoHall : exInit K C_NoHall fI_NoHall = true) (yx_NoHall : xclsB K C_NoHall = true) (yt_NoHall : xkitB K C_NoHall = true)
    {tk_GREATEST_SIZE : Tok} (yg_GREATEST_SIZE : PySem.W.nsIn K mainGlobals "GREATEST_SIZE" = some (some (.int 8 tk_GREATEST_SIZE)))
    {at_FACES : Addr} (yg_FACES : PySem.W.nsIn K mainGlobals "FACES" = some (some (.ref at_FACES))) (yb_FACES : tupB K at_FACES [V.str (Str.ofString "m"), V.str (Str.ofString "p")] = true)
    (z_abs : PySem.W.nsIn K mainGlobals "abs" = some none)
    (z_isinstance : PySem.W.nsIn K mainGlobals "isinstance" = some none)
    (z_int : PySem.W.nsIn K mainGlobals "int" = some none)
    (z_bool : PySem.W.nsIn K mainGlobals "bool" = some none)
    (z_enumerate : PySem.W.nsIn K mainGlobals "enumerate" = some none)
    (z_sorted : PySem.W.nsIn K mainGlobals "sorted" = some none)
    (z_tuple : PySem.W.nsIn K mainGlobals "tuple" = some none)
    (z_range : PySem.W.nsIn K mainGlobals "range" = some none)
    (z_len : PySem.W.nsIn K mainGlobals "len" = some none)
    (z_all : PySem.W.nsIn K mainGlobals "all" = some none)
    (z_list : PySem.W.nsIn K mainGlobals "list" = some none)
    (z_any : PySem.W.nsIn K mainGlobals "any" = some none)
    : ∃ fd : FuncData, (∀ (s : Shared) (v : Value), BindsTo s fd ⟨[v], []⟩ [("_law_script", v)]) ∧ ∀ base : Heap, K.In base → base.Ns mainGlobals mg → FnOk l.prog w K mg base (CX1 l.prog w) 7 fa fd ["_law_script"] (spX K F_law) := by
  have e := hfa.symm.trans (PySem.W.mg_of X G a24)
  cases e
  have F0 := fun_mk (st := s_common_divisor) l0 c0 k0
  have b0 := F0.binds (ps := ["one", "other"]) fun _ _ _ _ _ _ us hl => match us, hl with | [_, _], _ => rfl
  have F1 := fun_mk (st := s_amount) l1 c1 k1
  have b1 := F1.binds (ps := ["top", "bottom"]) fun _ _ _ _ _ _ us hl => match us, hl with | [_, _], _ => rfl
  have F2 := fun_mk (st := s_plus) l2 c2 k2
  have b2 := F2.binds (ps := ["one", "other"]) fun _ _ _ _ _ _ us hl => match us, hl with | [_, _], _ => rfl
  have F3 := fun_mk (st := s_minus) l3 c3 k3
  have b3 := F3.binds (ps := ["one", "other"]) fun _ _ _ _ _ _ us hl => match us, hl with | [_, _], _ => rfl
  have F4 := fun_mk (st := s_is_whole) l4 c4 k4
  have b4 := F4.binds (ps := ["value"]) fun _ _ _ _ _ _ us hl => match us, hl with | [_], _ => rfl
  have F5 := fun_mk (st := s_is_from_to) l5 c5 k5
  have b5 := F5.binds (ps := ["value", "least", "greatest"]) fun _ _ _ _ _ _ us hl => match us, hl with | [_, _, _], _ => rfl
  have F6 := fun_mk (st := s_is_edge) l6 c6 k6
  have b6 := F6.binds (ps := ["width", "height", "kind", "x", "y"]) fun _ _ _ _ _ _ us hl => match us, hl with | [_, _, _, _, _], _ => rfl
  have F7 := fun_mk (st := s_outward_face) l7 c7 k7
  have b7 := F7.binds (ps := ["width", "height", "kind", "x", "y"]) fun _ _ _ _ _ _ us hl => match us, hl with | [_, _, _, _, _], _ => rfl
  have F8 := fun_mk (st := s_is_side) l8 c8 k8
  have b8 := F8.binds (ps := ["width", "height", "side"]) fun _ _ _ _ _ _ us hl => match us, hl with | [_, _, _], _ => rfl
  have F9 := fun_mk (st := s_checked) l9 c9 k9
  have b9 := F9.binds (ps := ["hall"]) fun _ _ _ _ _ _ us hl => match us, hl with | [_], _ => rfl
  have F10 := fun_mk (st := s_box) l10 c10 k10
  have b10 := F10.binds (ps := ["width", "height"]) fun _ _ _ _ _ _ us hl => match us, hl with | [_, _], _ => rfl
  have F11 := fun_mk (st := s_folded_out) l11 c11 k11
  have b11 := F11.binds (ps := ["size", "place", "number"]) fun _ _ _ _ _ _ us hl => match us, hl with | [_, _, _], _ => rfl
  have F12 := fun_mk (st := s_image_at) l12 c12 k12
  have b12 := F12.binds (ps := ["width", "height", "point", "cell"]) fun _ _ _ _ _ _ us hl => match us, hl with | [_, _, _, _], _ => rfl
  have F13 := fun_mk (st := s__law_cell) l13 c13 k13
  have b13 := F13.binds (ps := ["_law_script", "_law_k"]) fun _ _ _ _ _ _ us hl => match us, hl with | [_, _], _ => rfl
  have F14 := fun_mk (st := s__law_numbers) l14 c14 k14
  have b14 := F14.binds (ps := ["_law_cell_here", "_law_many"]) fun _ _ _ _ _ _ us hl => match us, hl with | [_, _], _ => rfl
  have F15 := fun_mk (st := s__law_lowest) l15 c15 k15
  have b15 := F15.binds (ps := ["_law_top", "_law_bottom"]) fun _ _ _ _ _ _ us hl => match us, hl with | [_, _], _ => rfl
  have F16 := fun_mk (st := s__law_edges) l16 c16 k16
  have b16 := F16.binds (ps := ["_law_width", "_law_height"]) fun _ _ _ _ _ _ us hl => match us, hl with | [_, _], _ => rfl
  have F17 := fun_mk (st := s__law_part) l17 c17 k17
  have b17 := F17.binds (ps := ["_law_size", "_law_one", "_law_other", "_law_most"]) fun _ _ _ _ _ _ us hl => match us, hl with | [_, _, _, _], _ => rfl
  have F18 := fun_mk (st := s__law_plus) l18 c18 k18
  have b18 := F18.binds (ps := ["_law_one", "_law_other"]) fun _ _ _ _ _ _ us hl => match us, hl with | [_, _], _ => rfl
  have F19 := fun_mk (st := s__law_is_number) l19 c19 k19
  have b19 := F19.binds (ps := ["_law_found"]) fun _ _ _ _ _ _ us hl => match us, hl with | [_], _ => rfl
  have F20 := fun_mk (st := s__law_is_point) l20 c20 k20
  have b20 := F20.binds (ps := ["_law_found"]) fun _ _ _ _ _ _ us hl => match us, hl with | [_], _ => rfl
  have F21 := fun_mk (st := s__law_box_right) l21 c21 k21
  have b21 := F21.binds (ps := ["_law_found", "_law_width", "_law_height"]) fun _ _ _ _ _ _ us hl => match us, hl with | [_, _, _], _ => rfl
  have F22 := fun_mk (st := s__law_mirrored) l22 c22 k22
  have b22 := F22.binds (ps := ["_law_point_here", "_law_k", "_law_line"]) fun _ _ _ _ _ _ us hl => match us, hl with | [_, _, _], _ => rfl
  have F23 := fun_mk (st := s__law_folded) l23 c23 k23
  have b23 := F23.binds (ps := ["_law_width", "_law_height", "_law_point_here", "_law_i", "_law_j"]) fun _ _ _ _ _ _ us hl => match us, hl with | [_, _, _, _, _], _ => rfl
  have F24 := fun_mk (st := s_law) l24 c24 k24
  refine ⟨PySem.W.fnOf "law" "law" (defArgs s_law) (defBody s_law) (defScope s_law) .none kV24 dc24 pm24 an24 cd24 ct24, fun s v => .of_eq rfl, fun base _ _ => ?_⟩
  have FI_NoHall := fun_mk (st := sI_NoHall) yl_NoHall yc_NoHall yk_NoHall
  have bI_NoHall := FI_NoHall.binds (ps := ["self", "side"]) fun _ _ _ _ _ _ us hl => match us, hl with | [_, _], _ => rfl
  have gI_NoHall := fn_init (P := l.prog) (w := w) (mg := mg) (base := base) FI_NoHall scI_NoHall rfl (xcls_of yx_NoHall) yn_NoHall_side (.inl rfl) (.inl rfl)
  have g0 := ok_common_divisor (P := l.prog) (w := w) (mg := mg) (base := base) F0 (PySem.W.mg_none_of X G z_abs)
  have g1 := ok_amount (P := l.prog) (w := w) (mg := mg) (base := base) F1 g0 b0 k0 (PySem.W.mg_of X G a0)
  have g2 := ok_plus (P := l.prog) (w := w) (mg := mg) (base := base) F2 g1 b1 k1 (PySem.W.mg_of X G a1)
  have g3 := ok_minus (P := l.prog) (w := w) (mg := mg) (base := base) F3 g1 b1 k1 (PySem.W.mg_of X G a1)
  have g4 := ok_is_whole (P := l.prog) (w := w) (mg := mg) (base := base) F4 (PySem.W.mg_none_of X G z_isinstance) (PySem.W.mg_none_of X G z_int) (PySem.W.mg_none_of X G z_bool)
  have g5 := ok_is_from_to (P := l.prog) (w := w) (mg := mg) (base := base) F5 g4 b4 k4 (PySem.W.mg_of X G a4)
  have g6 := ok_is_edge (P := l.prog) (w := w) (mg := mg) (base := base) F6 g5 b5 k5 (PySem.W.mg_of X G a5)
  have g7 := ok_outward_face (P := l.prog) (w := w) (mg := mg) (base := base) F7 
  have g8 := ok_is_side (P := l.prog) (w := w) (mg := mg) (base := base) F8 g6 b6 k6 (PySem.W.mg_of X G a6) g7 b7 k7 (PySem.W.mg_of X G a7) (PySem.W.mg_of X G yg_FACES) yb_FACES
  have g9 := ok_checked (P := l.prog) (w := w) (mg := mg) (base := base) F9 g5 b5 k5 (PySem.W.mg_of X G a5) g8 b8 k8 (PySem.W.mg_of X G a8) (PySem.W.mg_of X G yg_GREATEST_SIZE) ya_NoHall (PySem.W.mg_of X G ya_NoHall) ye_NoHall yp_NoHall yf_NoHall gI_NoHall bI_NoHall (PySem.W.mg_none_of X G z_enumerate) (PySem.W.mg_none_of X G z_sorted) (PySem.W.mg_none_of X G z_tuple)
  have g10 := ok_box (P := l.prog) (w := w) (mg := mg) (base := base) F10 g9 b9 k9 (PySem.W.mg_of X G a9) (PySem.W.mg_none_of X G z_range) (PySem.W.mg_none_of X G z_tuple)
  have g11 := ok_folded_out (P := l.prog) (w := w) (mg := mg) (base := base) F11 g3 b3 k3 (PySem.W.mg_of X G a3) g2 b2 k2 (PySem.W.mg_of X G a2)
  have g12 := ok_image_at (P := l.prog) (w := w) (mg := mg) (base := base) F12 g11 b11 k11 (PySem.W.mg_of X G a11)
  have g13 := ok__law_cell (P := l.prog) (w := w) (mg := mg) (base := base) F13 
  have g14 := ok__law_numbers (P := l.prog) (w := w) (mg := mg) (base := base) F14 (PySem.W.mg_none_of X G z_abs) (PySem.W.mg_none_of X G z_range) (PySem.W.mg_none_of X G z_int)
  have g15 := ok__law_lowest (P := l.prog) (w := w) (mg := mg) (base := base) F15 (PySem.W.mg_none_of X G z_abs)
  have g16 := ok__law_edges (P := l.prog) (w := w) (mg := mg) (base := base) F16 (PySem.W.mg_none_of X G z_range)
  have g17 := ok__law_part (P := l.prog) (w := w) (mg := mg) (base := base) F17 g15 b15 k15 (PySem.W.mg_of X G a15)
  have g18 := ok__law_plus (P := l.prog) (w := w) (mg := mg) (base := base) F18 g15 b15 k15 (PySem.W.mg_of X G a15)
  have g19 := ok__law_is_number (P := l.prog) (w := w) (mg := mg) (base := base) F19 g15 b15 k15 (PySem.W.mg_of X G a15) (PySem.W.mg_none_of X G z_isinstance) (PySem.W.mg_none_of X G z_tuple) (PySem.W.mg_none_of X G z_len) (PySem.W.mg_none_of X G z_int) (PySem.W.mg_none_of X G z_bool)
  have g20 := ok__law_is_point (P := l.prog) (w := w) (mg := mg) (base := base) F20 g19 b19 k19 (PySem.W.mg_of X G a19) (PySem.W.mg_none_of X G z_isinstance) (PySem.W.mg_none_of X G z_tuple) (PySem.W.mg_none_of X G z_len) (PySem.W.mg_none_of X G z_all)
  have g21 := ok__law_box_right (P := l.prog) (w := w) (mg := mg) (base := base) F21 g16 b16 k16 (PySem.W.mg_of X G a16) (PySem.W.mg_none_of X G z_isinstance) (PySem.W.mg_none_of X G z_tuple) (PySem.W.mg_none_of X G z_sorted) (PySem.W.mg_none_of X G z_list) (PySem.W.mg_none_of X G z_bool) (PySem.W.mg_none_of X G z_any)
  have g22 := ok__law_mirrored (P := l.prog) (w := w) (mg := mg) (base := base) F22 g18 b18 k18 (PySem.W.mg_of X G a18) (PySem.W.mg_none_of X G z_list) (PySem.W.mg_none_of X G z_tuple)
  have g23 := ok__law_folded (P := l.prog) (w := w) (mg := mg) (base := base) F23 g22 b22 k22 (PySem.W.mg_of X G a22) (PySem.W.mg_none_of X G z_abs) (PySem.W.mg_none_of X G z_range)
  exact ok_law (P := l.prog) (w := w) (mg := mg) (base := base) F24 g14 b14 k14 (PySem.W.mg_of X G a14) g13 b13 k13 (PySem.W.mg_of X G a13) g21 b21 k21 (PySem.W.mg_of X G a21) g10 b10 k10 (PySem.W.mg_of X G a10) g17 b17 k17 (PySem.W.mg_of X G a17) g12 b12 k12 (PySem.W.mg_of X G a12) g20 b20 k20 (PySem.W.mg_of X G a20) g23 b23 k23 (PySem.W.mg_of X G a23) g22 b22 k22 (PySem.W.mg_of X G a22)
theorem reps_ints {K : PySem.W.Frag} {H : Hp} : ∀ ns : List Int, Reps K H (ns.map D.int) (ns.map V.int)
  | [] => Reps.nil
  | _ :: ns => Reps.cons (rep_int.mpr rfl) (reps_ints ns)
theorem walk {l : PySem.W.OpenLaw} {q : Program} {loose : List Str} {XP : (Str → Option Value) → Heap → Prop} {YP : World → Heap → Prop} {d : DefRec} {K : Params → PySem.W.Frag} (hn : l.most = some 63) (hdf : d.params.defaults = [])
    (hT : ∀ ns : List Int, ns.length ≤ 63 → F_law [.lst (ns.map D.int)] = .ok (.im (.bl true)))
    (hY : ∀ (w : World) (h : Heap), YP w h → (K w.params).In h)
    (F : ∀ (w : World) (mg : Str → Option Value) (fa : Addr) (h : Heap), (K w.params).In h → h.Ns mainGlobals mg → mg d.name = some (.ref fa) →
      ∃ fd : FuncData, (∀ (s : Shared) (u : Value), BindsTo s fd ⟨[u], []⟩ [("_law_script", u)]) ∧ ∀ base : Heap, (K w.params).In base → base.Ns mainGlobals mg → FnOk l.prog w (K w.params) mg base (CX1 l.prog w) 7 fa fd ["_law_script"] (spX (K w.params) F_law)) :
    PySem.W.WalkO q loose XP YP l.row.toRowW d [] (fun f vs => PySem.call f vs) :=
  L2.walk_of (n := 63) (k := 7) (x := "_law_script") (CX := fun w => (CX1 l.prog w)) (sp := fun w => spX (K w.params) F_law) hn (by decide) hdf ⟨rfl, by decide, by decide⟩ hY F
    (fun w H a ns hl _ hS => ⟨H, [.lst (ns.map D.int)], Same.refl _, Reps.cons (rep_lst.mpr ⟨a, ns.map V.int, rfl, hS, reps_ints ns⟩) Reps.nil, by rw [hT ns hl]; exact fun v Hf' H' _ r => (rep_bl (K := K w.params) (H := Hf')).mp r⟩) fun _ _ _ _ _ ⟨_, _, _, _, _, _, _, _, _, _, _, _, _, _, _, q⟩ => q
end Law

set_option maxRecDepth 100000
set_option maxHeartbeats 4000000
namespace Law
open PySem L2 DL

theorem ten_pow {k : Nat} (h : k ≤ 900) : 10 ^ k < 2 ^ 4000 := by
  have h1 : (10 : Nat) ^ k ≤ 16 ^ k := Nat.pow_le_pow_left (by decide) k
  have h2 : (16 : Nat) ^ k = 2 ^ (4 * k) := by rw [show (16 : Nat) = 2 ^ 4 from rfl, ← Nat.pow_mul]
  have h3 : (2 : Nat) ^ (4 * k) < 2 ^ 4000 := Nat.pow_lt_pow_right (by decide) (by omega)
  omega
theorem sm_of {x : Int} {k : Nat} (h : x.natAbs ≤ 10 ^ k) (hk : k ≤ 900) : sm x = true := sm_iff.mpr (Nat.lt_of_le_of_lt h (ten_pow hk))
theorem gFdiv_ok {i j : Int} (hj : 0 < j) (hs : sm j = true) : gFdiv (.int i) (.int j) = .ok (.int (i / j)) := by
  show (if (j != 0 && sm j) = true then M.ok (D.int (i.fdiv j)) else _) = _
  have : (j != 0) = true := by simp; omega
  rw [this, hs, Int.fdiv_eq_ediv_of_nonneg i (by omega)]; rfl
theorem gMod_ok {i j : Int} (hj : 0 < j) : gMod (.int i) (.int j) = .ok (.int (i % j)) := by
  show (if (j != 0) = true then M.ok (D.int (i.fmod j)) else _) = _
  have : (j != 0) = true := by simp; omega
  rw [this, Int.fmod_eq_emod_of_nonneg i (by omega)]; rfl


theorem gcd_step {g l : Int} (hg : 0 ≤ g) (hl : 0 < l) : Int.gcd l (g % l) = Int.gcd g l := by
  obtain ⟨g', rfl⟩ := Int.eq_ofNat_of_zero_le hg
  obtain ⟨l', rfl⟩ := Int.eq_ofNat_of_zero_le (Int.le_of_lt hl)
  rw [← Int.natCast_emod]
  simp only [Int.gcd, Int.natAbs_natCast]
  rw [Nat.gcd_comm l', ← Nat.gcd_rec, Nat.gcd_comm]
theorem gcd_zero' {g : Int} (hg : 0 ≤ g) : ((Int.gcd g 0 : Nat) : Int) = g := by
  rw [Int.gcd_zero_right]; omega

theorem loop_cd (x y : Option S) : ∀ (n : Nat) (g l : Int) (r : Option S), 0 ≤ g → 0 ≤ l → l.toNat < n →
    ∃ r', whileD (tB (eOp gNe (eVar 3) (eC (.int 0)))) (sSeq (sSet 4 (eOp gMod (eVar 2) (eVar 3))) (sSeq (sSet 2 (eVar 3)) (sSet 3 (eVar 4)))) n [x, y, some (.im (.int g)), some (.im (.int l)), r] =
      .ok (.nx [x, y, some (.im (.int (Int.gcd g l : Nat))), some (.im (.int 0)), r'])
  | 0, _, _, _, _, _, h => by omega
  | n + 1, g, l, r, hg, hl, h => by
    by_cases hz : l = 0
    · subst hz
      refine ⟨r, ?_⟩
      simp [whileD, DL.tB, eOp, eVar, eC, gNe, D.dep, D.eq, asB, gcd_zero' hg]
      omega
    · have hp : 0 < l := by omega
      have hm0 : 0 ≤ g % l := Int.emod_nonneg g (by omega)
      have hm1 : g % l < l := Int.emod_lt_of_pos g hp
      obtain ⟨r', e⟩ := loop_cd x y n l (g % l) (some (.im (.int (g % l)))) hl hm0 (by omega)
      refine ⟨r', ?_⟩
      rw [gcd_step hg hp] at e
      rw [← e]
      simp [whileD, DL.tB, eOp, eVar, eC, gNe, D.dep, D.eq, asB, sSeq, sSet, gMod_ok hp, hz]
theorem f_cd (a b : Int) : F_common_divisor [.int a, .int b] = .ok (.im (.int (Int.gcd a b : Nat))) := by
  have ha : (if a < 0 then -a else a) = (a.natAbs : Int) := by split <;> omega
  have hb : (if b < 0 then -b else b) = (b.natAbs : Int) := by split <;> omega
  obtain ⟨r', e⟩ := loop_cd (some (.im (.int a))) (some (.im (.int b))) (b.natAbs + 1) a.natAbs b.natAbs none (by omega) (by omega) (by omega)
  have e2 := sWhile_eq (c := tB (eOp gNe (eVar 3) (eC (.int 0)))) (f := sSeq (sSet 4 (eOp gMod (eVar 2) (eVar 3))) (sSeq (sSet 2 (eVar 3)) (sSet 3 (eVar 4)))) (n := b.natAbs + 1) (sd := [some (.im (.int a)), some (.im (.int b)), some (.im (.int a.natAbs)), some (.im (.int b.natAbs)), none]) (by rw [e]; simp)
  rw [e] at e2
  simp [F_common_divisor, fnD, fin', sSeq, sSet, sRet, eCB, bAbs, aCons, aNil, eVar, ha, hb]
  simp [sSeq, sSet] at e2
  rw [e2]
  simp [Int.gcd]

structure Low (t b p q : Int) : Prop where
  pos : 0 < q
  cop : Int.gcd p q = 1
  eq : p * b = t * q
  pl : p.natAbs ≤ t.natAbs
  ql : q.natAbs ≤ b.natAbs
theorem gcd_pos {t b : Int} (hb : 0 < b) : (0 : Int) < (Int.gcd t b : Nat) := by
  have : 0 < Int.gcd t b := Nat.pos_of_ne_zero fun z => by
    have := (Int.gcd_eq_zero_iff.mp z).2
    omega
  omega
theorem gcd_le {t b : Int} (hb : 0 < b) : ((Int.gcd t b : Nat) : Int).natAbs ≤ b.natAbs := by
  have : ((Int.gcd t b : Nat) : Int) ∣ b := Int.gcd_dvd_right t b
  have := Int.le_of_dvd hb this
  omega
theorem low_of {t b : Int} (hb : 0 < b) : Low t b (t / (Int.gcd t b : Nat)) (b / (Int.gcd t b : Nat)) := by
  have hg := gcd_pos (t := t) hb
  obtain ⟨p, hp⟩ : ((Int.gcd t b : Nat) : Int) ∣ t := Int.gcd_dvd_left t b
  obtain ⟨q, hq⟩ : ((Int.gcd t b : Nat) : Int) ∣ b := Int.gcd_dvd_right t b
  have ep : t / (Int.gcd t b : Nat) = p := by
    conv => lhs; lhs; rw [hp]
    exact Int.mul_ediv_cancel_left p (by omega)
  have eq' : b / (Int.gcd t b : Nat) = q := by
    conv => lhs; lhs; rw [hq]
    exact Int.mul_ediv_cancel_left q (by omega)
  rw [ep, eq']
  have hgN : 0 < Int.gcd t b := by omega
  have hq0 : 0 < q := by
    refine Int.lt_of_mul_lt_mul_left (a := ((Int.gcd t b : Nat) : Int)) ?_ (by omega)
    rw [← hq, Int.mul_zero]; exact hb
  have eg : Int.gcd t b = Int.gcd t b * Int.gcd p q := by
    have e1 := Int.gcd_mul_left ((Int.gcd t b : Nat) : Int) p q
    rw [← hp, ← hq] at e1
    simpa using e1
  refine ⟨hq0, ?_, ?_, ?_, ?_⟩
  · refine Nat.eq_of_mul_eq_mul_left hgN ?_
    rw [Nat.mul_one]; exact eg.symm
  · generalize ((Int.gcd t b : Nat) : Int) = G at hp hq
    rw [hp, hq, ← Int.mul_assoc, Int.mul_comm p G]
  · have : t.natAbs = Int.gcd t b * p.natAbs := by
      conv => lhs; rw [hp]
      rw [Int.natAbs_mul, Int.natAbs_natCast]
    rw [this]; exact Nat.le_mul_of_pos_left _ hgN
  · have : b.natAbs = Int.gcd t b * q.natAbs := by
      conv => lhs; rw [hq]
      rw [Int.natAbs_mul, Int.natAbs_natCast]
    rw [this]; exact Nat.le_mul_of_pos_left _ hgN

/-! ### steps -/
theorem mapD_ok {gt : D → DSt → M DSt} {fe : DSt → M D} {sd0 : DSt} (φ : D → D) : ∀ {ds : List D}, (∀ d ∈ ds, ∃ sd1, gt d sd0 = .ok sd1 ∧ fe sd1 = .ok (φ d)) → mapD gt fe sd0 ds = .ok (ds.map φ)
  | [], _ => rfl
  | d :: ds, h => by
    obtain ⟨sd1, h1, h2⟩ := h d List.mem_cons_self
    simp [mapD, h1, h2, mapD_ok φ fun d hd => h d (List.mem_cons_of_mem _ hd)]
theorem range0 (n : Nat) : rangeD 0 n = (List.range n).map fun (k : Nat) => D.int (k : Int) := by
  unfold rangeD; simp
theorem iR1 {fs : DSt → M (List D)} {sd : DSt} {n : Nat} (h : fs sd = .ok [.int (n : Int)]) (hn : n ≤ 1000) : iRange1 fs sd = .ok ((List.range n).map fun (k : Nat) => D.int (k : Int)) := by
  simp [iRange1, h, range0]
  omega
theorem few_of {ds : List D} (h : ds.length ≤ 1000000) : few ds = true := decide_eq_true h
theorem fn1 (m : Nat) (f : DSt → M O) (a0 : D) : fnD 1 m f [a0] = fin' (f ([some (S.im a0)] ++ List.replicate m none)) := rfl
theorem fn2 (m : Nat) (f : DSt → M O) (a0 a1 : D) : fnD 2 m f [a0, a1] = fin' (f ([some (S.im a0), some (S.im a1)] ++ List.replicate m none)) := rfl
theorem fn3 (m : Nat) (f : DSt → M O) (a0 a1 a2 : D) : fnD 3 m f [a0, a1, a2] = fin' (f ([some (S.im a0), some (S.im a1), some (S.im a2)] ++ List.replicate m none)) := rfl
theorem fn4 (m : Nat) (f : DSt → M O) (a0 a1 a2 a3 : D) : fnD 4 m f [a0, a1, a2, a3] = fin' (f ([some (S.im a0), some (S.im a1), some (S.im a2), some (S.im a3)] ++ List.replicate m none)) := rfl
theorem sSeq_nx {f g : DSt → M O} {sd sd' : DSt} (h : f sd = .ok (.nx sd')) : sSeq f g sd = g sd' := by unfold sSeq; rw [h]; rfl
theorem sFor_ok {fi : DSt → M (List D)} {g : D → DSt → M DSt} {f : DSt → M O} {sd : DSt} {ds : List D} (h : fi sd = .ok ds) : sFor fi g f sd = loopD g f ds sd := by unfold sFor; rw [h]; rfl
theorem go {f g : DSt → M O} {sd sd' : DSt} {r : M O} (h : f sd = .ok (.nx sd')) (k : g sd' = r) : sSeq f g sd = r := (sSeq_nx h).trans k
theorem fin_of {r : M O} {s : S} (h : r = .ok (.rt s)) : fin' r = .ok s := by rw [h]; rfl
theorem own_nil (i : Nat) (sd : DSt) : sOwn i (fLst aNil) sd = .ok (.nx (sd.set i (some (.ow [])))) := by
  unfold sOwn fLst aNil
  rw [M.bind_ok, few_of (Nat.zero_le _), if_pos rfl, M.bind_ok]
theorem p4000 {n : Nat} (h : n ≤ 10 ^ 30) : n < 2 ^ 4000 := by
  have h1 : (10 : Nat) ^ 30 ≤ 16 ^ 30 := Nat.pow_le_pow_left (by decide) 30
  have h2 : (16 : Nat) ^ 30 = 2 ^ 120 := by rw [show (16 : Nat) = 2 ^ 4 from rfl, ← Nat.pow_mul]
  have h3 : (2 : Nat) ^ 120 < 2 ^ 4000 := Nat.pow_lt_pow_right (by decide) (by decide)
  omega
theorem sm30 {x : Int} (h : -1000000000000000000000000000000 ≤ x) (h' : x ≤ 1000000000000000000000000000000) : sm x = true := sm_iff.mpr (p4000 (by have : (10 : Nat) ^ 30 = 1000000000000000000000000000000 := rfl; omega))
theorem gT {i j : Int} (hi : sm i = true) (hj : sm j = true) : gTimes (.int i) (.int j) = .ok (.int (i * j)) := by
  show (if (sm i && sm j) = true then _ else _) = _
  rw [hi, hj]; rfl
theorem gFd {i j : Int} (hj : 0 < j) (hs : sm j = true) : gFdiv (.int i) (.int j) = .ok (.int (i / j)) := by
  show (if (j != 0 && sm j) = true then M.ok (D.int (i.fdiv j)) else _) = _
  have : (j != 0) = true := by simp; omega
  rw [this, hs, Int.fdiv_eq_ediv_of_nonneg i (by omega)]; rfl
theorem gM {i j : Int} (hj : 0 < j) : gMod (.int i) (.int j) = .ok (.int (i % j)) := by
  show (if (j != 0) = true then M.ok (D.int (i.fmod j)) else _) = _
  have : (j != 0) = true := by simp; omega
  rw [this, Int.fmod_eq_emod_of_nonneg i (by omega)]; rfl
theorem set_ok {i : Nat} {f : DSt → M D} {sd : DSt} {d : D} (h : f sd = .ok d) : sSet i f sd = .ok (.nx (sd.set i (some (.im d)))) := by unfold sSet; rw [h]; rfl
theorem call_ok {F : List D → M S} {fs : DSt → M (List D)} {sd : DSt} {ds : List D} {s : S} {d : D} (h1 : fs sd = .ok ds) (h2 : F ds = .ok s) (h3 : s.toD = .ok d) : eCall F fs sd = .ok d := by
  unfold eCall; rw [h1, M.bind_ok, h2]; exact h3
theorem a1 {fa : DSt → M D} {sd : DSt} {d : D} (h : fa sd = .ok d) : aCons fa aNil sd = .ok [d] := by unfold aCons aNil; rw [h]; rfl
theorem aC {fa : DSt → M D} {fr : DSt → M (List D)} {sd : DSt} {d : D} {ds : List D} (h : fa sd = .ok d) (h2 : fr sd = .ok ds) : aCons fa fr sd = .ok (d :: ds) := by unfold aCons; rw [h, M.bind_ok, h2]; rfl
theorem ret_ok {f : DSt → M D} {sd : DSt} {d : D} (h : f sd = .ok d) : sRet f sd = .ok (.rt (.im d)) := by unfold sRet; rw [h]; rfl
theorem cb_ok {g : List D → M D} {fs : DSt → M (List D)} {sd : DSt} {ds : List D} {r : M D} (h1 : fs sd = .ok ds) (h2 : g ds = r) : eCB g fs sd = r := by unfold eCB; rw [h1]; exact h2
theorem loop_nx {g : D → DSt → M DSt} {f : DSt → M O} {d : D} {r : List D} {sd sd1 sd2 : DSt} (h1 : g d sd = .ok sd1) (h2 : f sd1 = .ok (.nx sd2)) : loopD g f (d :: r) sd = loopD g f r sd2 := by
  simp only [loopD, h1, h2, M.bind_ok]
theorem fn5 (m : Nat) (f : DSt → M O) (a0 a1 a2 a3 a4 : D) : fnD 5 m f [a0, a1, a2, a3, a4] = fin' (f ([some (S.im a0), some (S.im a1), some (S.im a2), some (S.im a3), some (S.im a4)] ++ List.replicate m none)) := rfl
/-! ### the law's own lowest terms -/
theorem loop_lw (x y : Option S) : ∀ (n : Nat) (lo hi : Int), 0 ≤ hi → 0 ≤ lo → lo.toNat < n →
    whileD (DL.tB (eOp gGt (eVar 3) (eC (.int 0)))) (sPar 2 3 (aCons (eVar 3) (aCons (eOp gMod (eVar 2) (eVar 3)) aNil))) n [x, y, some (.im (.int hi)), some (.im (.int lo))] =
      .ok (.nx [x, y, some (.im (.int (Int.gcd hi lo : Nat))), some (.im (.int 0))])
  | 0, _, _, _, _, h => by omega
  | n + 1, lo, hi, hg, hl, h => by
    by_cases hz : lo = 0
    · subst hz
      simp [whileD, DL.tB, eOp, eVar, eC, gGt, gI0, asB]
      omega
    · have hp : 0 < lo := by omega
      have hm0 : 0 ≤ hi % lo := Int.emod_nonneg hi (by omega)
      have hm1 : hi % lo < lo := Int.emod_lt_of_pos hi hp
      have e := loop_lw x y n (hi % lo) lo hl hm0 (by omega)
      rw [gcd_step hg hp] at e
      rw [← e]
      simp [whileD, DL.tB, eOp, eVar, eC, gGt, gI0, asB, sPar, aCons, aNil, gMod_ok hp, hp]
theorem f_lowest {t b : Int} {k : Nat} (hb : 0 < b) (hs : b.natAbs ≤ 10 ^ k) (hk : k ≤ 900) : F__law_lowest [.int t, .int b] = .ok (.im (.tup [.int (t / (Int.gcd t b : Nat)), .int (b / (Int.gcd t b : Nat))])) := by
  have ha : (if t < 0 then -t else t) = (t.natAbs : Int) := by split <;> omega
  have h1 := gcd_pos (t := t) hb
  have h2 : sm ((Int.gcd t b : Nat) : Int) = true := sm_of (Nat.le_trans (gcd_le hb) hs) hk
  have e := loop_lw (some (.im (.int t))) (some (.im (.int b))) (b.toNat + 1) b t.natAbs (by omega) (by omega) (by omega)
  have e2 := sWhile_eq (c := DL.tB (eOp gGt (eVar 3) (eC (.int 0)))) (f := sPar 2 3 (aCons (eVar 3) (aCons (eOp gMod (eVar 2) (eVar 3)) aNil))) (n := b.toNat + 1) (sd := [some (.im (.int t)), some (.im (.int b)), some (.im (.int t.natAbs)), some (.im (.int b))]) (by rw [e]; simp)
  rw [e] at e2
  have e3 : Int.gcd (t.natAbs : Int) b = Int.gcd t b := by simp [Int.gcd]
  rw [e3] at e2
  show fnD 2 2 _ [D.int t, D.int b] = _
  rw [fn2]
  refine fin_of (go (sd' := [some (.im (.int t)), some (.im (.int b)), some (.im (.int t.natAbs)), some (.im (.int b))]) ?_ (go e2 (ret_ok ?_)))
  · simp [sPar, eCB, bAbs, ha, aCons, aNil, eVar]
  · simp [eTup, aCons, aNil, eOp, eVar, gFdiv_ok h1 h2, few]
theorem div1 {t b : Int} (h : Int.gcd t b = 1) : t / (Int.gcd t b : Nat) = t ∧ b / (Int.gcd t b : Nat) = b := by
  rw [h]; simp
theorem low1 {t b : Int} {k : Nat} (hb : 0 < b) (hs : b.natAbs ≤ 10 ^ k) (hk : k ≤ 900) (hc : Int.gcd t b = 1) : F__law_lowest [.int t, .int b] = .ok (.im (.tup [.int t, .int b])) := by
  rw [f_lowest hb hs hk, (div1 hc).1, (div1 hc).2]
theorem am1 {t b : Int} {k : Nat} (hb : 0 < b) (hs : b.natAbs ≤ 10 ^ k) (hk : k ≤ 900) (hc : Int.gcd t b = 1) : F_amount [.int t, .int b] = .ok (.im (.tup [.int t, .int b])) := by
  have g1 : ∀ i, gFdiv (.int i) (.int 1) = .ok (.int i) := fun i => by
    rw [gFd (by decide) (sm30 (by decide) (by decide))]; simp
  show fnD 2 1 _ [D.int t, D.int b] = _
  rw [fn2]
  refine fin_of (go (set_ok (call_ok (aC rfl (a1 rfl)) (f_cd t b) rfl)) (ret_ok ?_))
  rw [hc]
  simp [eTup, aCons, aNil, eOp, eVar, g1, few]
theorem atI0 {α : Type} (x : α) (r : List α) : atI (x :: r) 0 = some x := by
  have := atI_nat (xs := x :: r) (j := 0) (v := x) rfl
  exact this
theorem atI1 {α : Type} (x y : α) (r : List α) : atI (x :: y :: r) 1 = some y := by
  have := atI_nat (xs := x :: y :: r) (j := 1) (v := y) rfl
  exact this

def cz (ns : List Int) (k : Nat) : Int := (ns[k]?).getD 0
theorem f_cell (ns : List Int) (k : Nat) : F__law_cell [.lst (ns.map D.int), .int (k : Int)] = .ok (.im (.int (cz ns k))) := by
  have e1 : (k : Int) + 1 = ((k + 1 : Nat) : Int) := by omega
  have hcut : cutD (ns.map D.int) (some (k : Int)) (some ((k : Int) + 1)) ++ [D.int 0] = D.int (cz ns k) :: (if k < ns.length then [D.int 0] else []) := by
    unfold cutD
    rw [e1, HT.sIx_nat, HT.sIx_nat, List.length_map]
    by_cases hk : k < ns.length
    · rw [Nat.min_eq_left (by omega), Nat.min_eq_left (by omega), if_pos hk, ← List.map_drop, ← List.map_take, List.drop_eq_getElem_cons hk]
      have : k + 1 - k = 1 := by omega
      rw [this, List.take_succ_cons, List.take_zero]
      simp [cz, hk]
    · rw [Nat.min_eq_right (by omega), Nat.min_eq_right (by omega), if_neg hk, Nat.sub_self, List.take_zero]
      have : cz ns k = 0 := by unfold cz; rw [List.getElem?_eq_none (by omega)]; rfl
      rw [this]; rfl
  have hf : few (D.int (cz ns k) :: (if k < ns.length then [D.int 0] else [])) = true := by
    unfold few; split <;> simp
  simp [F__law_cell, fnD, fin', sRet, eVar, eC, eOp, eSl, oSome, gPlus, gSl, eLst, aCons, aNil, hcut, hf, show few [D.int 0] = true from rfl, gIx, atI0]

end Law

set_option maxRecDepth 100000
set_option maxHeartbeats 4000000
namespace Law
open PySem L2 DL

/-! ### a number of a point of the box; its images -/
/-- p / q in lowest terms, between 0 and s -/
structure Co (s p q : Int) : Prop where
  pos : 0 < q
  top : q ≤ 1000
  cop : Int.gcd p q = 1
  lo : 0 < p
  hi : p < s * q
def nD (p q : Int) : D := .tup [.int p, .int q]
def img (s p q i : Int) : Int := if i % 2 = 1 then (i + 1) * s * q - p else i * s * q + p
theorem gcd_sub {p q m : Int} (h : Int.gcd p q = 1) : Int.gcd (m * q - p) q = 1 := by
  have e : m * q - p = -p + q * m := by rw [Int.mul_comm]; omega
  rw [e, Int.gcd_add_mul_left_left, Int.neg_gcd]
  exact h
theorem gcd_add {p q m : Int} (h : Int.gcd p q = 1) : Int.gcd (m * q + p) q = 1 := by
  have e : m * q + p = p + q * m := by rw [Int.mul_comm]; omega
  rw [e, Int.gcd_add_mul_left_left]
  exact h
theorem img_cop {s p q : Int} (h : Int.gcd p q = 1) (i : Int) : Int.gcd (img s p q i) q = 1 := by
  unfold img
  split
  · exact gcd_sub h
  · exact gcd_add h
theorem img_zero (s p q : Int) : img s p q 0 = p := by simp [img]
theorem img_succ (s p q i : Int) : img s p q (i + 1) = 2 * ((i + 1) * s) * q - img s p q i := by
  unfold img
  rcases Int.emod_two_eq i with h | h
  · rw [if_pos (by omega), if_neg (by omega)]
    have e1 : (i + 1 + 1) * s * q = i * s * q + 2 * (s * q) := by
      rw [show i + 1 + 1 = i + 2 by omega, Int.add_mul, Int.add_mul, Int.mul_assoc 2]
    have e2 : 2 * ((i + 1) * s) * q = 2 * (i * s * q) + 2 * (s * q) := by
      rw [Int.add_mul, Int.one_mul, Int.mul_add, Int.add_mul, Int.mul_assoc, Int.mul_assoc 2 s q]
    omega
  · rw [if_neg (by omega), if_pos (by omega)]
    have e2 : 2 * ((i + 1) * s) * q = (i + 1) * s * q + (i + 1) * s * q := by
      rw [Int.mul_assoc, Int.two_mul]
    omega
theorem img_pred (s p q i : Int) : img s p q (i - 1) = 2 * (i * s) * q - img s p q i := by
  have e := img_succ s p q (i - 1)
  rw [show i - 1 + 1 = i by omega] at e
  omega
theorem img_in {s p q : Int} (h : Co s p q) (hs : 0 < s) (i : Int) : i * s * q < img s p q i ∧ img s p q i < (i + 1) * s * q := by
  have e : (i + 1) * s * q = i * s * q + s * q := by rw [Int.add_mul, Int.one_mul, Int.add_mul]
  have h1 := h.lo
  have h2 := h.hi
  unfold img
  split <;> omega
theorem img_bd {s p q : Int} (h : Co s p q) (hs : 0 < s) (hs' : s ≤ 8) {i : Int} (hi : -30 ≤ i) (hi' : i ≤ 30) : -1000000 ≤ img s p q i ∧ img s p q i ≤ 1000000 := by
  obtain ⟨h1, h2⟩ := img_in h hs i
  have hq := h.pos
  have hq' := h.top
  have hsq : 0 ≤ s * q ∧ s * q ≤ 8 * 1000 := ⟨Int.mul_nonneg (by omega) (by omega), Int.mul_le_mul hs' hq' (by omega) (by omega)⟩
  have e : (i + 1) * s * q = i * s * q + s * q := by rw [Int.add_mul, Int.one_mul, Int.add_mul]
  have b1 : i * s * q ≤ 30 * 8000 := by
    rw [Int.mul_assoc]
    calc i * (s * q) ≤ 30 * (s * q) := Int.mul_le_mul_of_nonneg_right hi' hsq.1
      _ ≤ 30 * 8000 := Int.mul_le_mul_of_nonneg_left (by omega) (by omega)
  have b2 : -(30 * 8000) ≤ i * s * q := by
    rw [Int.mul_assoc]
    have : (-30) * (s * q) ≤ i * (s * q) := Int.mul_le_mul_of_nonneg_right hi hsq.1
    have : 30 * (s * q) ≤ 30 * 8000 := Int.mul_le_mul_of_nonneg_left (by omega) (by omega)
    omega
  omega
theorem smI {x : Int} (h : -1000000000 ≤ x) (h' : x ≤ 1000000000) : sm x = true := sm30 (by omega) (by omega)
theorem sm1 : sm 1 = true := sm30 (by decide) (by decide)
/-- (m, 1) + (c, q) -/
theorem f_plus1 {m c q : Int} (hq : 0 < q) (hq' : q ≤ 1000) (hc : Int.gcd c q = 1) (hm : -1000000 ≤ m) (hm' : m ≤ 1000000) (h1 : -1000000 ≤ c) (h2 : c ≤ 1000000) : F_plus [nD m 1, nD c q] = .ok (.im (nD (m * q + c) q)) := by
  have e : F_amount [.int (m * q + c), .int q] = .ok (.im (.tup [.int (m * q + c), .int q])) := am1 (k := 4) hq (by omega) (by decide) (gcd_add hc)
  have sm_m := smI (x := m) (by omega) (by omega)
  have sm_c := smI (x := c) (by omega) (by omega)
  have sm_q := smI (x := q) (by omega) (by omega)
  show fnD 2 0 _ [nD m 1, nD c q] = _
  rw [fn2]
  refine fin_of (ret_ok (call_ok (aC (d := .int (m * q + c)) ?_ (a1 (d := .int q) ?_)) e rfl))
  · simp [nD, eVar, eC, eOp, gIx, atI0, atI1, gT sm_m sm_q, gT sm_c sm1, gPlus]
  · simp [nD, eVar, eC, eOp, gIx, atI0, atI1, gT sm1 sm_q]
/-- (m, 1) - (c, q) -/
theorem f_minus1 {m c q : Int} (hq : 0 < q) (hq' : q ≤ 1000) (hc : Int.gcd c q = 1) (hm : -1000000 ≤ m) (hm' : m ≤ 1000000) (h1 : -1000000 ≤ c) (h2 : c ≤ 1000000) : F_minus [nD m 1, nD c q] = .ok (.im (nD (m * q - c) q)) := by
  have e : F_amount [.int (m * q - c), .int q] = .ok (.im (.tup [.int (m * q - c), .int q])) := am1 (k := 4) hq (by omega) (by decide) (gcd_sub hc)
  have sm_m := smI (x := m) (by omega) (by omega)
  have sm_c := smI (x := c) (by omega) (by omega)
  have sm_q := smI (x := q) (by omega) (by omega)
  show fnD 2 0 _ [nD m 1, nD c q] = _
  rw [fn2]
  refine fin_of (ret_ok (call_ok (aC (d := .int (m * q - c)) ?_ (a1 (d := .int q) ?_)) e rfl))
  · simp [nD, eVar, eC, eOp, gIx, atI0, atI1, gT sm_m sm_q, gT sm_c sm1, DL.gSub, gI0]
  · simp [nD, eVar, eC, eOp, gIx, atI0, atI1, gT sm1 sm_q]
/-- the law's plus: (m, 1) + (0 - c, q) -/
theorem l_plus1 {m c q : Int} (hq : 0 < q) (hq' : q ≤ 1000) (hc : Int.gcd c q = 1) (hm : -1000000 ≤ m) (hm' : m ≤ 1000000) (h1 : -1000000 ≤ c) (h2 : c ≤ 1000000) : F__law_plus [nD m 1, nD (0 - c) q] = .ok (.im (nD (m * q - c) q)) := by
  have e : F__law_lowest [.int (m * q - c), .int q] = .ok (.im (.tup [.int (m * q - c), .int q])) := low1 (k := 4) hq (by omega) (by decide) (gcd_sub hc)
  have sm_m := smI (x := m) (by omega) (by omega)
  have sm_c := smI (x := 0 - c) (by omega) (by omega)
  have sm_q := smI (x := q) (by omega) (by omega)
  have e0 : m * q + (0 - c) * 1 = m * q - c := by omega
  show fnD 2 0 _ [nD m 1, nD (0 - c) q] = _
  rw [fn2]
  refine fin_of (ret_ok (call_ok (aC (d := .int (m * q - c)) ?_ (a1 (d := .int q) ?_)) e rfl))
  · show (eOp gPlus _ _ _) = _
    simp only [nD, eVar, eC, eOp, gIx, atI0, atI1, gPlus, List.cons_append, List.getElem?_cons_zero, List.getElem?_cons_succ, M.bind_ok, gT sm_m sm_q, gT sm_c sm1, e0]
  · simp [nD, eVar, eC, eOp, gIx, atI0, atI1, gT sm1 sm_q]
theorem f_out {s p q i : Int} (h : Co s p q) (hs : 0 < s) (hs' : s ≤ 8) (hi : -30 ≤ i) (hi' : i ≤ 30) : F_folded_out [.int s, nD p q, .int i] = .ok (.im (nD (img s p q i) q)) := by
  have hq := h.pos
  have hq' := h.top
  have hsq : 0 ≤ s * q ∧ s * q ≤ 8 * 1000 := ⟨Int.mul_nonneg (by omega) (by omega), Int.mul_le_mul hs' hq' (by omega) (by omega)⟩
  have hp := h.lo
  have hp' := h.hi
  have his : -1000 ≤ i * s ∧ i * s ≤ 1000 := by
    have h1 : i * s ≤ 30 * s := Int.mul_le_mul_of_nonneg_right hi' (by omega)
    have h2 : (-30) * s ≤ i * s := Int.mul_le_mul_of_nonneg_right hi (by omega)
    omega
  have smi := smI (x := i) (by omega) (by omega)
  have sms := smI (x := s) (by omega) (by omega)
  show fnD 3 1 _ [D.int s, nD p q, .int i] = _
  rw [fn3]
  by_cases ho : i % 2 = 1
  · have e1 := f_minus1 (m := s) hq hq' h.cop (by omega) (by omega) (by omega) (by omega)
    have e2 := f_plus1 (m := i * s) (c := s * q - p) hq hq' (gcd_sub h.cop) (by omega) (by omega) (by omega) (by omega)
    have ei : i * s * q + (s * q - p) = img s p q i := by
      unfold img
      rw [if_pos ho, Int.add_mul, Int.one_mul, Int.add_mul]
      omega
    rw [ei] at e2
    refine fin_of (go (set_ok (d := nD (s * q - p) q) ?_) (ret_ok (call_ok (aC (d := nD (i * s) 1) ?_ (a1 rfl)) e2 rfl)))
    · unfold eIf
      have et : DL.tB (eOp gEq (eOp gMod (eVar 2) (eC (.int 2))) (eC (.int 1))) ([some (S.im (D.int s)), some (S.im (nD p q)), some (S.im (D.int i))] ++ List.replicate 1 none) = .ok true := by
        simp [DL.tB, eOp, eVar, eC, gM, gEq, D.dep, D.eq, asB, ho]
      rw [et, M.bind_ok, if_pos rfl]
      exact call_ok (aC (d := nD s 1) (by simp [eTup, aCons, aNil, eVar, eC, nD, few]) (a1 rfl)) e1 rfl
    · simp [eTup, aCons, aNil, eVar, eC, eOp, nD, few, gT smi sms]
  · have e2 := f_plus1 (m := i * s) (c := p) hq hq' h.cop (by omega) (by omega) (by omega) (by omega)
    have ei : i * s * q + p = img s p q i := by
      unfold img
      rw [if_neg ho]
    rw [ei] at e2
    refine fin_of (go (set_ok (d := nD p q) ?_) (ret_ok (call_ok (aC (d := nD (i * s) 1) ?_ (a1 rfl)) e2 rfl)))
    · unfold eIf
      have et : DL.tB (eOp gEq (eOp gMod (eVar 2) (eC (.int 2))) (eC (.int 1))) ([some (S.im (D.int s)), some (S.im (nD p q)), some (S.im (D.int i))] ++ List.replicate 1 none) = .ok false := by
        simp [DL.tB, eOp, eVar, eC, gM, gEq, D.dep, D.eq, asB, ho]
      rw [et]
      rfl
    · simp [eTup, aCons, aNil, eVar, eC, eOp, nD, few, gT smi sms]
def pD (a b c d : Int) : D := .tup [nD a b, nD c d]
theorem f_img {W H a b c d i j : Int} (hx : Co W a b) (hy : Co H c d) (hW : 0 < W) (hW' : W ≤ 8) (hH : 0 < H) (hH' : H ≤ 8) (hi : -30 ≤ i) (hi' : i ≤ 30) (hj : -30 ≤ j) (hj' : j ≤ 30) :
    F_image_at [.int W, .int H, pD a b c d, .tup [.int i, .int j]] = .ok (.im (pD (img W a b i) b (img H c d j) d)) := by
  show fnD 4 0 _ [D.int W, D.int H, pD a b c d, .tup [.int i, .int j]] = _
  rw [fn4]
  refine fin_of (ret_ok ?_)
  unfold eTup
  rw [aC (call_ok (aC (d := .int W) rfl (aC (d := nD a b) (by simp [eVar, eC, eOp, gIx, atI0, pD]) (a1 (d := .int i) (by simp [eVar, eC, eOp, gIx, atI0])))) (f_out hx hW hW' hi hi') rfl)
    (a1 (call_ok (aC (d := .int H) rfl (aC (d := nD c d) (by simp [eVar, eC, eOp, gIx, atI1, pD]) (a1 (d := .int j) (by simp [eVar, eC, eOp, gIx, atI1])))) (f_out hy hH hH' hj hj') rfl))]
  rfl
end Law

set_option maxRecDepth 100000
set_option maxHeartbeats 4000000
namespace Law
open PySem L2 DL

/-! ### mirrored, folded -/
theorem own_ok {i : Nat} {f : DSt → M (List D)} {sd : DSt} {ds : List D} (h : f sd = .ok ds) : sOwn i f sd = .ok (.nx (sd.set i (some (.ow ds)))) := by unfold sOwn; rw [h]; rfl
theorem lput_ok {i : Nat} {fk fv : DSt → M D} {sd : DSt} {ds : List D} {v : D} {k : Nat} (h : sd[i]? = some (some (.ow ds))) (hv : fv sd = .ok v) (hk : fk sd = .ok (.int (k : Int))) (hj : k < ds.length) : sLPut i fk fv sd = .ok (.nx (sd.set i (some (.ow (ds.set k v))))) := by
  unfold sLPut
  rw [h]
  dsimp only
  rw [hv, M.bind_ok, hk, M.bind_ok]
  have e : ixN ds.length (k : Int) = some k := by
    unfold ixN
    rw [if_pos (by omega), if_pos (by omega)]; simp
  dsimp only
  rw [e]
theorem f_mir0 {a b c d L : Int} (hb : 0 < b) (hb' : b ≤ 1000) (hc : Int.gcd a b = 1) (hL : -100000 ≤ L) (hL' : L ≤ 100000) (h1 : -1000000 ≤ a) (h2 : a ≤ 1000000) : F__law_mirrored [pD a b c d, .int 0, .int L] = .ok (.im (pD (2 * L * b - a) b c d)) := by
  have e := l_plus1 (m := 2 * L) hb hb' hc (by omega) (by omega) h1 h2
  have smL := smI (x := L) (by omega) (by omega)
  have sm2 := smI (x := 2) (by omega) (by omega)
  show fnD 3 1 _ [pD a b c d, .int 0, .int L] = _
  rw [fn3]
  refine fin_of (go (own_ok (ds := [nD a b, nD c d]) (by simp [fList, aCons, aNil, eVar, pD])) (go (lput_ok (ds := [nD a b, nD c d]) (k := 0) (v := nD (2 * L * b - a) b) rfl ?_ rfl (by simp)) ?_))
  · refine call_ok (aC (d := nD (2 * L) 1) ?_ (a1 (d := nD (0 - a) b) ?_)) e rfl
    · simp [eTup, aCons, aNil, eVar, eC, eOp, nD, few, gT sm2 smL]
    · simp [eTup, aCons, aNil, eVar, eC, eOp, nD, pD, few, gIx, atI0, atI1, DL.gSub, gI0]
  · unfold sFrz
    refine ret_ok (cb_ok (a1 (d := .lst [nD (2 * L * b - a) b, nD c d]) rfl) rfl)
theorem f_mir1 {a b c d L : Int} (hb : 0 < d) (hb' : d ≤ 1000) (hc : Int.gcd c d = 1) (hL : -100000 ≤ L) (hL' : L ≤ 100000) (h1 : -1000000 ≤ c) (h2 : c ≤ 1000000) : F__law_mirrored [pD a b c d, .int 1, .int L] = .ok (.im (pD a b (2 * L * d - c) d)) := by
  have e := l_plus1 (m := 2 * L) hb hb' hc (by omega) (by omega) h1 h2
  have smL := smI (x := L) (by omega) (by omega)
  have sm2 := smI (x := 2) (by omega) (by omega)
  show fnD 3 1 _ [pD a b c d, .int 1, .int L] = _
  rw [fn3]
  refine fin_of (go (own_ok (ds := [nD a b, nD c d]) (by simp [fList, aCons, aNil, eVar, pD])) (go (lput_ok (ds := [nD a b, nD c d]) (k := 1) (v := nD (2 * L * d - c) d) rfl ?_ rfl (by simp)) ?_))
  · refine call_ok (aC (d := nD (2 * L) 1) ?_ (a1 (d := nD (0 - c) d) ?_)) e rfl
    · simp [eTup, aCons, aNil, eVar, eC, eOp, nD, few, gT sm2 smL]
    · simp [eTup, aCons, aNil, eVar, eC, eOp, nD, pD, few, gIx, atI0, atI1, DL.gSub, gI0]
  · unfold sFrz
    refine ret_ok (cb_ok (a1 (d := .lst [nD a b, nD (2 * L * d - c) d]) rfl) rfl)
noncomputable def fdBody : DSt → M O := (sSeq (sSet 9 (eIf (DL.tB (eOp gGt (eVar 6) (eC (.int 0)))) (eOp gTimes (eOp gPlus (eVar 8) (eC (.int 1))) (eVar 7)) (eOp DL.gSub (eC (.int 0)) (eOp gTimes (eVar 8) (eVar 7)))))
      (sSet 2 (eCall F__law_mirrored (aCons (eVar 2) (aCons (eVar 5) (aCons (eVar 9) aNil))))))
def sg (I : Int) (m : Nat) : Int := if 0 < I then (m : Int) else -(m : Int)
def ln (I s : Int) (m : Nat) : Int := if 0 < I then ((m : Int) + 1) * s else 0 - (m : Int) * s
theorem img_sg (s p q I : Int) (m : Nat) : img s p q (sg I (m + 1)) = 2 * ln I s m * q - img s p q (sg I m) := by
  unfold sg ln
  by_cases h : 0 < I
  · rw [if_pos h, if_pos h, if_pos h]
    exact img_succ s p q m
  · rw [if_neg h, if_neg h, if_neg h]
    have e := img_pred s p q (-(m : Int))
    rw [show -(m : Int) - 1 = -((m + 1 : Nat) : Int) by omega] at e
    rw [e, show (0 : Int) - (m : Int) * s = -(m : Int) * s by rw [Int.neg_mul]; omega]
theorem ln_ok {I s : Int} {m : Nat} (hs : 0 < s) (hs' : s ≤ 8) (hm : m ≤ 30) (s0 s1 s2 s3 s4 s5 s9 : Option S) :
    eIf (DL.tB (eOp gGt (eVar 6) (eC (.int 0)))) (eOp gTimes (eOp gPlus (eVar 8) (eC (.int 1))) (eVar 7)) (eOp DL.gSub (eC (.int 0)) (eOp gTimes (eVar 8) (eVar 7))) [s0, s1, s2, s3, s4, s5, some (.im (.int I)), some (.im (.int s)), some (.im (.int (m : Int))), s9] = .ok (.int (ln I s m)) := by
  have sms := smI (x := s) (by omega) (by omega)
  have smm := smI (x := (m : Int)) (by omega) (by omega)
  have smm1 := smI (x := (m : Int) + 1) (by omega) (by omega)
  unfold eIf ln
  by_cases h : 0 < I
  · have et : DL.tB (eOp gGt (eVar 6) (eC (.int 0))) [s0, s1, s2, s3, s4, s5, some (.im (.int I)), some (.im (.int s)), some (.im (.int (m : Int))), s9] = .ok true := by
      simp [DL.tB, eOp, eVar, eC, gGt, gI0, asB, h]
    rw [et, M.bind_ok, if_pos rfl, if_pos h]
    simp [eOp, eVar, eC, gPlus, gT smm1 sms]
  · have et : DL.tB (eOp gGt (eVar 6) (eC (.int 0))) [s0, s1, s2, s3, s4, s5, some (.im (.int I)), some (.im (.int s)), some (.im (.int (m : Int))), s9] = .ok false := by
      simp [DL.tB, eOp, eVar, eC, gGt, gI0, asB, h]
    rw [et, M.bind_ok, if_neg (by decide), if_neg h]
    simp [eOp, eVar, eC, DL.gSub, gI0, gT smm sms]
theorem ln_bd {I s : Int} {m : Nat} (hs : 0 < s) (hs' : s ≤ 8) (hm : m ≤ 30) : -100000 ≤ ln I s m ∧ ln I s m ≤ 100000 := by
  unfold ln
  have h1 : (m : Int) * s ≤ 30 * s := Int.mul_le_mul_of_nonneg_right (by omega) (by omega)
  have h2 : 0 ≤ (m : Int) * s := Int.mul_nonneg (by omega) (by omega)
  have h3 : ((m : Int) + 1) * s = (m : Int) * s + s := by rw [Int.add_mul, Int.one_mul]
  split <;> omega
theorem sg_bd {I : Int} {m : Nat} (hm : m ≤ 30) : -30 ≤ sg I m ∧ sg I m ≤ 30 := by
  unfold sg
  split <;> omega
theorem fd0 {W a b c d I : Int} (hx : Co W a b) (hW : 0 < W) (hW' : W ≤ 8) (s0 s1 s3 s4 : Option S) : ∀ (n m : Nat) (v8 v9 : Option S), m + n ≤ 25 →
    ∃ w8 w9, loopD (gNm 8) fdBody ((List.range' m n).map fun (k : Nat) => D.int (k : Int)) [s0, s1, some (.im (pD (img W a b (sg I m)) b c d)), s3, s4, some (.im (.int 0)), some (.im (.int I)), some (.im (.int W)), v8, v9] =
      .ok (.nx [s0, s1, some (.im (pD (img W a b (sg I (m + n))) b c d)), s3, s4, some (.im (.int 0)), some (.im (.int I)), some (.im (.int W)), w8, w9])
  | 0, m, v8, v9, _ => ⟨v8, v9, rfl⟩
  | n + 1, m, v8, v9, h => by
    obtain ⟨l1, l2⟩ := ln_bd (I := I) (s := W) (m := m) hW hW' (by omega)
    obtain ⟨g1, g2⟩ := sg_bd (I := I) (m := m) (by omega)
    obtain ⟨i1, i2⟩ := img_bd hx hW hW' g1 g2
    obtain ⟨w8, w9, e⟩ := fd0 hx hW hW' s0 s1 s3 s4 n (m + 1) (some (.im (.int (m : Int)))) (some (.im (.int (ln I W m)))) (by omega)
    refine ⟨w8, w9, ?_⟩
    rw [List.range'_succ, List.map_cons]
    refine (loop_nx (sd1 := [s0, s1, some (.im (pD (img W a b (sg I m)) b c d)), s3, s4, some (.im (.int 0)), some (.im (.int I)), some (.im (.int W)), some (.im (.int (m : Int))), v9]) rfl (go (set_ok (ln_ok hW hW' (by omega) s0 s1 _ s3 s4 _ v9)) (set_ok (call_ok (aC rfl (aC rfl (a1 rfl))) (f_mir0 hx.pos hx.top (img_cop hx.cop _) l1 l2 i1 i2) rfl)))).trans ?_
    rw [img_sg] at e
    rw [show m + (n + 1) = m + 1 + n by omega]
    exact e
theorem fd1 {H a b c d I : Int} (hx : Co H c d) (hW : 0 < H) (hW' : H ≤ 8) (s0 s1 s3 s4 : Option S) : ∀ (n m : Nat) (v8 v9 : Option S), m + n ≤ 25 →
    ∃ w8 w9, loopD (gNm 8) fdBody ((List.range' m n).map fun (k : Nat) => D.int (k : Int)) [s0, s1, some (.im (pD a b (img H c d (sg I m)) d)), s3, s4, some (.im (.int 1)), some (.im (.int I)), some (.im (.int H)), v8, v9] =
      .ok (.nx [s0, s1, some (.im (pD a b (img H c d (sg I (m + n))) d)), s3, s4, some (.im (.int 1)), some (.im (.int I)), some (.im (.int H)), w8, w9])
  | 0, m, v8, v9, _ => ⟨v8, v9, rfl⟩
  | n + 1, m, v8, v9, h => by
    obtain ⟨l1, l2⟩ := ln_bd (I := I) (s := H) (m := m) hW hW' (by omega)
    obtain ⟨g1, g2⟩ := sg_bd (I := I) (m := m) (by omega)
    obtain ⟨i1, i2⟩ := img_bd hx hW hW' g1 g2
    obtain ⟨w8, w9, e⟩ := fd1 hx hW hW' s0 s1 s3 s4 n (m + 1) (some (.im (.int (m : Int)))) (some (.im (.int (ln I H m)))) (by omega)
    refine ⟨w8, w9, ?_⟩
    rw [List.range'_succ, List.map_cons]
    refine (loop_nx (sd1 := [s0, s1, some (.im (pD a b (img H c d (sg I m)) d)), s3, s4, some (.im (.int 1)), some (.im (.int I)), some (.im (.int H)), some (.im (.int (m : Int))), v9]) rfl (go (set_ok (ln_ok hW hW' (by omega) s0 s1 _ s3 s4 _ v9)) (set_ok (call_ok (aC rfl (aC rfl (a1 rfl))) (f_mir1 hx.pos hx.top (img_cop hx.cop _) l1 l2 i1 i2) rfl)))).trans ?_
    rw [img_sg] at e
    rw [show m + (n + 1) = m + 1 + n by omega]
    exact e
theorem sg_abs (I : Int) : sg I I.natAbs = I := by
  unfold sg
  split <;> omega
theorem f_folded {W H a b c d i j : Int} (hx : Co W a b) (hy : Co H c d) (hW : 0 < W) (hW' : W ≤ 8) (hH : 0 < H) (hH' : H ≤ 8) (hi : -20 ≤ i) (hi' : i ≤ 20) (hj : -20 ≤ j) (hj' : j ≤ 20) :
    F__law_folded [.int W, .int H, pD a b c d, .int i, .int j] = .ok (.im (pD (img W a b i) b (img H c d j) d)) := by
  have ai : (if i < 0 then -i else i) = (i.natAbs : Int) := by split <;> omega
  have aj : (if j < 0 then -j else j) = (j.natAbs : Int) := by split <;> omega
  obtain ⟨w8, w9, e0⟩ := fd0 (c := c) (d := d) (I := i) hx hW hW' (some (.im (.int W))) (some (.im (.int H))) (some (.im (.int i))) (some (.im (.int j))) i.natAbs 0 none none (by omega)
  obtain ⟨u8, u9, e1⟩ := fd1 (a := img W a b i) (b := b) (I := j) hy hH hH' (some (.im (.int W))) (some (.im (.int H))) (some (.im (.int i))) (some (.im (.int j))) j.natAbs 0 w8 w9 (by omega)
  have z : ∀ I : Int, sg I 0 = 0 := fun I => by unfold sg; split <;> rfl
  rw [z, img_zero, Nat.zero_add, sg_abs] at e0 e1
  rw [← List.range_eq_range'] at e0 e1
  show fnD 5 5 _ [D.int W, .int H, pD a b c d, .int i, .int j] = _
  rw [fn5]
  refine fin_of (go (sd' := [some (.im (.int W)), some (.im (.int H)), some (.im (pD (img W a b i) b (img H c d j) d)), some (.im (.int i)), some (.im (.int j)), some (.im (.int 1)), some (.im (.int j)), some (.im (.int H)), u8, u9]) ?_ (ret_ok rfl))
  rw [sFor_ok (ds := [.tup [.int 0, .int i, .int W], .tup [.int 1, .int j, .int H]]) (by simp [iSeq, eLst, eTup, aCons, aNil, eVar, eC, few])]
  refine (loop_nx (sd1 := [some (.im (.int W)), some (.im (.int H)), some (.im (pD a b c d)), some (.im (.int i)), some (.im (.int j)), some (.im (.int 0)), some (.im (.int i)), some (.im (.int W)), none, none]) (by simp [gTupD, gsCons, gsNil, gNm]) ((sFor_ok (iR1 (n := i.natAbs) (a1 (cb_ok (a1 rfl) (by simp [bAbs, ai]))) (by omega))).trans e0)).trans ?_
  refine (loop_nx (sd1 := [some (.im (.int W)), some (.im (.int H)), some (.im (pD (img W a b i) b c d)), some (.im (.int i)), some (.im (.int j)), some (.im (.int 1)), some (.im (.int j)), some (.im (.int H)), w8, w9]) (by simp [gTupD, gsCons, gsNil, gNm]) ((sFor_ok (iR1 (n := j.natAbs) (a1 (cb_ok (a1 rfl) (by simp [bAbs, aj]))) (by omega))).trans e1)).trans ?_
  rfl
end Law

set_option maxRecDepth 100000
set_option maxHeartbeats 4000000
namespace Law
open PySem L2 DL
def nbBody : DSt → M O := (sSeq (sSet 3 (eOp gMod (eOp gPlus (eOp gPlus (eOp gTimes (eVar 3) (eOp gPlus (eOp gMod (eVar 3) (eC (.int 65521))) (eC (.int 40487)))) (eOp gTimes (eC (.int 7)) (eVar 5))) (eC (.int 5))) (eC (.int 1999999973))))
      (sSeq (sApp 2 (eOp gIx (eLst (aCons (eVar 3) (aCons (eOp gMod (eVar 4) (eC (.int 1000000))) aNil))) (eCB bInt (aCons (eOp gGt (eVar 4) (eC (.int 0))) aNil))))
      (sSet 4 (eOp gFdiv (eVar 4) (eC (.int 1000000))))))
def nbOk (d : Int) : Prop := 0 ≤ d ∧ d < 1999999973
theorem nb_turn (s0 s1 : Option S) (ds : List D) (hd : ds.length ≤ 1000) (N R K : Int) (hN : 0 ≤ N) (hN' : N < 1999999973) (hK : 0 ≤ K) (hK' : K ≤ 1000) :
    ∃ d N' : Int, 0 ≤ N' ∧ N' < 1999999973 ∧ nbOk d ∧ nbBody [s0, s1, some (.ow ds), some (.im (.int N)), some (.im (.int R)), some (.im (.int K))] =
      .ok (.nx [s0, s1, some (.ow (ds ++ [.int d])), some (.im (.int N')), some (.im (.int (R / 1000000))), some (.im (.int K))]) := by
  have q1 : 0 ≤ N % 65521 := Int.emod_nonneg _ (by decide)
  have q2 : N % 65521 < 65521 := Int.emod_lt_of_pos _ (by decide)
  have g1 := gM (i := N) (j := 65521) (by decide)
  have g2 := gT (i := N) (j := N % 65521 + 40487) (sm30 (by omega) (by omega)) (sm30 (by omega) (by omega))
  have g3 := gT (i := 7) (j := K) (sm30 (by omega) (by omega)) (sm30 (by omega) (by omega))
  have g4 := gM (i := N * (N % 65521 + 40487) + 7 * K + 5) (j := 1999999973) (by decide)
  have e1 : sSet 3 (eOp gMod (eOp gPlus (eOp gPlus (eOp gTimes (eVar 3) (eOp gPlus (eOp gMod (eVar 3) (eC (.int 65521))) (eC (.int 40487)))) (eOp gTimes (eC (.int 7)) (eVar 5))) (eC (.int 5))) (eC (.int 1999999973)))
      [s0, s1, some (.ow ds), some (.im (.int N)), some (.im (.int R)), some (.im (.int K))] =
      .ok (.nx [s0, s1, some (.ow ds), some (.im (.int ((N * (N % 65521 + 40487) + 7 * K + 5) % 1999999973))), some (.im (.int R)), some (.im (.int K))]) := by
    simp [sSet, eOp, eVar, eC, g1, gPlus, g2, g3, g4]
  have b1 : 0 ≤ (N * (N % 65521 + 40487) + 7 * K + 5) % 1999999973 := Int.emod_nonneg _ (by decide)
  have b2 : (N * (N % 65521 + 40487) + 7 * K + 5) % 1999999973 < 1999999973 := Int.emod_lt_of_pos _ (by decide)
  generalize (N * (N % 65521 + 40487) + 7 * K + 5) % 1999999973 = N' at e1 b1 b2
  have f1 : few ds = true := few_of (by omega)
  have g5 := gM (i := R) (j := 1000000) (by decide)
  have g8 := gFd (i := R) (j := 1000000) (by decide) (sm30 (by decide) (by decide))
  have f2 : few [D.int N', D.int (R % 1000000)] = true := few_of (by simp)
  by_cases hR : R > 0
  · have p1 : 0 ≤ R % 1000000 := Int.emod_nonneg _ (by decide)
    have p2 : R % 1000000 < 1000000 := Int.emod_lt_of_pos _ (by decide)
    refine ⟨R % 1000000, N', b1, b2, ⟨p1, by omega⟩, go e1 ?_⟩
    simp [sSeq, sApp, eOp, eLst, aCons, aNil, eVar, eC, g5, f2, eCB, gGt, gI0, hR, bInt, gIx, atI1, f1, sSet, g8]
  · refine ⟨N', N', b1, b2, ⟨b1, b2⟩, go e1 ?_⟩
    simp [sSeq, sApp, eOp, eLst, aCons, aNil, eVar, eC, g5, f2, eCB, gGt, gI0, hR, bInt, gIx, atI0, f1, sSet, g8]
theorem nb_loop (s0 s1 : Option S) : ∀ (ks : List Nat) (ds : List Int) (N R : Int) (v : Option S), ds.length + ks.length ≤ 1000 → (∀ k ∈ ks, k ≤ 1000) → 0 ≤ N → N < 1999999973 → (∀ d ∈ ds, nbOk d) →
    ∃ (es : List Int) (N' R' : Int) (v' : Option S), es.length = ds.length + ks.length ∧ (∀ d ∈ es, nbOk d) ∧ loopD (gNm 5) nbBody (ks.map fun (k : Nat) => D.int (k : Int)) [s0, s1, some (.ow (ds.map D.int)), some (.im (.int N)), some (.im (.int R)), v] =
      .ok (.nx [s0, s1, some (.ow (es.map D.int)), some (.im (.int N')), some (.im (.int R')), v'])
  | [], ds, N, R, v, _, _, _, _, hd => ⟨ds, N, R, v, by simp, hd, by simp [loopD]⟩
  | k :: ks, ds, N, R, v, h, hk, hN, hN', hd => by
    rw [List.length_cons] at h
    have hk0 := hk k List.mem_cons_self
    obtain ⟨d, N1, h1, h2, h3, e⟩ := nb_turn s0 s1 (ds.map D.int) (by simp; omega) N R (k : Int) hN hN' (by omega) (by omega)
    obtain ⟨es, N', R', v', hl, ho, ih⟩ := nb_loop s0 s1 ks (ds ++ [d]) N1 (R / 1000000) (some (.im (.int (k : Int)))) (by simp; omega) (fun k hk' => hk k (List.mem_cons_of_mem _ hk')) h1 h2 (fun d' hd' => by
      rcases List.mem_append.mp hd' with q | q
      · exact hd d' q
      · have : d' = d := by simpa using q
        rw [this]; exact h3)
    refine ⟨es, N', R', v', by rw [hl]; simp; omega, ho, ?_⟩
    rw [List.map_append, List.map_cons, List.map_nil] at ih
    rw [← ih]
    simp [loopD, gNm, e]
theorem f_numbers (c : Int) (n : Nat) (hn : n ≤ 1000) : ∃ es : List Int, es.length = n ∧ (∀ d ∈ es, nbOk d) ∧ F__law_numbers [.int c, .int (n : Int)] = .ok (.ow (es.map D.int)) := by
  have g1 := gM (i := c) (j := 1999999973) (by decide)
  have q1 : 0 ≤ c % 1999999973 := Int.emod_nonneg _ (by decide)
  have q2 : c % 1999999973 < 1999999973 := Int.emod_lt_of_pos _ (by decide)
  have g2 := gT (i := c % 1999999973 + 31) (j := 765432101) (sm30 (by omega) (by omega)) (sm30 (by omega) (by omega))
  have g3 := gM (i := (c % 1999999973 + 31) * 765432101) (j := 1999999973) (by decide)
  have g4 : gPow (.int 10) (.int 18) = .ok (.int 1000000000000000000) := rfl
  have b1 : 0 ≤ (c % 1999999973 + 31) * 765432101 % 1999999973 := Int.emod_nonneg _ (by decide)
  have b2 : (c % 1999999973 + 31) * 765432101 % 1999999973 < 1999999973 := Int.emod_lt_of_pos _ (by decide)
  have e2 : sSet 3 (eOp gMod (eOp gTimes (eOp gPlus (eOp gMod (eVar 0) (eC (.int 1999999973))) (eC (.int 31))) (eC (.int 765432101))) (eC (.int 1999999973))) [some (.im (.int c)), some (.im (.int (n : Int))), some (.ow []), none, none, none] =
      .ok (.nx [some (.im (.int c)), some (.im (.int (n : Int))), some (.ow []), some (.im (.int ((c % 1999999973 + 31) * 765432101 % 1999999973))), none, none]) := by
    simp [sSet, eOp, eVar, eC, g1, gPlus, g2, g3]
  generalize (c % 1999999973 + 31) * 765432101 % 1999999973 = N at e2 b1 b2
  obtain ⟨R, e4⟩ : ∃ R : Int, (sIf (DL.tO (DL.tB (eOp gLt (eVar 0) (eC (.int 0)))) (DL.tB (eOp gGe (eVar 0) (eOp gPow (eC (.int 10)) (eC (.int 18)))))) (sSet 4 (eCB bAbs (aCons (eVar 0) aNil))) sNil) [some (.im (.int c)), some (.im (.int (n : Int))), some (.ow []), some (.im (.int N)), some (.im (.int 0)), none] =
      .ok (.nx [some (.im (.int c)), some (.im (.int (n : Int))), some (.ow []), some (.im (.int N)), some (.im (.int R)), none]) := by
    by_cases h1 : c < 0
    · exact ⟨-c, by simp [sIf, DL.tO, DL.tB, eOp, eVar, eC, gLt, gI0, h1, asB, sSet, eCB, bAbs, aCons, aNil]⟩
    · by_cases h2 : 1000000000000000000 ≤ c
      · exact ⟨c, by simp [sIf, DL.tO, DL.tB, eOp, eVar, eC, gLt, gGe, gI0, h1, h2, g4, asB, sSet, eCB, bAbs, aCons, aNil]⟩
      · exact ⟨0, by simp [sIf, DL.tO, DL.tB, eOp, eVar, eC, gLt, gGe, gI0, h1, h2, g4, asB, sSet, eCB, bAbs, aCons, aNil, sNil]⟩
  obtain ⟨es, N', R', v', hl, ho, e5⟩ := nb_loop (some (.im (.int c))) (some (.im (.int (n : Int)))) (List.range n) [] N R none (by simp; omega) (fun k hk => by have := List.mem_range.mp hk; omega) b1 b2 (fun d hd => by simp at hd)
  refine ⟨es, by simpa using hl, ho, ?_⟩
  have r1 : ∀ s0 s, iRange1 (aCons (eVar 1) aNil) (s0 :: some (.im (.int (n : Int))) :: s) = .ok ((List.range n).map fun (k : Nat) => D.int (k : Int)) := fun s0 s => iR1 (by simp [aCons, aNil, eVar]) hn
  exact (fn2 _ _ _ _).trans (fin_of (go (own_nil 2 _) (go e2 (go rfl (go e4 (go ((sFor_ok (r1 _ _)).trans e5) rfl))))))
theorem ix_nat (ds : List D) (k : Nat) (d : D) (h : ds[k]? = some d) : gIx (.lst ds) (.int (k : Int)) = .ok d := by
  simp [gIx, atI_nat h]
theorem if_skip {c : DSt → M Bool} {f : DSt → M O} {sd : DSt} (h : c sd = .ok false) : sIf c f sNil sd = .ok (.nx sd) := by unfold sIf; rw [h]; rfl
theorem tO_ff {f g : DSt → M Bool} {sd : DSt} (h1 : f sd = .ok false) (h2 : g sd = .ok false) : DL.tO f g sd = .ok false := by unfold DL.tO; rw [h1]; exact h2
theorem tN_t {f : DSt → M Bool} {sd : DSt} (h : f sd = .ok true) : DL.tN f sd = .ok false := by unfold DL.tN; rw [h]; rfl
theorem tB_b {f : DSt → M D} {sd : DSt} {b : Bool} (h : f sd = .ok (.bl b)) : DL.tB f sd = .ok b := by unfold DL.tB; rw [h]; rfl
theorem op_ok {g : D → D → M D} {fa fb : DSt → M D} {sd : DSt} {x y : D} {r : M D} (h1 : fa sd = .ok x) (h2 : fb sd = .ok y) (h3 : g x y = r) : eOp g fa fb sd = r := by unfold eOp; rw [h1, M.bind_ok, h2, M.bind_ok, h3]
theorem and_ok {f g : DSt → M D} {sd : DSt} {r : M D} (h1 : f sd = .ok (.bl true)) (h2 : g sd = r) : eAnd f g sd = r := by unfold eAnd; rw [h1, M.bind_ok]; exact h2

/-! ### numbers, points -/
theorem f_isnum {p q : Int} (h : 0 < q) (h' : q ≤ 1000) (hc : Int.gcd p q = 1) : F__law_is_number [nD p q] = .ok (.im (.bl true)) := by
  show fnD 1 1 _ [nD p q] = _
  rw [fn1]
  refine fin_of (go (if_skip (tO_ff (tN_t (tB_b (b := true) ?_)) (tB_b (b := false) ?_))) (go (sd' := [some (.im (nD p q)), some (.im (.int q))]) ?_ (ret_ok (and_ok ?_ (op_ok (call_ok (aC (d := .int p) ?_ (a1 (d := .int q) ?_)) (low1 (k := 4) h (by omega) (by decide) hc) rfl) rfl ?_)))))
  · simp [eIs, eVar, isD, nD]
  · simp [eOp, eCB, bLen, aCons, aNil, eVar, eC, gNe, D.dep, D.eq, nD]
  · rw [sFor_ok (ds := [.int p, .int q]) (by simp [iSeq, eVar, nD])]
    simp [loopD, gNm, sIf, DL.tO, DL.tN, DL.tB, eIs, eVar, isD, asB, sNil]
  · simp [eOp, eVar, eC, gIx, nD, atI1, gGt, gI0, h]
  · simp [eOp, eVar, eC, gIx, nD, atI0]
  · simp [eOp, eVar, eC, gIx, nD, atI1]
  · simp [gEq, D.dep, D.deps, D.eq, D.eqs, nD]
theorem f_isp {a b c d : Int} (hb : 0 < b) (hb' : b ≤ 1000) (hc : Int.gcd a b = 1) (hd : 0 < d) (hd' : d ≤ 1000) (hc' : Int.gcd c d = 1) : F__law_is_point [pD a b c d] = .ok (.im (.bl true)) := by
  show fnD 1 0 _ [pD a b c d] = _
  rw [fn1]
  refine fin_of (ret_ok (and_ok ?_ (and_ok ?_ (cb_ok (a1 (d := .lst [.bl true, .bl true]) ?_) rfl))))
  · simp [eIs, eVar, isD, pD]
  · simp [eOp, eCB, bLen, aCons, aNil, eVar, eC, gEq, D.dep, D.eq, pD]
  · unfold eNew fComp
    have hi : iSeq (eVar 0) ([some (S.im (pD a b c d))] ++ List.replicate 0 none) = .ok [nD a b, nD c d] := by simp [iSeq, eVar, pD]
    rw [hi, M.bind_ok, if_pos (few_of (by simp)), mapD_ok (fun _ => .bl true)]
    · rfl
    · intro x hx
      have hx : x = nD a b ∨ x = nD c d := by simpa using hx
      rcases hx with rfl | rfl
      · exact ⟨_, rfl, call_ok (a1 rfl) (f_isnum hb hb' hc) rfl⟩
      · exact ⟨_, rfl, call_ok (a1 rfl) (f_isnum hd hd' hc') rfl⟩
theorem f_part {s x y : Int} (hs : 0 < s) (hs' : s ≤ 8) (hx : nbOk x) (hy : nbOk y) : ∃ p q, F__law_part [.int s, .int x, .int y, .int 1000] = .ok (.im (nD p q)) ∧ Co s p q := by
  obtain ⟨x1, x2⟩ := hx
  obtain ⟨y1, y2⟩ := hy
  have m1 : 0 ≤ x % 999 := Int.emod_nonneg _ (by decide)
  have m2 : x % 999 < 999 := Int.emod_lt_of_pos _ (by decide)
  obtain ⟨B, hB⟩ : ∃ B, B = 2 + x % 999 := ⟨_, rfl⟩
  have B1 : 2 ≤ B := by omega
  have B2 : B ≤ 1000 := by omega
  have n1 : 0 ≤ x / 1000 % s := Int.emod_nonneg _ (by omega)
  have n2 : x / 1000 % s < s := Int.emod_lt_of_pos _ hs
  have k1 : 0 ≤ y % (B - 1) := Int.emod_nonneg _ (by omega)
  have k2 : y % (B - 1) < B - 1 := Int.emod_lt_of_pos _ (by omega)
  obtain ⟨T, hT⟩ : ∃ T, T = x / 1000 % s * B + 1 + y % (B - 1) := ⟨_, rfl⟩
  have q0 : 0 ≤ x / 1000 % s * B := Int.mul_nonneg n1 (by omega)
  have q1 : x / 1000 % s * B ≤ (s - 1) * B := Int.mul_le_mul_of_nonneg_right (by omega) (by omega)
  have q2 : (s - 1) * B = s * B - B := by rw [Int.sub_mul, Int.one_mul]
  have T1 : 0 < T := by omega
  have T2 : T < s * B := by omega
  have g1 := gM (i := x) (j := 999) (by decide)
  have g2 := gFd (i := x) (j := 1000) (by decide) (sm30 (by decide) (by decide))
  have g3 := gM (i := x / 1000) (j := s) hs
  have g4 := gT (i := x / 1000 % s) (j := B) (smI (by omega) (by omega)) (smI (by omega) (by omega))
  have g5 := gM (i := y) (j := B - 1) (by omega)
  have l := low_of (t := T) (b := B) (by omega)
  refine ⟨_, _, ?_, ⟨l.pos, ?_, l.cop, ?_, ?_⟩⟩
  · show fnD 4 1 _ [D.int s, .int x, .int y, .int 1000] = _
    rw [fn4]
    refine fin_of (go (set_ok (d := .int B) ?_) (ret_ok (call_ok (aC (d := .int T) ?_ (a1 (d := .int B) rfl)) (f_lowest (k := 4) (by omega) (by omega) (by decide)) rfl)))
    · simp [eOp, eVar, eC, DL.gSub, gI0, gPlus, g1, hB]
    · simp [eOp, eVar, eC, DL.gSub, gI0, gPlus, g2, g3, g4, g5, hT]
  · have := l.ql
    have := l.pos
    omega
  · have e := l.eq
    have h1 : 0 < T * (B / (Int.gcd T B : Nat)) := Int.mul_pos T1 l.pos
    rw [← e] at h1
    exact Int.pos_of_mul_pos_left h1 (by omega)
  · have e := l.eq
    have h1 : T * (B / (Int.gcd T B : Nat)) < s * B * (B / (Int.gcd T B : Nat)) := Int.mul_lt_mul_of_pos_right T2 l.pos
    rw [← e] at h1
    have e2 : s * B * (B / (Int.gcd T B : Nat)) = s * (B / (Int.gcd T B : Nat)) * B := by rw [Int.mul_assoc, Int.mul_comm B, ← Int.mul_assoc]
    rw [e2] at h1
    exact Int.lt_of_mul_lt_mul_right h1 (by omega)
end Law

set_option maxRecDepth 100000
set_option maxHeartbeats 4000000
namespace Law
open PySem L2 DL
/-! ### the box, each of the 64 -/
noncomputable def boxB (w h : Int) : Bool := match F_box [.int w, .int h] with
  | .ok (.im d) => (match F__law_box_right [d, .int w, .int h] with
    | .ok (.im (.bl true)) => true
    | _ => false)
  | _ => false
theorem bx_1_1 : boxB 1 1 = true := by decide +kernel
theorem bx_1_2 : boxB 1 2 = true := by decide +kernel
theorem bx_1_3 : boxB 1 3 = true := by decide +kernel
theorem bx_1_4 : boxB 1 4 = true := by decide +kernel
theorem bx_1_5 : boxB 1 5 = true := by decide +kernel
theorem bx_1_6 : boxB 1 6 = true := by decide +kernel
theorem bx_1_7 : boxB 1 7 = true := by decide +kernel
theorem bx_1_8 : boxB 1 8 = true := by decide +kernel
theorem bx_2_1 : boxB 2 1 = true := by decide +kernel
theorem bx_2_2 : boxB 2 2 = true := by decide +kernel
theorem bx_2_3 : boxB 2 3 = true := by decide +kernel
theorem bx_2_4 : boxB 2 4 = true := by decide +kernel
theorem bx_2_5 : boxB 2 5 = true := by decide +kernel
theorem bx_2_6 : boxB 2 6 = true := by decide +kernel
theorem bx_2_7 : boxB 2 7 = true := by decide +kernel
theorem bx_2_8 : boxB 2 8 = true := by decide +kernel
theorem bx_3_1 : boxB 3 1 = true := by decide +kernel
theorem bx_3_2 : boxB 3 2 = true := by decide +kernel
theorem bx_3_3 : boxB 3 3 = true := by decide +kernel
theorem bx_3_4 : boxB 3 4 = true := by decide +kernel
theorem bx_3_5 : boxB 3 5 = true := by decide +kernel
theorem bx_3_6 : boxB 3 6 = true := by decide +kernel
theorem bx_3_7 : boxB 3 7 = true := by decide +kernel
theorem bx_3_8 : boxB 3 8 = true := by decide +kernel
theorem bx_4_1 : boxB 4 1 = true := by decide +kernel
theorem bx_4_2 : boxB 4 2 = true := by decide +kernel
theorem bx_4_3 : boxB 4 3 = true := by decide +kernel
theorem bx_4_4 : boxB 4 4 = true := by decide +kernel
theorem bx_4_5 : boxB 4 5 = true := by decide +kernel
theorem bx_4_6 : boxB 4 6 = true := by decide +kernel
theorem bx_4_7 : boxB 4 7 = true := by decide +kernel
theorem bx_4_8 : boxB 4 8 = true := by decide +kernel
theorem bx_5_1 : boxB 5 1 = true := by decide +kernel
theorem bx_5_2 : boxB 5 2 = true := by decide +kernel
theorem bx_5_3 : boxB 5 3 = true := by decide +kernel
theorem bx_5_4 : boxB 5 4 = true := by decide +kernel
theorem bx_5_5 : boxB 5 5 = true := by decide +kernel
theorem bx_5_6 : boxB 5 6 = true := by decide +kernel
theorem bx_5_7 : boxB 5 7 = true := by decide +kernel
theorem bx_5_8 : boxB 5 8 = true := by decide +kernel
theorem bx_6_1 : boxB 6 1 = true := by decide +kernel
theorem bx_6_2 : boxB 6 2 = true := by decide +kernel
theorem bx_6_3 : boxB 6 3 = true := by decide +kernel
theorem bx_6_4 : boxB 6 4 = true := by decide +kernel
theorem bx_6_5 : boxB 6 5 = true := by decide +kernel
theorem bx_6_6 : boxB 6 6 = true := by decide +kernel
theorem bx_6_7 : boxB 6 7 = true := by decide +kernel
theorem bx_6_8 : boxB 6 8 = true := by decide +kernel
theorem bx_7_1 : boxB 7 1 = true := by decide +kernel
theorem bx_7_2 : boxB 7 2 = true := by decide +kernel
theorem bx_7_3 : boxB 7 3 = true := by decide +kernel
theorem bx_7_4 : boxB 7 4 = true := by decide +kernel
theorem bx_7_5 : boxB 7 5 = true := by decide +kernel
theorem bx_7_6 : boxB 7 6 = true := by decide +kernel
theorem bx_7_7 : boxB 7 7 = true := by decide +kernel
theorem bx_7_8 : boxB 7 8 = true := by decide +kernel
theorem bx_8_1 : boxB 8 1 = true := by decide +kernel
theorem bx_8_2 : boxB 8 2 = true := by decide +kernel
theorem bx_8_3 : boxB 8 3 = true := by decide +kernel
theorem bx_8_4 : boxB 8 4 = true := by decide +kernel
theorem bx_8_5 : boxB 8 5 = true := by decide +kernel
theorem bx_8_6 : boxB 8 6 = true := by decide +kernel
theorem bx_8_7 : boxB 8 7 = true := by decide +kernel
theorem bx_8_8 : boxB 8 8 = true := by decide +kernel
theorem box_all {w h : Int} (hW : 0 < w) (hW' : w ≤ 8) (hH : 0 < h) (hH' : h ≤ 8) : boxB w h = true := by
  have c : ∀ x : Int, 0 < x → x ≤ 8 → x = 1 ∨ x = 2 ∨ x = 3 ∨ x = 4 ∨ x = 5 ∨ x = 6 ∨ x = 7 ∨ x = 8 := fun x _ _ => by omega
  rcases c w hW hW' with rfl | rfl | rfl | rfl | rfl | rfl | rfl | rfl <;> rcases c h hH hH' with rfl | rfl | rfl | rfl | rfl | rfl | rfl | rfl
  · exact bx_1_1
  · exact bx_1_2
  · exact bx_1_3
  · exact bx_1_4
  · exact bx_1_5
  · exact bx_1_6
  · exact bx_1_7
  · exact bx_1_8
  · exact bx_2_1
  · exact bx_2_2
  · exact bx_2_3
  · exact bx_2_4
  · exact bx_2_5
  · exact bx_2_6
  · exact bx_2_7
  · exact bx_2_8
  · exact bx_3_1
  · exact bx_3_2
  · exact bx_3_3
  · exact bx_3_4
  · exact bx_3_5
  · exact bx_3_6
  · exact bx_3_7
  · exact bx_3_8
  · exact bx_4_1
  · exact bx_4_2
  · exact bx_4_3
  · exact bx_4_4
  · exact bx_4_5
  · exact bx_4_6
  · exact bx_4_7
  · exact bx_4_8
  · exact bx_5_1
  · exact bx_5_2
  · exact bx_5_3
  · exact bx_5_4
  · exact bx_5_5
  · exact bx_5_6
  · exact bx_5_7
  · exact bx_5_8
  · exact bx_6_1
  · exact bx_6_2
  · exact bx_6_3
  · exact bx_6_4
  · exact bx_6_5
  · exact bx_6_6
  · exact bx_6_7
  · exact bx_6_8
  · exact bx_7_1
  · exact bx_7_2
  · exact bx_7_3
  · exact bx_7_4
  · exact bx_7_5
  · exact bx_7_6
  · exact bx_7_7
  · exact bx_7_8
  · exact bx_8_1
  · exact bx_8_2
  · exact bx_8_3
  · exact bx_8_4
  · exact bx_8_5
  · exact bx_8_6
  · exact bx_8_7
  · exact bx_8_8
theorem f_box {W H : Int} (hW : 0 < W) (hW' : W ≤ 8) (hH : 0 < H) (hH' : H ≤ 8) : ∃ d, F_box [.int W, .int H] = .ok (.im d) ∧ F__law_box_right [d, .int W, .int H] = .ok (.im (.bl true)) := by
  have h2 := box_all hW hW' hH hH'
  unfold boxB at h2
  split at h2
  · rename_i d e
    split at h2
    · rename_i e2
      exact ⟨d, e, e2⟩
    · cases h2
  · cases h2
end Law

set_option maxRecDepth 100000
set_option maxHeartbeats 4000000
namespace Law
open PySem L2 DL
noncomputable def lwBody : DSt → M O := (sSeq (sSet 5 (eCall F__law_numbers (aCons (eVar 4) (aCons (eC (.int 6)) aNil))))
      (sSeq (sSet 6 (eTup (aCons (eCall F__law_part (aCons (eVar 2) (aCons (eOp gIx (eVar 5) (eC (.int 0))) (aCons (eOp gIx (eVar 5) (eC (.int 1))) (aCons (eC (.int 1000)) aNil))))) (aCons (eCall F__law_part (aCons (eVar 3) (aCons (eOp gIx (eVar 5) (eC (.int 2))) (aCons (eOp gIx (eVar 5) (eC (.int 3))) (aCons (eC (.int 1000)) aNil))))) aNil))))
      (sSeq (sSet 7 (eOp DL.gSub (eOp gMod (eOp gIx (eVar 5) (eC (.int 4))) (eC (.int 41))) (eC (.int 20))))
      (sSeq (sSet 8 (eOp DL.gSub (eOp gMod (eOp gIx (eVar 5) (eC (.int 5))) (eC (.int 41))) (eC (.int 20))))
      (sSeq (sSet 9 (eCall F_image_at (aCons (eVar 2) (aCons (eVar 3) (aCons (eVar 6) (aCons (eTup (aCons (eVar 7) (aCons (eVar 8) aNil))) aNil))))))
      (sSeq (sIf (DL.tO (DL.tN (DL.tB (eCall F__law_is_point (aCons (eVar 9) aNil)))) (DL.tB (eOp gNe (eVar 9) (eCall F__law_folded (aCons (eVar 2) (aCons (eVar 3) (aCons (eVar 6) (aCons (eVar 7) (aCons (eVar 8) aNil))))))))) (sRet (eC (.bl false))) sNil)
      (sSeq (sIf (DL.tB (eOp gNe (eCall F_image_at (aCons (eVar 2) (aCons (eVar 3) (aCons (eVar 6) (aCons (eTup (aCons (eC (.int 0)) (aCons (eC (.int 0)) aNil))) aNil))))) (eVar 6))) (sRet (eC (.bl false))) sNil)
      (sSeq (sIf (DL.tB (eOp gNe (eCall F_image_at (aCons (eVar 2) (aCons (eVar 3) (aCons (eVar 6) (aCons (eTup (aCons (eOp gPlus (eVar 7) (eC (.int 1))) (aCons (eVar 8) aNil))) aNil))))) (eCall F__law_mirrored (aCons (eVar 9) (aCons (eC (.int 0)) (aCons (eOp gTimes (eOp gPlus (eVar 7) (eC (.int 1))) (eVar 2)) aNil)))))) (sRet (eC (.bl false))) sNil)
      (sSeq (sIf (DL.tB (eOp gNe (eCall F_image_at (aCons (eVar 2) (aCons (eVar 3) (aCons (eVar 6) (aCons (eTup (aCons (eVar 7) (aCons (eOp gPlus (eVar 8) (eC (.int 1))) aNil))) aNil))))) (eCall F__law_mirrored (aCons (eVar 9) (aCons (eC (.int 1)) (aCons (eOp gTimes (eOp gPlus (eVar 8) (eC (.int 1))) (eVar 3)) aNil)))))) (sRet (eC (.bl false))) sNil)
      (sIf (DL.tN (DL.tB (eChain gLt gLt (eOp gTimes (eOp gTimes (eVar 7) (eVar 2)) (eOp gIx (eOp gIx (eVar 9) (eC (.int 0))) (eC (.int 1)))) (eOp gIx (eOp gIx (eVar 9) (eC (.int 0))) (eC (.int 0))) (eOp gTimes (eOp gTimes (eOp gPlus (eVar 7) (eC (.int 1))) (eVar 2)) (eOp gIx (eOp gIx (eVar 9) (eC (.int 0))) (eC (.int 1))))))) (sRet (eC (.bl false))) sNil))))))))))
theorem p_ne {a b c d : Int} : gNe (pD a b c d) (pD a b c d) = .ok (.bl false) := by simp [gNe, pD, nD, D.dep, D.deps, D.eq, D.eqs]
theorem ixe {es : List Int} {k : Nat} {x : Int} (h : es[k]? = some x) : gIx (.lst (es.map D.int)) (.int (k : Int)) = .ok (.int x) := ix_nat _ _ _ (by rw [List.getElem?_map, h]; rfl)
theorem lw_turn {W H c : Int} (hW : 0 < W) (hW' : W ≤ 8) (hH : 0 < H) (hH' : H ≤ 8) (s0 s1 s5 s6 s7 s8 s9 : Option S) :
    ∃ w5 w6 w7 w8 w9, lwBody [s0, s1, some (.im (.int W)), some (.im (.int H)), some (.im (.int c)), s5, s6, s7, s8, s9] = .ok (.nx [s0, s1, some (.im (.int W)), some (.im (.int H)), some (.im (.int c)), w5, w6, w7, w8, w9]) := by
  obtain ⟨es, hl, ho, en⟩ := f_numbers c 6 (by decide)
  have en : F__law_numbers [.int c, .int 6] = .ok (.ow (es.map D.int)) := en
  obtain ⟨e0, e1, e2, e3, e4, e5, rfl⟩ : ∃ e0 e1 e2 e3 e4 e5, es = [e0, e1, e2, e3, e4, e5] := by
    match es, hl with
    | [e0, e1, e2, e3, e4, e5], _ => exact ⟨e0, e1, e2, e3, e4, e5, rfl⟩
  obtain ⟨a, b, ep1, hx⟩ := f_part hW hW' (ho e0 (by simp)) (ho e1 (by simp))
  obtain ⟨p, q, ep2, hy⟩ := f_part hH hH' (ho e2 (by simp)) (ho e3 (by simp))
  have m1 : 0 ≤ e4 % 41 := Int.emod_nonneg _ (by decide)
  have m2 : e4 % 41 < 41 := Int.emod_lt_of_pos _ (by decide)
  have m3 : 0 ≤ e5 % 41 := Int.emod_nonneg _ (by decide)
  have m4 : e5 % 41 < 41 := Int.emod_lt_of_pos _ (by decide)
  have g4 := gM (i := e4) (j := 41) (by decide)
  have g5 := gM (i := e5) (j := 41) (by decide)
  obtain ⟨I, hI⟩ : ∃ I, I = e4 % 41 - 20 := ⟨_, rfl⟩
  obtain ⟨J, hJ⟩ : ∃ J, J = e5 % 41 - 20 := ⟨_, rfl⟩
  have x0 : gIx (.lst ([e0, e1, e2, e3, e4, e5].map D.int)) (.int 0) = .ok (.int e0) := ixe (k := 0) rfl
  have x1 : gIx (.lst ([e0, e1, e2, e3, e4, e5].map D.int)) (.int 1) = .ok (.int e1) := ixe (k := 1) rfl
  have x2 : gIx (.lst ([e0, e1, e2, e3, e4, e5].map D.int)) (.int 2) = .ok (.int e2) := ixe (k := 2) rfl
  have x3 : gIx (.lst ([e0, e1, e2, e3, e4, e5].map D.int)) (.int 3) = .ok (.int e3) := ixe (k := 3) rfl
  have x4 : gIx (.lst ([e0, e1, e2, e3, e4, e5].map D.int)) (.int 4) = .ok (.int e4) := ixe (k := 4) rfl
  have x5 : gIx (.lst ([e0, e1, e2, e3, e4, e5].map D.int)) (.int 5) = .ok (.int e5) := ixe (k := 5) rfl
  generalize [e0, e1, e2, e3, e4, e5].map D.int = L at en x0 x1 x2 x3 x4 x5
  have hb1 := img_bd hx hW hW' (i := I) (by omega) (by omega)
  have hb2 := img_bd hy hH hH' (i := J) (by omega) (by omega)
  have i1 : -1000 ≤ (I + 1) * W ∧ (I + 1) * W ≤ 1000 := by
    have h1 : (I + 1) * W ≤ 21 * W := Int.mul_le_mul_of_nonneg_right (by omega) (by omega)
    have h2 : (-20) * W ≤ (I + 1) * W := Int.mul_le_mul_of_nonneg_right (by omega) (by omega)
    omega
  have i0 : -1000 ≤ I * W ∧ I * W ≤ 1000 := by
    have h1 : I * W ≤ 21 * W := Int.mul_le_mul_of_nonneg_right (by omega) (by omega)
    have h2 : (-20) * W ≤ I * W := Int.mul_le_mul_of_nonneg_right (by omega) (by omega)
    omega
  have j1 : -1000 ≤ (J + 1) * H ∧ (J + 1) * H ≤ 1000 := by
    have h1 : (J + 1) * H ≤ 21 * H := Int.mul_le_mul_of_nonneg_right (by omega) (by omega)
    have h2 : (-20) * H ≤ (J + 1) * H := Int.mul_le_mul_of_nonneg_right (by omega) (by omega)
    omega
  have t1 := gT (i := I + 1) (j := W) (smI (by omega) (by omega)) (smI (by omega) (by omega))
  have t0 := gT (i := I) (j := W) (smI (by omega) (by omega)) (smI (by omega) (by omega))
  have t2 := gT (i := J + 1) (j := H) (smI (by omega) (by omega)) (smI (by omega) (by omega))
  have hb := hx.pos
  have hb' := hx.top
  have t3 := gT (i := I * W) (j := b) (smI (by omega) (by omega)) (smI (by omega) (by omega))
  have t4 := gT (i := (I + 1) * W) (j := b) (smI (by omega) (by omega)) (smI (by omega) (by omega))
  obtain ⟨in1, in2⟩ := img_in hx hW I
  have c0 := f_img hx hy hW hW' hH hH' (i := I) (j := J) (by omega) (by omega) (by omega) (by omega)
  have c1 := f_img hx hy hW hW' hH hH' (i := 0) (j := 0) (by omega) (by omega) (by omega) (by omega)
  have c2 := f_img hx hy hW hW' hH hH' (i := I + 1) (j := J) (by omega) (by omega) (by omega) (by omega)
  have c3 := f_img hx hy hW hW' hH hH' (i := I) (j := J + 1) (by omega) (by omega) (by omega) (by omega)
  have c4 := f_folded hx hy hW hW' hH hH' (i := I) (j := J) (by omega) (by omega) (by omega) (by omega)
  have c5 := f_isp hb hb' (img_cop (s := W) hx.cop I) hy.pos hy.top (img_cop (s := H) hy.cop J)
  have c6 := f_mir0 (c := img H p q J) (d := q) (L := (I + 1) * W) hb hb' (img_cop (s := W) hx.cop I) (by omega) (by omega) (by omega) (by omega)
  have c7 := f_mir1 (a := img W a b I) (b := b) (L := (J + 1) * H) hy.pos hy.top (img_cop (s := H) hy.cop J) (by omega) (by omega) (by omega) (by omega)
  rw [img_zero, img_zero] at c1
  rw [← img_succ] at c6 c7
  refine ⟨some (.im (.lst L)), some (.im (pD a b p q)), some (.im (.int I)), some (.im (.int J)), some (.im (pD (img W a b I) b (img H p q J) q)), ?_⟩
  generalize img W a b I = X at c0 c3 c4 c5 c6 c7 in1 in2 ⊢
  generalize img H p q J = Y at c0 c2 c4 c5 c6 c7 ⊢
  unfold lwBody
  refine go (set_ok (call_ok (aC rfl (a1 rfl)) en rfl)) (go (set_ok (d := pD a b p q) ?_) (go (set_ok (d := .int I) ?_) (go (set_ok (d := .int J) ?_) (go (set_ok (call_ok (aC rfl (aC rfl (aC rfl (a1 (d := .tup [.int I, .int J]) rfl)))) c0 rfl)) ?_))))
  · unfold eTup
    rw [aC (call_ok (aC (d := .int W) rfl (aC (d := .int e0) (op_ok rfl rfl x0) (aC (d := .int e1) (op_ok rfl rfl x1) (a1 rfl)))) ep1 rfl) (a1 (call_ok (aC (d := .int H) rfl (aC (d := .int e2) (op_ok rfl rfl x2) (aC (d := .int e3) (op_ok rfl rfl x3) (a1 rfl)))) ep2 rfl))]
    rfl
  · refine op_ok (op_ok (op_ok rfl rfl x4) rfl g4) rfl ?_
    rw [hI]; rfl
  · refine op_ok (op_ok (op_ok rfl rfl x5) rfl g5) rfl ?_
    rw [hJ]; rfl
  · refine go (if_skip (tO_ff (tN_t (tB_b (call_ok (a1 rfl) c5 rfl))) (tB_b (op_ok rfl (call_ok (aC rfl (aC rfl (aC rfl (aC rfl (a1 rfl))))) c4 rfl) p_ne)))) (go (if_skip (tB_b (op_ok (call_ok (aC rfl (aC rfl (aC rfl (a1 (d := .tup [.int 0, .int 0]) rfl)))) c1 rfl) rfl p_ne)))
      (go (if_skip (tB_b (op_ok (call_ok (aC rfl (aC rfl (aC rfl (a1 (d := .tup [.int (I + 1), .int J]) rfl)))) c2 rfl) (call_ok (aC rfl (aC rfl (a1 (op_ok (x := .int (I + 1)) rfl rfl t1)))) c6 rfl) p_ne)))
      (go (if_skip (tB_b (op_ok (call_ok (aC rfl (aC rfl (aC rfl (a1 (d := .tup [.int I, .int (J + 1)]) rfl)))) c3 rfl) (call_ok (aC rfl (aC rfl (a1 (op_ok (x := .int (J + 1)) rfl rfl t2)))) c7 rfl) p_ne)))
      (if_skip (tN_t (tB_b (b := true) ?_))))))
    have f1 : ∀ sd : DSt, sd[9]? = some (some (.im (pD X b Y q))) → eOp gIx (eOp gIx (eVar 9) (eC (.int 0))) (eC (.int 1)) sd = .ok (.int b) := fun sd h => by
      simp [eOp, eVar, h, eC, gIx, pD, nD, atI0, atI1]
    have f0 : ∀ sd : DSt, sd[9]? = some (some (.im (pD X b Y q))) → eOp gIx (eOp gIx (eVar 9) (eC (.int 0))) (eC (.int 0)) sd = .ok (.int X) := fun sd h => by
      simp [eOp, eVar, h, eC, gIx, pD, nD, atI0]
    unfold eChain
    rw [op_ok (op_ok rfl rfl t0) (f1 _ rfl) t3, M.bind_ok, f0 _ rfl, M.bind_ok]
    show (M.ok (D.bl (decide (I * W * b < X)))).bind _ = _
    rw [M.bind_ok, decide_eq_true in1]
    have ha : asB (D.bl true) = .ok true := rfl
    rw [ha, M.bind_ok, if_pos rfl, op_ok (op_ok (x := .int (I + 1)) rfl rfl t1) (f1 _ rfl) t4, M.bind_ok]
    show M.ok (D.bl (decide (X < (I + 1) * W * b))) = _
    rw [decide_eq_true in2]
theorem lw_loop {W H : Int} (hW : 0 < W) (hW' : W ≤ 8) (hH : 0 < H) (hH' : H ≤ 8) (s0 s1 : Option S) : ∀ (cs : List Int) (s4 s5 s6 s7 s8 s9 : Option S),
    ∃ w4 w5 w6 w7 w8 w9, loopD (gNm 4) lwBody (cs.map D.int) [s0, s1, some (.im (.int W)), some (.im (.int H)), s4, s5, s6, s7, s8, s9] = .ok (.nx [s0, s1, some (.im (.int W)), some (.im (.int H)), w4, w5, w6, w7, w8, w9])
  | [], s4, s5, s6, s7, s8, s9 => ⟨s4, s5, s6, s7, s8, s9, rfl⟩
  | c :: cs, s4, s5, s6, s7, s8, s9 => by
    obtain ⟨w5, w6, w7, w8, w9, e⟩ := lw_turn (c := c) hW hW' hH hH' s0 s1 s5 s6 s7 s8 s9
    obtain ⟨u4, u5, u6, u7, u8, u9, ih⟩ := lw_loop hW hW' hH hH' s0 s1 cs (some (.im (.int c))) w5 w6 w7 w8 w9
    exact ⟨u4, u5, u6, u7, u8, u9, (loop_nx (g := gNm 4) rfl e).trans ih⟩
theorem cut_2_42 (ns : List Int) : ∃ cs : List Int, cutD (ns.map D.int) (some 2) (some 42) = cs.map D.int ∧ cs.length ≤ 40 := by
  have e1 : HT.sIx (ns.map D.int).length 0 (some (2 : Int)) = min 2 (ns.map D.int).length := HT.sIx_nat _ _ 2
  have e2 : HT.sIx (ns.map D.int).length (ns.map D.int).length (some (42 : Int)) = min 42 (ns.map D.int).length := HT.sIx_nat _ _ 42
  refine ⟨(ns.drop (min 2 (ns.map D.int).length)).take (min 42 (ns.map D.int).length - min 2 (ns.map D.int).length), ?_, ?_⟩
  · unfold cutD
    rw [e1, e2, ← List.map_drop, ← List.map_take]
  · rw [List.length_take]; omega
theorem law_true (ns : List Int) (_ : ns.length ≤ 63) : F_law [.lst (ns.map D.int)] = .ok (.im (.bl true)) := by
  have f0 : F__law_cell [.lst (ns.map D.int), .int 0] = .ok (.im (.int (cz ns 0))) := f_cell ns 0
  have f1 : F__law_cell [.lst (ns.map D.int), .int 1] = .ok (.im (.int (cz ns 1))) := f_cell ns 1
  obtain ⟨es, hl, ho, en⟩ := f_numbers (cz ns 0) 1 (by decide)
  have en : F__law_numbers [.int (cz ns 0), .int 1] = .ok (.ow (es.map D.int)) := en
  obtain ⟨N, rfl⟩ : ∃ N, es = [N] := by
    match es, hl with
    | [N], _ => exact ⟨N, rfl⟩
  obtain ⟨cs, hcut, hcs⟩ := cut_2_42 ns
  have m1 : 0 ≤ N % 64 := Int.emod_nonneg _ (by decide)
  have m2 : N % 64 < 64 := Int.emod_lt_of_pos _ (by decide)
  have g1 := gM (i := N) (j := 64) (by decide)
  have g2 := gM (i := N % 64) (j := 8) (by decide)
  have g3 := gFd (i := N % 64) (j := 8) (by decide) (sm30 (by decide) (by decide))
  obtain ⟨W, hWe⟩ : ∃ W : Int, W = 1 + N % 64 % 8 := ⟨_, rfl⟩
  obtain ⟨H, hHe⟩ : ∃ H : Int, H = 1 + N % 64 / 8 := ⟨_, rfl⟩
  have hW : 0 < W := by omega
  have hW' : W ≤ 8 := by omega
  have hH : 0 < H := by omega
  have hH' : H ≤ 8 := by omega
  obtain ⟨d, b1, b2⟩ := f_box hW hW' hH hH'
  have x0 : gIx (.lst ([N].map D.int)) (.int 0) = .ok (.int N) := ixe (k := 0) rfl
  obtain ⟨w4, w5, w6, w7, w8, w9, el⟩ := lw_loop hW hW' hH hH' (some (.im (.lst (ns.map D.int)))) (some (.im (.int (N % 64)))) (cz ns 1 :: cs) none none none none none none
  have hf : few (D.int (cz ns 1) :: cs.map D.int) = true := few_of (by rw [List.length_cons, List.length_map]; omega)
  have q1 : eOp gPlus (eC (.int 1)) (eOp gMod (eVar 1) (eC (.int 8))) [some (.im (.lst (ns.map D.int))), some (.im (.int (N % 64))), none, none, none, none, none, none, none, none] = .ok (.int W) := by
    refine op_ok rfl (op_ok rfl rfl g2) ?_
    rw [hWe]; rfl
  have q2 : eOp gPlus (eC (.int 1)) (eOp gFdiv (eVar 1) (eC (.int 8))) [some (.im (.lst (ns.map D.int))), some (.im (.int (N % 64))), some (.im (.int W)), none, none, none, none, none, none, none] = .ok (.int H) := by
    refine op_ok rfl (op_ok rfl rfl g3) ?_
    rw [hHe]; rfl
  generalize ns.map D.int = L at f0 f1 hcut el q1 q2 ⊢
  show fnD 1 9 _ [D.lst L] = _
  rw [fn1]
  refine fin_of (go (set_ok (d := .int (N % 64)) (op_ok (op_ok (call_ok (aC (call_ok (aC rfl (a1 rfl)) f0 rfl) (a1 rfl)) en rfl) rfl x0) rfl g1)) (go (set_ok q1) (go (set_ok q2) (go (if_skip (tN_t (tB_b (call_ok (aC (d := d) ?_ (aC rfl (a1 rfl))) b2 rfl)))) (go ((sFor_ok (ds := (cz ns 1 :: cs).map D.int) ?_).trans el) (ret_ok rfl))))))
  · unfold eCallX
    rw [aC (d := .int W) rfl (a1 (d := .int H) rfl), M.bind_ok, b1]
    rfl
  · unfold iSeq
    rw [op_ok (x := .lst [.int (cz ns 1)]) (y := .lst (cs.map D.int)) (r := .ok (.lst (D.int (cz ns 1) :: cs.map D.int)))]
    · rfl
    · unfold eLst
      rw [a1 (call_ok (aC rfl (a1 rfl)) f1 rfl)]
      rfl
    · simp only [eSl, eVar, oSome, eC, M.bind_ok, List.cons_append, List.getElem?_cons_zero, gSl, List.set_cons_zero, List.set_cons_succ, hcut]
    · show (if few ([D.int (cz ns 1)] ++ cs.map D.int) = true then _ else _) = _
      rw [List.singleton_append, hf]
      rfl
end Law

open PySem PySem.W PyProof.Rows
-- LAST
set_option maxRecDepth 100000 in
set_option maxHeartbeats 0 in
theorem PySem.Challenge.cw_selfsight_k28_boxes_and_images_holds : PySem.Challenge.rw_selfsight_k28_boxes_and_images.Holds := by
  w_on; o_law; k_head; (case hw => w_witness2)
  k_fill
  refine Law.walk (l := PySem.Challenge.rw_selfsight_k28_boxes_and_images) rfl rfl Law.law_true (fun w h Y => PySem.W.kIn_of Y) ?F
  case F =>
    intro w mg fa h KX G hmg
    refine' Law.all_mk KX G hmg ?a0 ?l0 ?c0 ?k0 ?a1 ?l1 ?c1 ?k1 ?a2 ?l2 ?c2 ?k2 ?a3 ?l3 ?c3 ?k3 ?a4 ?l4 ?c4 ?k4 ?a5 ?l5 ?c5 ?k5 ?a6 ?l6 ?c6 ?k6 ?a7 ?l7 ?c7 ?k7 ?a8 ?l8 ?c8 ?k8 ?a9 ?l9 ?c9 ?k9 ?a10 ?l10 ?c10 ?k10 ?a11 ?l11 ?c11 ?k11 ?a12 ?l12 ?c12 ?k12 ?a13 ?l13 ?c13 ?k13 ?a14 ?l14 ?c14 ?k14 ?a15 ?l15 ?c15 ?k15 ?a16 ?l16 ?c16 ?k16 ?a17 ?l17 ?c17 ?k17 ?a18 ?l18 ?c18 ?k18 ?a19 ?l19 ?c19 ?k19 ?a20 ?l20 ?c20 ?k20 ?a21 ?l21 ?c21 ?k21 ?a22 ?l22 ?c22 ?k22 ?a23 ?l23 ?c23 ?k23 ?a24 ?l24 ?c24 ?k24 ?ya_NoHall ?yd_NoHall ?yi_NoHall ?yl_NoHall ?yc_NoHall ?yk_NoHall ?yp_NoHall ?yf_NoHall ?yn_NoHall_side ?ye_NoHall ?yx_NoHall ?yt_NoHall ?yg_GREATEST_SIZE ?yg_FACES ?yb_FACES ?z_abs ?z_isinstance ?z_int ?z_bool ?z_enumerate ?z_sorted ?z_tuple ?z_range ?z_len ?z_all ?z_list ?z_any
    (case a0 => k_is)
    (case l0 => k_is)
    (case c0 => k_is)
    (case k0 => k_is)
    (case a1 => k_is)
    (case l1 => k_is)
    (case c1 => k_is)
    (case k1 => k_is)
    (case a2 => k_is)
    (case l2 => k_is)
    (case c2 => k_is)
    (case k2 => k_is)
    (case a3 => k_is)
    (case l3 => k_is)
    (case c3 => k_is)
    (case k3 => k_is)
    (case a4 => k_is)
    (case l4 => k_is)
    (case c4 => k_is)
    (case k4 => k_is)
    (case a5 => k_is)
    (case l5 => k_is)
    (case c5 => k_is)
    (case k5 => k_is)
    (case a6 => k_is)
    (case l6 => k_is)
    (case c6 => k_is)
    (case k6 => k_is)
    (case a7 => k_is)
    (case l7 => k_is)
    (case c7 => k_is)
    (case k7 => k_is)
    (case a8 => k_is)
    (case l8 => k_is)
    (case c8 => k_is)
    (case k8 => k_is)
    (case a9 => k_is)
    (case l9 => k_is)
    (case c9 => k_is)
    (case k9 => k_is)
    (case a10 => k_is)
    (case l10 => k_is)
    (case c10 => k_is)
    (case k10 => k_is)
    (case a11 => k_is)
    (case l11 => k_is)
    (case c11 => k_is)
    (case k11 => k_is)
    (case a12 => k_is)
    (case l12 => k_is)
    (case c12 => k_is)
    (case k12 => k_is)
    (case a13 => k_is)
    (case l13 => k_is)
    (case c13 => k_is)
    (case k13 => k_is)
    (case a14 => k_is)
    (case l14 => k_is)
    (case c14 => k_is)
    (case k14 => k_is)
    (case a15 => k_is)
    (case l15 => k_is)
    (case c15 => k_is)
    (case k15 => k_is)
    (case a16 => k_is)
    (case l16 => k_is)
    (case c16 => k_is)
    (case k16 => k_is)
    (case a17 => k_is)
    (case l17 => k_is)
    (case c17 => k_is)
    (case k17 => k_is)
    (case a18 => k_is)
    (case l18 => k_is)
    (case c18 => k_is)
    (case k18 => k_is)
    (case a19 => k_is)
    (case l19 => k_is)
    (case c19 => k_is)
    (case k19 => k_is)
    (case a20 => k_is)
    (case l20 => k_is)
    (case c20 => k_is)
    (case k20 => k_is)
    (case a21 => k_is)
    (case l21 => k_is)
    (case c21 => k_is)
    (case k21 => k_is)
    (case a22 => k_is)
    (case l22 => k_is)
    (case c22 => k_is)
    (case k22 => k_is)
    (case a23 => k_is)
    (case l23 => k_is)
    (case c23 => k_is)
    (case k23 => k_is)
    (case a24 => k_is)
    (case l24 => k_is)
    (case c24 => k_is)
    (case k24 => k_is)
    (case ya_NoHall => k_is)
    (case yd_NoHall => k_is)
    (case yi_NoHall => k_is)
    (case yl_NoHall => k_is)
    (case yc_NoHall => k_is)
    (case yk_NoHall => k_is)
    (case yp_NoHall => k_is)
    (case yf_NoHall => k_is)
    (case yn_NoHall_side => k_is)
    (case ye_NoHall => kernel_rfl)
    (case yx_NoHall => kernel_rfl)
    (case yt_NoHall => kernel_rfl)
    (case yg_GREATEST_SIZE => k_is)
    (case yg_FACES => k_is)
    (case yb_FACES => kernel_rfl)
    (case z_abs => k_is)
    (case z_isinstance => k_is)
    (case z_int => k_is)
    (case z_bool => k_is)
    (case z_enumerate => k_is)
    (case z_sorted => k_is)
    (case z_tuple => k_is)
    (case z_range => k_is)
    (case z_len => k_is)
    (case z_all => k_is)
    (case z_list => k_is)
    (case z_any => k_is)

