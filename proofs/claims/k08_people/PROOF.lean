import PyProof.Rows.All
import Wide.All
import OpenK.AllK
import Wide.FinOn
import Lean
import PyProof.EqAt
import PyProof.EqKinds
import PyProof.TupleCall
import PyProof.NeKinds
import PyProof.NsDelKeeps
import PyProof.ExcArgs
import PyProof.ExcAttrAll.ValueError
import PySem.Challenge.RW_selfsight_k08_people
set_option Elab.async false
set_option linter.all false
set_option maxRecDepth 100000
namespace L2
open PySem PySem.Spec PyProof.Rows

/-- a key: an int or a str -/
abbrev Key := Sum Int Str
def keyIs : Key → Value → Bool
  | .inl k, v => Value.isInt k v
  | .inr x, v => Value.isStrOf x v
def keyH (w : World) : Key → Int
  | .inl k => hashInt k
  | .inr x => hashStr w x
theorem keyIs_shape : ∀ {k : Key} {v : Value}, keyIs k v = true → (∃ i t, k = Sum.inl i ∧ v = Value.int i t) ∨ (∃ x t, k = Sum.inr x ∧ v = Value.str x t)
  | .inl i, v, h => by
    obtain ⟨t, e⟩ := Value.isInt_shape (k := i) (v := v) h
    exact .inl ⟨i, t, rfl, e⟩
  | .inr x, v, h => by
    obtain ⟨t, e⟩ := Value.isStrOf_shape (x := x) (v := v) h
    exact .inr ⟨x, t, rfl, e⟩
theorem keyIs_int (i : Int) (t : Tok) : keyIs (.inl i) (.int i t) = true := by simp [keyIs, Value.isInt]
theorem keyIs_str (x : Str) (t : Tok) : keyIs (.inr x) (.str x t) = true := by simp [keyIs, Value.isStrOf]
theorem key_ll (a b : Int) : decide ((Sum.inl a : Key) = Sum.inl b) = (a == b) := by
  by_cases e : a = b
  · subst e; simp
  · have h : ¬ (Sum.inl a : Key) = Sum.inl b := fun q => e (Sum.inl.inj q)
    rw [decide_eq_false h]
    exact (beq_eq_false_iff_ne.mpr e).symm
theorem key_rr (a b : Str) : decide ((Sum.inr a : Key) = Sum.inr b) = decide (a = b) := by
  by_cases e : a = b
  · subst e; simp
  · have h : ¬ (Sum.inr a : Key) = Sum.inr b := fun q => e (Sum.inr.inj q)
    rw [decide_eq_false h, decide_eq_false e]
theorem key_lr (a : Int) (b : Str) : decide ((Sum.inl a : Key) = Sum.inr b) = false := decide_eq_false (fun q => nomatch q)
theorem key_rl (a : Str) (b : Int) : decide ((Sum.inr a : Key) = Sum.inl b) = false := decide_eq_false (fun q => nomatch q)

def mixKind (prog : Program) (w : World) : PySem.KeyKind prog w Key where
  is := keyIs
  hash := keyH w
  inj := fun v a b ha hb => by
    rcases keyIs_shape ha with ⟨i, t, rfl, rfl⟩ | ⟨x, t, rfl, rfl⟩
    · rcases keyIs_shape hb with ⟨j, u, rfl, e⟩ | ⟨y, u, rfl, e⟩
      · injection e with e1 _; rw [e1]
      · exact nomatch e
    · rcases keyIs_shape hb with ⟨j, u, rfl, e⟩ | ⟨y, u, rfl, e⟩
      · exact nomatch e
      · injection e with e1 _; rw [e1]
  byValue := fun k v h => by
    rcases keyIs_shape h with ⟨i, t, rfl, rfl⟩ | ⟨x, t, rfl, rfl⟩ <;> rfl
  pyHash := fun hv h => by
    rcases keyIs_shape hv with ⟨i, t, rfl, rfl⟩ | ⟨x, t, rfl, rfl⟩
    · exact wpAny_pyHash_int h
    · exact wpAny_pyHash_str h
  eqBool := fun hu hv h => by
    rcases keyIs_shape hu with ⟨i, t, rfl, rfl⟩ | ⟨x, t, rfl, rfl⟩
    · rcases keyIs_shape hv with ⟨j, u, rfl, rfl⟩ | ⟨y, u, rfl, rfl⟩
      · rw [key_ll] at h; exact wpAny_eqBool_int h
      · rw [key_lr] at h; exact SeqAt.EqAt.int_str i t y u _ _ _ _ h
    · rcases keyIs_shape hv with ⟨j, u, rfl, rfl⟩ | ⟨y, u, rfl, rfl⟩
      · rw [key_rl] at h; exact SeqAt.EqAt.str_int x t j u _ _ _ _ h
      · rw [key_rr] at h; exact wpAny_eqBool_str h
  «strs» := fun k x t v h => by
    rcases keyIs_shape h with ⟨i, u, rfl, e⟩ | ⟨y, u, rfl, e⟩
    · exact nomatch e
    · injection e with e1 _
      subst e1
      cases v <;> rfl

theorem mixKind_is (prog : Program) (w : World) (k : Key) (v : Value) : (mixKind prog w).is k v = keyIs k v := rfl
theorem mixKind_int (prog : Program) (w : World) (i : Int) (t : Tok) : (mixKind prog w).is (.inl i) (.int i t) = true := keyIs_int i t
theorem mixKind_str (prog : Program) (w : World) (x : Str) (t : Tok) : (mixKind prog w).is (.inr x) (.str x t) = true := keyIs_str x t
end L2

namespace L2
open PySem PySem.Spec PyProof.Rows

/-- a value, without the heap -/
inductive V where
  | non | bl (b : Bool) | int (i : Int) | str (x : Str) | byt (b : Array UInt8) | flt (b : UInt64) | ref (a : Addr) | ty (n : String)
  deriving DecidableEq

def RelV : V → Value → Prop
  | .non, u => u = Value.none
  | .bl b, u => u = Value.bool b
  | .int i, u => ∃ t, u = Value.int i t
  | .str x, u => ∃ t, u = Value.str x t
  | .byt b, u => ∃ t, u = Value.bytes b t
  | .flt b, u => ∃ t, u = Value.float b t
  | .ref a, u => u = Value.ref a
  | .ty n, u => u = Value.type n

abbrev Vals : List V → List Value → Prop := Paired RelV
theorem Vals.length {xs : List V} {us : List Value} (r : Vals xs us) : xs.length = us.length := Paired.length r
theorem Vals.get : ∀ {xs : List V} {us : List Value} {i : Nat} {x : V}, Vals xs us → xs[i]? = some x → ∃ u, us[i]? = some u ∧ RelV x u
  | _, _, _, _, .nil, e => by simp at e
  | _, _, 0, _, .cons r _, e => by simp at e; subst e; exact ⟨_, rfl, r⟩
  | _, _, i + 1, x, .cons _ t, e => by
    obtain ⟨u, h1, h2⟩ := Vals.get (i := i) (x := x) t (by simpa using e)
    exact ⟨u, by simpa using h1, h2⟩
theorem Vals.set {x : V} {u : Value} (r : RelV x u) : ∀ {xs : List V} {us : List Value} (i : Nat), Vals xs us → Vals (xs.set i x) (us.set i u)
  | _, _, _, .nil => .nil
  | _, _, 0, .cons _ t => .cons r t
  | _, _, i + 1, .cons q t => .cons q (Vals.set r i t)
theorem Vals.append : ∀ {xs ys : List V} {us ws : List Value}, Vals xs us → Vals ys ws → Vals (xs ++ ys) (us ++ ws)
  | _, _, _, _, .nil, s => s
  | _, _, _, _, .cons r t, s => .cons r (Vals.append t s)
theorem Vals.take : ∀ {xs : List V} {us : List Value} (n : Nat), Vals xs us → Vals (xs.take n) (us.take n)
  | _, _, 0, _ => .nil
  | _, _, _ + 1, .nil => .nil
  | _, _, n + 1, .cons r t => .cons r (Vals.take n t)
theorem Vals.drop : ∀ {xs : List V} {us : List Value} (n : Nat), Vals xs us → Vals (xs.drop n) (us.drop n)
  | _, _, 0, r => r
  | _, _, _ + 1, .nil => .nil
  | _, _, n + 1, .cons _ t => Vals.drop n t
theorem Vals.none_of : ∀ {xs : List V} {us : List Value} {i : Nat}, Vals xs us → xs[i]? = none → us[i]? = none := fun {xs us i} r e => by
  have h1 := r.length
  have h2 : xs.length ≤ i := List.getElem?_eq_none_iff.mp e
  exact List.getElem?_eq_none_iff.mpr (by omega)

def RelO : Option V → Option Value → Prop
  | some v, some u => RelV v u
  | none, none => True
  | _, _ => False
def KV {κ : Type} : List (κ × V) → List (κ × Value) → Prop := Paired fun (p : κ × V) (q : κ × Value) => p.1 = q.1 ∧ RelV p.2 q.2

/-- a key of a dict (00_mix): an int or a text -/
def kV : Key → V
  | .inl i => .int i
  | .inr x => .str x

/-- what stands at a tracked address -/
inductive HO where
  /-- a list -/
  | lst (xs : List V)
  /-- a tuple (never changes) -/
  | tup (xs : List V)
  /-- a dict whose keys are ints and texts; one whose keys are tuples of ints and texts (the empty one is both) -/
  | dK (kvs : List (Key × V)) | dT (kvs : List (List Key × V))
  /-- a set of ints: its members, its size -/
  | set (S : Int → Bool) (n : Nat)
  /-- an instance of the class at C, its dict at dx, its attributes -/
  | ins (C dx : Addr) (fs : List (Str × V))
  /-- the dict of the instance at x -/
  | own (x : Addr)
  /-- the dict of an exception -/
  | xd (fs : List (Str × V))
  /-- a bound method, f of x -/
  | met (f x : Addr)
  /-- a range object lo, lo + 1, .. below hi -/
  | rng (lo hi : Int)
  /-- a thing that is known to the object (the script; a dict while a loop walks it): read, never written while it is so -/
  | frz (o : Obj) (u : HO)
  /-- a code object's table -/
  | tbl (ps : Array Value)
  /-- any other thing, by what is true of its one object (a def of one's own: SetO a S n := HO.ext fun h => ..) -/
  | ext (φ : Heap → Prop)

abbrev Hp := Addr → Option HO
def upd (H : Hp) (a : Addr) (o : HO) : Hp := fun b => if b = a then some o else H b
theorem upd_same {H : Hp} {a : Addr} {o : HO} : upd H a o a = some o := by unfold upd; rw [if_pos rfl]
theorem upd_ne {H : Hp} {a b : Addr} {o : HO} (h : b ≠ a) : upd H a o b = H b := by unfold upd; rw [if_neg h]
theorem upd_upd {H : Hp} {a : Addr} {o u : HO} : upd (upd H a o) a u = upd H a u := by
  funext b; unfold upd; split <;> rfl
/-- two objects of different content stand apart -/
theorem ne_of {H : Hp} {a b : Addr} {o u : HO} (h : H a = some o) (h' : H b = some u) (d : o ≠ u) : a ≠ b := by
  intro e; subst e; rw [h] at h'; exact d (Option.some.inj h')
theorem ne_of_none {H : Hp} {a b : Addr} {o : HO} (h : H a = some o) (h' : H b = none) : a ≠ b := by
  intro e; subst e; rw [h] at h'; cases h'

section
variable (P : Program) (w : World)
def ObjOk (H : Hp) (h : Heap) (a : Addr) : HO → Prop
  | .lst xs => xs.length ≤ sizeLine ∧ ∃ (its : List Value) (n : Nat), Vals xs its ∧ h.get? a = some { cls := .type "list", data := .seq its.toArray n }
  | .tup xs => xs.length ≤ sizeLine ∧ ∃ its : List Value, Vals xs its ∧ IsTup h a its.toArray
  | .dK kvs => kvs.length ≤ sizeLine ∧ (a == sysModules) = false ∧ ∃ vs, KV kvs vs ∧ h.DictOf (mixKind P w) a vs
  | .dT kvs => kvs.length ≤ sizeLine ∧ (a == sysModules) = false ∧ ∃ xs : List (List Key × Addr × Value),
      Paired (fun (p : List Key × V) (q : List Key × Addr × Value) => p.1 = q.1 ∧ H q.2.1 = some (.tup (p.1.map kV)) ∧ RelV p.2 q.2.2) kvs xs ∧
      ∃ o es ep, h.get? a = some o ∧ o.ExactDict ∧ o.data = .dict es ep ∧ es.toList = xs.map (entryOfKey (tupleKind (mixKind P w))) ∧ (xs.map (·.1)).Nodup
  | .set S n => h.SetOf (intKind P w) a S n
  | .ins C dx fs => H dx = some (.own a) ∧ fs.length ≤ 1000 ∧ dx ≠ a ∧ h.get? a = some (PySem.W.instObj C dx) ∧
      ∃ mA, h.Ns1 dx mA ∧ (∀ f, RelO (fs.lookup f) (mA f)) ∧ PySem.Within mA (fs.map (·.1))
  | .own _ => ∃ o, h.get? a = some o
  | .xd fs => ∃ mA, h.Ns1 a mA ∧ ∀ f, RelO (fs.lookup f) (mA f)
  | .rng lo hi => ∃ t u v, h.get? a = some { cls := .type "range", data := .fields #[.int lo t, .int hi u, .int 1 v] }
  | .frz o u => h.get? a = some o ∧ ObjOk H h a u
  | .tbl ps => h.get? a = some { cls := .none, data := .fields ps }
  | .met f x => h.get? a = some (PySem.W.methodObj (.ref f) (.ref x))
  | .ext φ => φ h ∧ (∃ o, h.get? a = some o) ∧ ∀ h1 h2 : Heap, φ h1 → (∀ o, h1.get? a = some o → h2.get? a = some o) → φ h2
/-- the abstract heap is held -/
def HOk (H : Hp) (h : Heap) : Prop := ∀ a o, H a = some o → ObjOk P w H h a o
end

section
variable {P : Program} {w : World} {H H' : Hp} {h h' : Heap} {a : Addr} {o : HO}
theorem ObjOk.lt (x : ObjOk P w H h a o) : a < h.objs.size := by
  cases o with
  | lst xs => obtain ⟨_, _, _, _, e⟩ := x; exact Heap.lt_size e
  | tup xs => obtain ⟨_, _, _, p⟩ := x; exact p.lt
  | dK kvs => obtain ⟨_, _, _, _, o, _, _, e, _⟩ := x; exact Heap.lt_size e
  | dT kvs => obtain ⟨_, _, _, _, o, _, _, e, _⟩ := x; exact Heap.lt_size e
  | set S n => obtain ⟨o, _, _, _, e, _⟩ := x; exact Heap.lt_size e
  | ins C dx fs => obtain ⟨_, _, _, e, _⟩ := x; exact Heap.lt_size e
  | own y => obtain ⟨_, e⟩ := x; exact Heap.lt_size e
  | xd fs => obtain ⟨_, ⟨_, _, _, e, _⟩, _⟩ := x; exact Heap.lt_size e
  | rng lo hi => obtain ⟨_, _, _, e⟩ := x; exact Heap.lt_size e
  | frz ob u => obtain ⟨e, _⟩ := x; exact Heap.lt_size e
  | tbl ps => exact Heap.lt_size (show h.get? a = some _ from x)
  | met f y => exact Heap.lt_size (show h.get? a = some _ from x)
  | ext φ => obtain ⟨_, ⟨_, e⟩, _⟩ := x; exact Heap.lt_size e
theorem Paired.mapP {α β : Type} {F G : α → β → Prop} : ∀ {l₁ : List α} {l₂ : List β}, Paired F l₁ l₂ → (∀ a b, F a b → G a b) → Paired G l₁ l₂
  | _, _, .nil, _ => .nil
  | _, _, .cons r t, f => .cons (f _ _ r) (Paired.mapP t f)
theorem Paired.imp' {α β : Type} {F G : α → β → Prop} (f : ∀ a b, F a b → G a b) {l₁ : List α} {l₂ : List β} (r : Paired F l₁ l₂) : Paired G l₁ l₂ := Paired.mapP r f
/-- what an object's description leans on: its own object, its own dict, the tuples -/
theorem ObjOk.stay (x : ObjOk P w H h a o) (k : ∀ b u, (b = a ∨ H b = some (.own a)) → h.get? b = some u → h'.get? b = some u)
    (ho : ∀ b, H b = some (.own a) → H' b = some (.own a)) (ht : ∀ b xs, H b = some (.tup xs) → H' b = some (.tup xs)) : ObjOk P w H' h' a o := by
  induction o with
  | lst xs => obtain ⟨z, its, n, r, e⟩ := x; exact ⟨z, its, n, r, k _ _ (.inl rfl) e⟩
  | tup xs => obtain ⟨z, its, r, ob, e, c⟩ := x; exact ⟨z, its, r, ob, k _ _ (.inl rfl) e, c⟩
  | dK kvs => obtain ⟨z, y, vs, r, ob, es, ep, e, c⟩ := x; exact ⟨z, y, vs, r, ob, es, ep, k _ _ (.inl rfl) e, c⟩
  | dT kvs =>
    obtain ⟨z, y, xs, r, ob, es, ep, e, c⟩ := x
    exact ⟨z, y, xs, Paired.mapP r fun p q z => ⟨z.1, ht _ _ z.2.1, z.2.2⟩, ob, es, ep, k _ _ (.inl rfl) e, c⟩
  | set S n => obtain ⟨ob, es, ep, t, e, c⟩ := x; exact ⟨ob, es, ep, t, k _ _ (.inl rfl) e, c⟩
  | ins C dx fs =>
    obtain ⟨d, z, ne, e, mA, ⟨od, es, ep, e2, c⟩, r⟩ := x
    exact ⟨ho _ d, z, ne, k _ _ (.inl rfl) e, mA, ⟨od, es, ep, k _ _ (.inr d) e2, c⟩, r⟩
  | own y => obtain ⟨ob, e⟩ := x; exact ⟨ob, k _ _ (.inl rfl) e⟩
  | xd fs => obtain ⟨mA, ⟨od, es, ep, e, c⟩, r⟩ := x; exact ⟨mA, ⟨od, es, ep, k _ _ (.inl rfl) e, c⟩, r⟩
  | rng lo hi => obtain ⟨t, u, v, e⟩ := x; exact ⟨t, u, v, k _ _ (.inl rfl) e⟩
  | frz ob u ih => obtain ⟨e, q⟩ := x; exact ⟨k _ _ (.inl rfl) e, ih q⟩
  | tbl ps =>
    have e : h.get? a = some { cls := .none, data := .fields ps } := x
    show h'.get? a = some { cls := .none, data := .fields ps }
    exact k a _ (.inl rfl) e
  | met f y =>
    have e : h.get? a = some (PySem.W.methodObj (.ref f) (.ref y)) := x
    show h'.get? a = some (PySem.W.methodObj (.ref f) (.ref y))
    exact k a _ (.inl rfl) e
  | ext φ => obtain ⟨p, ⟨o, e⟩, st⟩ := x; exact ⟨st _ _ p fun o q => k _ _ (.inl rfl) q, ⟨o, k _ _ (.inl rfl) e⟩, st⟩
theorem HOk.lt (x : HOk P w H h) (e : H a = some o) : a < h.objs.size := (x a o e).lt
theorem HOk.fresh (x : HOk P w H h) (e : h.objs.size ≤ a) : H a = none := by
  cases q : H a with
  | none => rfl
  | some u => exact absurd (Nat.lt_of_lt_of_le (x.lt q) e) (Nat.lt_irrefl _)
/-- every object of the heap is kept -/
theorem HOk.kept (x : HOk P w H h) (k : ∀ b u, h.get? b = some u → h'.get? b = some u) : HOk P w H h' := fun a o e =>
  (x a o e).stay (fun b u _ q => k b u q) (fun _ q => q) fun _ _ q => q
/-- a new object is laid and tracked -/
theorem HOk.laid (x : HOk P w H h) (k : ∀ b u, h.get? b = some u → h'.get? b = some u) (hp : h.objs.size ≤ a) (new : ObjOk P w (upd H a o) h' a o) : HOk P w (upd H a o) h' := fun b u e => by
  have hn := x.fresh hp
  by_cases hb : b = a
  · subst hb; rw [upd_same] at e; cases e; exact new
  · rw [upd_ne hb] at e
    exact (x b u e).stay (fun c v _ q => k c v q) (fun c q => by rw [upd_ne (ne_of_none q hn)]; exact q) fun c xs q => by rw [upd_ne (ne_of_none q hn)]; exact q
end

/-- what may be read as u: it is u, or a known u -/
def Rd (H : Hp) (a : Addr) (u : HO) : Prop := H a = some u ∨ ∃ o, H a = some (.frz o u)
theorem Rd.of {H : Hp} {a : Addr} {u : HO} (h : H a = some u) : Rd H a u := .inl h
theorem Rd.ok {P : Program} {w : World} {H : Hp} {h : Heap} {a : Addr} {u : HO} (r : Rd H a u) (x : HOk P w H h) : ObjOk P w H h a u := by
  rcases r with r | ⟨o, r⟩
  · exact x a u r
  · obtain ⟨_, q⟩ := x a _ r
    exact q
/-- what may be written -/
def Mut : Option HO → Prop
  | some (.lst _) => True
  | some (.dK _) => True
  | some (.dT _) => True
  | some (.set _ _) => True
  | some (.ins _ _ _) => True
  | some (.ext _) => True
  | _ => False
section
variable {P : Program} {w : World} {H : Hp} {h h' : Heap} {x e : Addr} {o' : HO}
/-- the object at e is changed: x itself, or the dict of the instance x -/
theorem HOk.write (ok : HOk P w H h) (mu : Mut (H x)) (he : e = x ∨ H e = some (.own x)) (k : ∀ b u, b ≠ e → h.get? b = some u → h'.get? b = some u) (heo : ∃ u, h'.get? e = some u)
    (new : ObjOk P w (upd H x o') h' x o') : HOk P w (upd H x o') h' := fun b u q => by
  have nown : ∀ c y, H c = some (.own y) → c ≠ x := fun c y r z => by subst z; rw [r] at mu; exact mu
  have ntup : ∀ c xs, H c = some (.tup xs) → c ≠ x := fun c xs r z => by subst z; rw [r] at mu; exact mu
  by_cases hb : b = x
  · subst hb; rw [upd_same] at q; cases q; exact new
  · rw [upd_ne hb] at q
    by_cases hbe : b = e
    · have q' : H b = some (.own x) := by
        rcases he with z | z
        · exact absurd (hbe.trans z) hb
        · rw [hbe]; exact z
      rw [q] at q'; cases q'
      obtain ⟨v, hv⟩ := heo
      exact ⟨v, by rw [hbe]; exact hv⟩
    · refine (ok b u q).stay (fun c v hc r => k c v ?_ r) (fun c r => by rw [upd_ne (nown c b r)]; exact r) fun c xs r => by rw [upd_ne (ntup c xs r)]; exact r
      rcases hc with rfl | hc
      · exact hbe
      · rintro rfl
        rcases he with z | z
        · exact nown c b hc z
        · rw [hc] at z; cases z; exact hb rfl
end

/-! ### kept unless tracked; of the frames at fs (the callers') the slots may change (an exception that passes writes there); of the records at ex (iterators) nothing is said -/
structure Un (fs ex : List Addr) (H H' : Hp) (h h' : Heap) : Prop where
  keep : ∀ b o, h.get? b = some o → H b = none → b ∉ fs → b ∉ ex → h'.get? b = some o
  slot : ∀ b o, h.get? b = some o → H b = none → b ∈ fs → b ∉ ex → ∃ sl, h'.get? b = some { o with slots := sl }
  free : ∀ b o, h.get? b = some o → H b = none → b ∉ ex → H' b = none
  there : ∀ b o, h.get? b = some o → b ∉ ex → ∃ o', h'.get? b = some o'
  tups : ∀ b xs, H b = some (.tup xs) → H' b = some (.tup xs)
  frzs : ∀ b o u, H b = some (.frz o u) → H' b = some (.frz o u)
  tbls : ∀ b ps, H b = some (.tbl ps) → ∃ more, H' b = some (.tbl (ps ++ more))
section
variable {fs fs' ex ex' : List Addr} {H H1 H2 : Hp} {h h1 h2 h' : Heap} {a x e : Addr} {o : HO}
theorem Un.any (u : Un fs ex H H1 h h1) {b : Addr} {ob : Obj} (q : h.get? b = some ob) (n : H b = none) (hx : b ∉ ex) : ∃ sl, h1.get? b = some { ob with slots := sl } := by
  by_cases hb : b ∈ fs
  · exact u.slot b ob q n hb hx
  · exact ⟨ob.slots, u.keep b ob q n hb hx⟩
theorem Un.trans (a : Un fs ex H H1 h h1) (b : Un fs ex H1 H2 h1 h2) : Un fs ex H H2 h h2 where
  keep := fun c ob q n hc hx => b.keep c ob (a.keep c ob q n hc hx) (a.free c ob q n hx) hc hx
  slot := fun c ob q n hc hx => by
    obtain ⟨sl, e1⟩ := a.slot c ob q n hc hx
    obtain ⟨sl', e2⟩ := b.slot c _ e1 (a.free c ob q n hx) hc hx
    exact ⟨sl', e2⟩
  free := fun c ob q n hx => by
    obtain ⟨o', e1⟩ := a.there c ob q hx
    exact b.free c o' e1 (a.free c ob q n hx) hx
  there := fun c ob q hx => by
    obtain ⟨o', e1⟩ := a.there c ob q hx
    exact b.there c o' e1 hx
  tups := fun c xs q => b.tups c xs (a.tups c xs q)
  frzs := fun c ob xs q => b.frzs c ob xs (a.frzs c ob xs q)
  tbls := fun c ps q => by
    obtain ⟨m1, e1⟩ := a.tbls c ps q
    obtain ⟨m2, e2⟩ := b.tbls c _ e1
    exact ⟨m1 ++ m2, by rw [e2, Array.append_assoc]⟩
theorem Un.kept (k : ∀ b u, h.get? b = some u → h'.get? b = some u) : Un fs ex H H h h' :=
  ⟨fun b ob q _ _ _ => k b ob q, fun b ob q _ _ _ => ⟨ob.slots, k b ob q⟩, fun _ _ _ n _ => n, fun b ob q _ => ⟨ob, k b ob q⟩, fun _ _ q => q, fun _ _ _ q => q, fun _ ps q => ⟨#[], by rw [q]; simp⟩⟩
theorem Un.refl : Un fs ex H H h h := Un.kept fun _ _ q => q
theorem Un.laid (k : ∀ b u, h.get? b = some u → h'.get? b = some u) (hp : h.objs.size ≤ a) (hn : H a = none) : Un fs ex H (upd H a o) h h' where
  keep := fun b u q _ _ _ => k b u q
  slot := fun b u q _ _ _ => ⟨u.slots, k b u q⟩
  free := fun b u q n _ => by rw [upd_ne (Nat.ne_of_lt (Nat.lt_of_lt_of_le (Heap.lt_size q) hp))]; exact n
  there := fun b u q _ => ⟨u, k b u q⟩
  tups := fun b xs q => by rw [upd_ne (ne_of_none q hn)]; exact q
  frzs := fun b u xs q => by rw [upd_ne (ne_of_none q hn)]; exact q
  tbls := fun b ps q => ⟨#[], by rw [upd_ne (ne_of_none q hn), q]; simp⟩
theorem Un.write (mu : Mut (H x)) (he : e = x ∨ H e = some (.own x)) (k : ∀ b u, b ≠ e → h.get? b = some u → h'.get? b = some u) (heo : ∃ u, h'.get? e = some u) : Un fs ex H (upd H x o) h h' := by
  have hx : ∀ b, H b = none → b ≠ x := fun b n z => by subst z; rw [n] at mu; exact mu
  have hb : ∀ b, H b = none → b ≠ e := fun b n z => by
    subst z
    rcases he with r | r
    · exact hx b n r
    · rw [n] at r; cases r
  have hm : ∀ b u, H b = some u → ¬ Mut (some u) → b ≠ x := fun b u q nm z => by subst z; rw [q] at mu; exact nm mu
  refine ⟨fun b u q n _ _ => k b u (hb b n) q, fun b u q n _ _ => ⟨u.slots, k b u (hb b n) q⟩, fun b u q n _ => by rw [upd_ne (hx b n)]; exact n, fun b u q _ => ?_,
    fun b xs q => by rw [upd_ne (hm b _ q fun z => z)]; exact q, fun b u xs q => by rw [upd_ne (hm b _ q fun z => z)]; exact q, fun b ps q => ⟨#[], by rw [upd_ne (hm b _ q fun z => z), q]; simp⟩⟩
  by_cases hbe : b = e
  · subst hbe; exact heo
  · exact ⟨u, k b u hbe q⟩
theorem Un.mono (u : Un fs ex H H1 h h1) (hs : ∀ b ∈ fs, b ∈ fs') (hx : ∀ b ∈ ex, b ∈ ex') : Un fs' ex' H H1 h h1 :=
  ⟨fun b ob q n hb he => u.keep b ob q n (fun z => hb (hs b z)) fun z => he (hx b z), fun _ _ q n _ he => u.any q n fun z => he (hx _ z), fun b ob q n he => u.free b ob q n fun z => he (hx b z), fun b ob q he => u.there b ob q fun z => he (hx b z), u.tups, u.frzs, u.tbls⟩
end

/-! ### the heap without what is tracked -/
def trk (h : Heap) (H : Hp) : List Addr := (List.range h.objs.size).filter fun a => (H a).isSome
def hidT (h : Heap) (H : Hp) : Heap := PySem.W.hideAll h (trk h H)
theorem hidT_size (h : Heap) (H : Hp) : (hidT h H).objs.size = h.objs.size := PySem.W.hideAll_size _ _
theorem hidT_get {h : Heap} {H : Hp} {b : Addr} {o : Obj} (e : h.get? b = some o) (n : H b = none) : (hidT h H).get? b = some o :=
  PySem.W.hideAll_get _ e fun hm => by
    have q : (H b).isSome = true := (List.mem_filter.mp hm).2
    rw [n] at q; simp at q
theorem of_hidT {h : Heap} {H : Hp} {b : Addr} {o : Obj} (e : (hidT h H).get? b = some o) : h.get? b = some o ∧ H b = none := by
  have e' : h.get? b = some o := PySem.W.of_hideAll (trk h H) e
  refine ⟨e', ?_⟩
  cases q : H b with
  | none => rfl
  | some x =>
    have hm : b ∈ trk h H := List.mem_filter.mpr ⟨List.mem_range.mpr (Heap.lt_size e'), by simp [q]⟩
    have z : (hidT h H).get? b = none := PySem.W.hideAll_none (trk h H) hm
    rw [z] at e; cases e

/-! ### OpenK's ledger, filled with every new object but one -/
def allNews (g h : Heap) (L : Addr) : List (Addr × Obj) := (List.range h.objs.size).filterMap fun a => if a = L ∨ (g.get? a).isSome = true then none else (h.get? a).map fun o => (a, o)
theorem mem_allNews {g h : Heap} {L a : Addr} {o : Obj} (h1 : a ≠ L) (h2 : g.get? a = none) (h3 : h.get? a = some o) : (a, o) ∈ allNews g h L :=
  List.mem_filterMap.mpr ⟨a, List.mem_range.mpr (Heap.lt_size h3), by simp [h1, h2, h3]⟩
theorem of_mem_allNews {g h : Heap} {L : Addr} {p : Addr × Obj} (hp : p ∈ allNews g h L) : p.1 ≠ L ∧ g.get? p.1 = none ∧ h.get? p.1 = some p.2 := by
  obtain ⟨b, _, e⟩ := List.mem_filterMap.mp hp
  split at e
  · cases e
  · rename_i hn
    cases q : h.get? b with
    | none => rw [q] at e; simp at e
    | some u =>
      rw [q] at e
      simp only [Option.map_some, Option.some.injEq] at e
      subst e
      refine ⟨fun z => hn (.inl z), ?_, q⟩
      show g.get? b = none
      cases r : g.get? b with
      | none => rfl
      | some v => exact (hn (.inr (by simp [r]))).elim
def rest (g h : Heap) (L d : Addr) : List (Addr × Obj) := (allNews g h L).filter fun p => decide (p.1 ≠ d)
theorem rest_ne {g h : Heap} {L d : Addr} : ∀ p ∈ rest g h L d, p.1 ≠ d := fun p hp => of_decide_eq_true (List.mem_filter.mp hp).2
theorem mem_rest {g h : Heap} {L d a : Addr} {o : Obj} (h1 : a ≠ L) (h2 : g.get? a = none) (h3 : h.get? a = some o) (h4 : a ≠ d) : (a, o) ∈ rest g h L d :=
  List.mem_filter.mpr ⟨mem_allNews h1 h2 h3, decide_eq_true h4⟩
theorem news_all {g h : Heap} {L : Addr} : News g L h (allNews g h L) := fun p hp => let ⟨a, b, c⟩ := of_mem_allNews hp; ⟨c, a, b⟩
theorem news_at {g h : Heap} {L d : Addr} {o : Obj} (h1 : d ≠ L) (h2 : g.get? d = none) (h3 : h.get? d = some o) : News g L h ((d, o) :: rest g h L d) := fun p hp => by
  rcases List.mem_cons.mp hp with rfl | hp
  · exact ⟨h3, h1, h2⟩
  · exact news_all p (List.mem_filter.mp hp).1
/-- behind a rule that changed d alone: all else but the frame is kept -/
theorem kept_of_news {g h h' : Heap} {L d : Addr} {m : Str → Option Value} (k : ∀ b o, g.get? b = some o → h.get? b = some o) (F : Fr g L h' m) (N : News g L h' (rest g h L d)) :
    ∀ b o, b ≠ L → b ≠ d → h.get? b = some o → h'.get? b = some o := fun b o h1 h2 e => by
  cases q : g.get? b with
  | some u =>
    have := k b u q
    rw [e] at this; cases this
    exact F.keep b _ q
  | none => exact (N (b, o) (mem_rest h1 q e h2)).1
end L2

namespace L2
open PySem PySem.Spec PyProof.Rows

/-- the module's facts, over the base: the heap at the law's entry without what is tracked there -/
structure Mod (K : PySem.W.Frag) (mg : Str → Option Value) (base : Heap) : Prop where
  kin : K.In base
  glob : base.Ns mainGlobals mg
  blt : ∃ mb, base.Ns builtinsNs mb ∧ ∀ x : Str, x ≠ "__name__" → mb x = bootBuiltins x
  nolimit : base.NoLimit

/-- the context: a def's body (or a comprehension's block) running. base: fixed through the whole law; s₀, H₀: the entry; outer: the frames whose slots others may change (a def's callers); stack: all frames that run;
   ex: iterators that were made ahead of the entry and are walked here (a comprehension's); fn: the names whose cells were made at the entry (a def: all; a comprehension's block: its own); calm: not within an except suite; pn: pins that every state bears; xe: what is wanted of an exception that leaves the code -/
structure Cx where
  prog : Program
  w : World
  K : PySem.W.Frag
  mg : Str → Option Value
  base : Heap
  A : Around
  N : List Str
  s₀ : Shared
  H₀ : Hp
  env : Env
  outer : List Env
  stack : List Env
  ex : List Addr
  fn : Str → Bool
  calm : Bool
  pn : List (Addr × Obj)
  xe : Value → Shared → Prop
/-- the callers' frames -/
def frs (l : List Env) : List Addr := l.filterMap (·.frame)
abbrev Cx.fs (X : Cx) : List Addr := frs X.outer

def Vis (sc : Scope) (x : Str) : Prop := sc.names.lookup x = some .local ∨ sc.names.lookup x = some .cell ∨ sc.names.lookup x = some .free
def Loc (sc : Scope) (x : Str) : Prop := sc.names.lookup x = some .local ∨ sc.names.lookup x = some .cell
def Look (env : Env) (h : Heap) (m : Str → Option Value) (x : Str) (u : Value) : Prop :=
  (env.kindOf x = some .local ∧ m x = some u) ∨ ((env.kindOf x = some .cell ∨ env.kindOf x = some .free) ∧ ∃ c, env.cells.lookup x = some c ∧ h.IsCell c (some u))

structure Cx.Ok (X : Cx) : Prop where
  mod : Mod X.K X.mg X.base
  kind : X.env.scope.kind = .function
  glob : X.env.globals = mainGlobals
  blt : X.env.builtins = builtinsNs
  above : X.s₀.heap.objs.size ≤ X.env.locals
  inj : ∀ x y c, X.env.cells.lookup x = some c → X.env.cells.lookup y = some c → x = y
  has : ∀ x, (X.env.kindOf x = some .cell ∨ X.env.kindOf x = some .free) → ∃ c, X.env.cells.lookup x = some c
  cab : ∀ x c, X.fn x = true → X.env.cells.lookup x = some c → X.s₀.heap.objs.size ≤ c
  hd : X.calm = true → X.A.handled = none
  frames : X.A.frames = some X.stack
  stk : X.stack = X.outer ∨ (X.stack = X.env :: X.outer ∧ X.env.frame = some X.env.locals)
  exf : ∀ b ∈ X.ex, b ≠ X.env.locals ∧ ∀ x c, X.env.cells.lookup x = some c → c ≠ b
  bs : ∀ b o, X.base.get? b = some o → X.s₀.heap.get? b = some o ∧ X.H₀ b = none
  bsz : X.base.objs.size ≤ X.s₀.heap.objs.size
  noex : ∀ b o, X.base.get? b = some o → b ∉ X.ex
  exfs : ∀ b ∈ X.ex, b ∉ X.fs
  funs : X.s₀.heap.FunFrames X.base X.outer
  frf : ∀ b ∈ X.fs, X.H₀ b = none

structure Inv (X : Cx) (pins : List (Addr × Obj)) (σ : List (Option V)) (H : Hp) (s : Shared) : Prop where
  ok : X.Ok
  os : s.os = X.s₀.os
  bare : AllBare s.gens
  base : Un X.fs X.ex X.H₀ H X.s₀.heap s.heap
  loc : ∃ m, s.heap.Ns X.env.locals m ∧ ∀ (i : Nat) (x : Str) (v : V), X.N[i]? = some x → σ[i]? = some (some v) → Vis X.env.scope x → ∃ u, RelV v u ∧ Look X.env s.heap m x u
  cell : ∀ x c, X.env.cells.lookup x = some c → ∃ v, s.heap.IsCell c v
  free : H X.env.locals = none
  freeC : ∀ x c, X.env.cells.lookup x = some c → H c = none
  pin : ∀ p ∈ X.pn ++ pins, s.heap.get? p.1 = some p.2 ∧ H p.1 = none ∧ p.1 ≠ X.env.locals ∧ p.1 ∉ X.fs ∧ ∀ v, p.2.data ≠ .cell v
  hok : HOk X.prog X.w H s.heap
  len : σ.length = X.N.length

section
variable {X : Cx} {pins : List (Addr × Obj)} {σ : List (Option V)} {H H' : Hp} {s : Shared} {h' : Heap}

theorem Cx.Ok.nofr (ok : X.Ok) {b : Addr} {o : Obj} (e : X.base.get? b = some o) : b ∉ X.fs := fun hb => by
  have := (ok.funs.mem hb).1
  rw [e] at this; cases this
theorem Inv.bs (I : Inv X pins σ H s) : ∀ b o, X.base.get? b = some o → s.heap.get? b = some o ∧ H b = none := fun b o e =>
  ⟨I.base.keep b o (I.ok.bs b o e).1 (I.ok.bs b o e).2 (I.ok.nofr e) (I.ok.noex b o e), I.base.free b o (I.ok.bs b o e).1 (I.ok.bs b o e).2 (I.ok.noex b o e)⟩
theorem Inv.bk (I : Inv X pins σ H s) : ∀ b o, X.base.get? b = some o → s.heap.get? b = some o := fun b o e => (I.bs b o e).1
theorem Inv.mod (I : Inv X pins σ H s) : Mod X.K X.mg X.base := I.ok.mod
theorem Inv.kIn (I : Inv X pins σ H s) : X.K.In s.heap := I.ok.mod.kin.keeps I.bk
theorem Inv.nolimit (I : Inv X pins σ H s) : s.heap.NoLimit := I.ok.mod.nolimit.keeps I.bk
/-- the frame over the base: for OpenK's rules (K.In X.base is I.mod.kin) -/
theorem Inv.fr (I : Inv X pins σ H s) : ∃ m, Fr X.base X.env.locals s.heap m :=
  let ⟨m, hn, _⟩ := I.loc
  ⟨m, hn, I.bk, Nat.le_trans I.ok.bsz I.ok.above⟩
theorem Inv.lt (I : Inv X pins σ H s) : X.env.locals < s.heap.objs.size := let ⟨_, hn, _⟩ := I.loc; hn.lt
theorem Inv.sz (I : Inv X pins σ H s) : X.s₀.heap.objs.size ≤ s.heap.objs.size := Nat.le_trans I.ok.above (Nat.le_of_lt I.lt)
theorem Inv.nofs (I : Inv X pins σ H s) {a : Addr} (h : s.heap.objs.size ≤ a) : a ∉ X.fs := fun hb => by
  obtain ⟨_, o, ho, _⟩ := I.ok.funs.mem hb
  exact absurd (Nat.lt_of_lt_of_le (Heap.lt_size ho) (Nat.le_trans I.sz h)) (Nat.lt_irrefl _)
theorem Inv.cne (I : Inv X pins σ H s) : ∀ x c, X.env.cells.lookup x = some c → c ≠ X.env.locals := fun x c e z => by
  obtain ⟨v, o, ho, hd⟩ := I.cell x c e
  obtain ⟨m, ⟨o', es, ep, ho', hd', _⟩, _⟩ := I.loc
  rw [z, ho'] at ho; cases ho; rw [hd'] at hd; cases hd
theorem Inv.funs (I : Inv X pins σ H s) : s.heap.FunFrames X.base X.outer := by
  have all : ∀ (l : List Env), (∀ b ∈ frs l, b ∈ X.fs) → X.s₀.heap.FunFrames X.base l → s.heap.FunFrames X.base l := by
    intro l
    induction l with
    | nil => intro _ _; trivial
    | cons env r ih =>
      intro hs hl
      obtain ⟨hk, ⟨L, o, hf, hn, ho, hd⟩, hr⟩ := hl
      have hL : L ∈ X.fs := hs L (by unfold frs; rw [List.filterMap_cons, hf]; exact List.mem_cons_self)
      obtain ⟨sl, e⟩ := I.base.slot L o ho (I.ok.frf L hL) hL fun z => I.ok.exfs L z hL
      exact ⟨hk, ⟨L, _, hf, hn, e, hd⟩, ih (fun b hb => hs b (by unfold frs; rw [List.filterMap_cons, hf]; exact List.mem_cons_of_mem _ hb)) hr⟩
  exact all X.outer (fun _ hb => hb) I.ok.funs

/-- the frames that run, for a call -/
theorem Inv.stack (I : Inv X pins σ H s) : s.heap.FunFrames X.base X.stack := by
  rcases I.ok.stk with e | ⟨e, hf⟩
  · rw [e]; exact I.funs
  · rw [e]
    obtain ⟨m, hn, _⟩ := I.loc
    refine .cons (by rw [I.ok.kind]; decide) hf hn ?_ I.funs
    exact Heap.get?_none_of_le (Nat.le_trans I.ok.bsz I.ok.above)
theorem Inv.stkSub (I : Inv X pins σ H s) : ∀ b ∈ frs X.stack, b ∈ X.env.locals :: X.fs := fun b hb => by
  rcases I.ok.stk with e | ⟨e, hf⟩
  · rw [e] at hb; exact List.mem_cons_of_mem _ hb
  · rw [e] at hb
    unfold frs at hb
    rw [List.filterMap_cons, hf] at hb
    exact hb
theorem Inv.stkFree (I : Inv X pins σ H s) : ∀ b ∈ frs X.stack, H b = none := fun b hb => by
  rcases List.mem_cons.mp (I.stkSub b hb) with e | hb
  · rw [e]; exact I.free
  · obtain ⟨_, o, ho, _⟩ := I.ok.funs.mem hb
    exact I.base.free b o ho (I.ok.frf b hb) fun z => I.ok.exfs b z hb

/-- THE STEP: the untracked objects but the frame and the records at ch are kept (the callers' frames up to slots), the frame's map is kept, the new abstract heap is held -/
theorem Inv.step {g' : Array GenState} {t' : Nat} {d' : Drawn} {ch : List Addr} (I : Inv X pins σ H s)
    (hch : ∀ b ∈ ch, (b ∈ X.ex ∨ X.s₀.heap.objs.size ≤ b) ∧ b ≠ X.env.locals ∧ (∀ x c, X.env.cells.lookup x = some c → c ≠ b) ∧ ∀ p ∈ X.pn ++ pins, p.1 ≠ b)
    (keep : ∀ b o, b ≠ X.env.locals → b ∉ X.fs → b ∉ ch → s.heap.get? b = some o → H b = none → h'.get? b = some o)
    (slot : ∀ b o, b ≠ X.env.locals → b ∈ X.fs → b ∉ ch → s.heap.get? b = some o → H b = none → ∃ sl, h'.get? b = some { o with slots := sl }) (free : ∀ b o, b ∉ ch → s.heap.get? b = some o → H b = none → H' b = none)
    (there : ∀ b o, b ∉ ch → s.heap.get? b = some o → ∃ o', h'.get? b = some o')
    (tups : ∀ b xs, H b = some (.tup xs) → H' b = some (.tup xs)) (frzs : ∀ b o u, H b = some (.frz o u) → H' b = some (.frz o u)) (tbls : ∀ b ps, H b = some (.tbl ps) → ∃ more, H' b = some (.tbl (ps ++ more)))
    (ns : ∀ m, s.heap.Ns X.env.locals m → h'.Ns X.env.locals m) (hok : HOk X.prog X.w H' h') (hg : AllBare g') :
    Inv X pins σ H' { s with heap := h', gens := g', drawn := d', toks := t' } := by
  have neL : ∀ b o, X.s₀.heap.get? b = some o → b ≠ X.env.locals := fun b o e => Nat.ne_of_lt (Nat.lt_of_lt_of_le (Heap.lt_size e) I.ok.above)
  have neC : ∀ b o, X.s₀.heap.get? b = some o → b ∉ X.ex → b ∉ ch := fun b o e hx hb => by
    rcases (hch b hb).1 with z | z
    · exact hx z
    · exact absurd (Nat.lt_of_lt_of_le (Heap.lt_size e) z) (Nat.lt_irrefl _)
  have cellK : ∀ x c, X.env.cells.lookup x = some c → ∀ v, s.heap.IsCell c v → h'.IsCell c v := fun x c e v ⟨o, ho, hd⟩ => by
    have nch : c ∉ ch := fun z => (hch c z).2.2.1 x c e rfl
    by_cases hc : c ∈ X.fs
    · obtain ⟨sl, q⟩ := slot c o (I.cne x c e) hc nch ho (I.freeC x c e)
      exact ⟨_, q, hd⟩
    · exact ⟨o, keep c o (I.cne x c e) hc nch ho (I.freeC x c e), hd⟩
  refine ⟨I.ok, I.os, hg, ⟨fun b o e n hb hx => ?_, fun b o e n hb hx => ?_, fun b o e n hx => ?_, fun b o e hx => ?_, fun b xs e => tups b xs (I.base.tups b xs e), fun b o xs e => frzs b o xs (I.base.frzs b o xs e), fun b ps e => ?_⟩, ?_, fun x c e => ?_, ?_, fun x c e => ?_, fun p hp => ?_, hok, I.len⟩
  · exact keep b o (neL b o e) hb (neC b o e hx) (I.base.keep b o e n hb hx) (I.base.free b o e n hx)
  · obtain ⟨sl, e1⟩ := I.base.slot b o e n hb hx
    obtain ⟨sl', e2⟩ := slot b _ (neL b o e) hb (neC b o e hx) e1 (I.base.free b o e n hx)
    exact ⟨sl', e2⟩
  · obtain ⟨o', e1⟩ := I.base.there b o e hx
    exact free b o' (neC b o e hx) e1 (I.base.free b o e n hx)
  · obtain ⟨o', e1⟩ := I.base.there b o e hx
    exact there b o' (neC b o e hx) e1
  · obtain ⟨m1, e1⟩ := I.base.tbls b ps e
    obtain ⟨m2, e2⟩ := tbls b _ e1
    exact ⟨m1 ++ m2, by rw [e2, Array.append_assoc]⟩
  · obtain ⟨m, hn, hl⟩ := I.loc
    refine ⟨m, ns m hn, fun i x v e1 e2 e3 => ?_⟩
    obtain ⟨u, r, l⟩ := hl i x v e1 e2 e3
    refine ⟨u, r, ?_⟩
    rcases l with l | ⟨k, c, e, z⟩
    · exact .inl l
    · exact .inr ⟨k, c, e, cellK x c e _ z⟩
  · obtain ⟨v, z⟩ := I.cell x c e
    exact ⟨v, cellK x c e v z⟩
  · obtain ⟨m, ⟨o, _, _, ho, _⟩, _⟩ := I.loc
    exact free _ o (fun z => (hch _ z).2.1 rfl) ho I.free
  · obtain ⟨v, o, ho, hd⟩ := I.cell x c e
    exact free c o (fun z => (hch c z).2.2.1 x c e rfl) ho (I.freeC x c e)
  · obtain ⟨e, n, ne, nf, d⟩ := I.pin p hp
    have nch : p.1 ∉ ch := fun z => (hch p.1 z).2.2.2 p hp rfl
    exact ⟨keep p.1 p.2 ne nf nch e n, free p.1 p.2 nch e n, ne, nf, d⟩
/-- .. where the frame's own object is kept too -/
theorem Inv.un {t' : Nat} (I : Inv X pins σ H s) (u : Un X.fs [] H H' s.heap h') (hok : HOk X.prog X.w H' h') : Inv X pins σ H' { s with heap := h', toks := t' } := by
  obtain ⟨m, ⟨o, es, ep, ho, r⟩, _⟩ := id I.loc
  obtain ⟨sl, hL⟩ := u.any ho I.free (by simp)
  exact I.step (g' := s.gens) (d' := s.drawn) (ch := []) (fun _ z => nomatch z) (fun b o _ hb _ e n => u.keep b o e n hb (by simp)) (fun b o _ hb _ e n => u.slot b o e n hb (by simp)) (fun b o _ e n => u.free b o e n (by simp)) (fun b o _ e => u.there b o e (by simp)) u.tups u.frzs u.tbls (fun m' hm => by
    obtain ⟨o', es', ep', ho', r'⟩ := hm
    rw [ho] at ho'; cases ho'
    exact ⟨_, es', ep', hL, r'⟩) hok I.bare
/-- behind a call (or a comprehension's block): the slots of this frame may have changed too, the records at ch may have turned -/
theorem Inv.call {g' : Array GenState} {t' : Nat} {d' : Drawn} {ch : List Addr} (I : Inv X pins σ H s) (u : Un (frs X.stack) ch H H' s.heap h') (hok : HOk X.prog X.w H' h') (hg : AllBare g')
    (hch : ∀ b ∈ ch, (b ∈ X.ex ∨ X.s₀.heap.objs.size ≤ b) ∧ b ≠ X.env.locals ∧ (∀ x c, X.env.cells.lookup x = some c → c ≠ b) ∧ ∀ p ∈ X.pn ++ pins, p.1 ≠ b) :
    Inv X pins σ H' { s with heap := h', gens := g', drawn := d', toks := t' } := by
  obtain ⟨m, ⟨o, es, ep, ho, r⟩, _⟩ := id I.loc
  obtain ⟨sl, hL⟩ := u.any ho I.free fun z => (hch _ z).2.1 rfl
  exact I.step (ch := ch) hch (fun b o hL hb hc e n => u.keep b o e n (fun z => (List.mem_cons.mp (I.stkSub b z)).elim hL hb) hc) (fun b o _ _ hc e n => u.any e n hc) (fun b o hc e n => u.free b o e n hc) (fun b o hc e => u.there b o e hc) u.tups u.frzs u.tbls (fun m' hm => by
    obtain ⟨o', es', ep', ho', r'⟩ := hm
    rw [ho] at ho'; cases ho'
    exact ⟨_, es', ep', hL, r'⟩) hok hg
/-- an untracked record of ours (an iterator) has turned -/
theorem Inv.turned {t' : Nat} {it : Addr} (I : Inv X pins σ H s) (k : ∀ b o, b ≠ it → s.heap.get? b = some o → h'.get? b = some o) (hn : H it = none) (hL : it ≠ X.env.locals)
    (h1 : it ∈ X.ex ∨ X.s₀.heap.objs.size ≤ it) (h2 : ∀ x c, X.env.cells.lookup x = some c → c ≠ it) (h3 : ∀ p ∈ X.pn ++ pins, p.1 ≠ it) : Inv X pins σ H { s with heap := h', toks := t' } := by
  have nit : ∀ b u, H b = some u → b ≠ it := fun b u e z => by rw [z, hn] at e; cases e
  refine I.step (g' := s.gens) (d' := s.drawn) (ch := [it]) (fun b hb => ?_) (fun b o _ _ hc e _ => k b o (fun z => hc (by simp [z])) e) (fun b o _ _ hc e _ => ⟨o.slots, k b o (fun z => hc (by simp [z])) e⟩) (fun _ _ _ _ n => n)
    (fun b o hc e => ⟨o, k b o (fun z => hc (by simp [z])) e⟩) (fun _ _ e => e) (fun _ _ _ e => e) (fun b ps e => ⟨#[], by rw [e]; simp⟩) (fun m hm => ?_) (fun b u e => ?_) I.bare
  · have e : b = it := by simpa using hb
    subst e
    exact ⟨h1, hL, h2, h3⟩
  · obtain ⟨o, es, ep, ho, r⟩ := hm
    exact ⟨o, es, ep, k _ o (Ne.symm hL) ho, r⟩
  · refine (I.hok b u e).stay (fun c v hc q => k c v ?_ q) (fun _ q => q) fun _ _ q => q
    rcases hc with z | z
    · rw [z]; exact nit b u e
    · exact nit c _ z
theorem Inv.tok (I : Inv X pins σ H s) (t : Nat) : Inv X pins σ H { s with toks := t } := I.un (h' := s.heap) (t' := t) Un.refl I.hok
/-- all objects kept -/
theorem Inv.kept {t' : Nat} (I : Inv X pins σ H s) (k : ∀ b u, s.heap.get? b = some u → h'.get? b = some u) : Inv X pins σ H { s with heap := h', toks := t' } := I.un (Un.kept k) (I.hok.kept k)
/-- a new object laid and tracked -/
theorem Inv.laid {a : Addr} {o : HO} {t' : Nat} (I : Inv X pins σ H s) (k : ∀ b u, s.heap.get? b = some u → h'.get? b = some u) (hp : s.heap.objs.size ≤ a) (new : ObjOk X.prog X.w (upd H a o) h' a o) :
    Inv X pins σ (upd H a o) { s with heap := h', toks := t' } := I.un (Un.laid k hp (I.hok.fresh hp)) (I.hok.laid k hp new)
/-- an object written -/
theorem Inv.write {x e : Addr} {o : HO} {t' : Nat} (I : Inv X pins σ H s) (mu : Mut (H x)) (he : e = x ∨ H e = some (.own x)) (k : ∀ b u, b ≠ e → s.heap.get? b = some u → h'.get? b = some u) (heo : ∃ u, h'.get? e = some u)
    (new : ObjOk X.prog X.w (upd H x o) h' x o) : Inv X pins σ (upd H x o) { s with heap := h', toks := t' } := I.un (Un.write mu he k heo) (I.hok.write mu he k heo new)
/-- forgetting slots, pins -/
theorem Inv.weak {σ' : List (Option V)} (I : Inv X pins σ H s) (hl : σ'.length = σ.length) (w : ∀ (i : Nat) v, σ'[i]? = some (some v) → σ[i]? = some (some v)) : Inv X pins σ' H s :=
  ⟨I.ok, I.os, I.bare, I.base, let ⟨m, hn, hl'⟩ := I.loc; ⟨m, hn, fun i x v e1 e2 e3 => hl' i x v e1 (w i v e2) e3⟩, I.cell, I.free, I.freeC, I.pin, I.hok, hl.trans I.len⟩
theorem Inv.pins_of {pins' : List (Addr × Obj)} (I : Inv X pins σ H s) (h : ∀ p ∈ pins', s.heap.get? p.1 = some p.2 ∧ H p.1 = none ∧ p.1 ≠ X.env.locals ∧ p.1 ∉ X.fs ∧ ∀ v, p.2.data ≠ .cell v) : Inv X pins' σ H s :=
  ⟨I.ok, I.os, I.bare, I.base, I.loc, I.cell, I.free, I.freeC, fun p hp => (List.mem_append.mp hp).elim (fun z => I.pin p (List.mem_append_left _ z)) (h p), I.hok, I.len⟩

theorem nodup_ix {N : List Str} (hN : N.Nodup) {i j : Nat} {x : Str} (a : N[i]? = some x) (b : N[j]? = some x) : i = j := by
  obtain ⟨h1, e1⟩ := List.getElem?_eq_some_iff.mp a
  obtain ⟨h2, e2⟩ := List.getElem?_eq_some_iff.mp b
  exact (List.getElem_inj hN).mp (e1.trans e2.symm)

/-- a name is stored; what changed -/
theorem store_ok2 {M : Model} {A : Around} {E : Value → Shared → Prop} {i : Nat} {x : Str} {v : V} {u : Value} {Q : Unit → Shared → Prop} (I : Inv X pins σ H s) (hN : X.N.Nodup) (hi : X.N[i]? = some x) (hx : Loc X.env.scope x) (r : RelV v u)
    (h : ∀ s', Inv X pins (σ.set i (some v)) H s' → (∃ a, Heap.SameBut a s.heap s'.heap ∧ (a = X.env.locals ∨ X.env.cells.lookup x = some a)) → Q () s') (hf : X.fn x = true ∨ X.env.scope.names.lookup x = some .local := by first | exact .inl rfl | exact .inr rfl | assumption) : wpAny M A (storeName X.env x u) Q E s := by
  obtain ⟨m, hn, hl⟩ := id I.loc
  have hcls : (X.env.scope.kind == .class || (X.env.scope.kind == .module && X.env.locals != X.env.globals)) = false := by rw [I.ok.kind]; rfl
  have hiσ : i < σ.length := by rw [I.len]; exact (List.getElem?_eq_some_iff.mp hi).1
  have cne := I.cne
  have tracked : ∀ {a : Addr} {h' : Heap}, (∃ o, s.heap.get? a = some o ∧ H a = none) → Heap.SameBut a s.heap h' → HOk X.prog X.w H h' := fun {a h'} ha hs b ob e => by
    obtain ⟨_, _, hfree⟩ := ha
    refine (I.hok b ob e).stay (fun c w' hc q => (hs.2 c ?_).trans q) (fun _ q => q) fun _ _ q => q
    rintro rfl
    rcases hc with rfl | hc
    · rw [hfree] at e; cases e
    · rw [hfree] at hc; cases hc
  rcases hx with hk | hk
  · refine wpAny_storeName_local hk hn (fun h' hn' hs => ?_) hcls
    obtain ⟨oL, _, _, hoL, _⟩ := id hn
    refine h _ ⟨I.ok, I.os, I.bare, ⟨fun b o e n hb hx => ?_, fun b o e n hb hx => ?_, I.base.free, fun b o e hx => ?_, I.base.tups, I.base.frzs, I.base.tbls⟩, ⟨_, hn', fun j y v' e1 e2 e3 => ?_⟩, fun y c e => ?_, I.free, I.freeC, fun p hp => ?_, tracked ⟨oL, hoL, I.free⟩ hs, by simpa using I.len⟩ ⟨_, hs, .inl rfl⟩
    · exact (hs.2 b (Nat.ne_of_lt (Nat.lt_of_lt_of_le (Heap.lt_size e) I.ok.above))).trans (I.base.keep b o e n hb hx)
    · obtain ⟨sl, e1⟩ := I.base.slot b o e n hb hx
      exact ⟨sl, (hs.2 b (Nat.ne_of_lt (Nat.lt_of_lt_of_le (Heap.lt_size e) I.ok.above))).trans e1⟩
    · obtain ⟨o', e1⟩ := I.base.there b o e hx
      exact ⟨o', (hs.2 b (Nat.ne_of_lt (Nat.lt_of_lt_of_le (Heap.lt_size e) I.ok.above))).trans e1⟩
    · by_cases hj : j = i
      · subst hj
        rw [hi] at e1; cases e1
        rw [List.getElem?_set_self hiσ] at e2
        cases e2
        exact ⟨u, r, .inl ⟨hk, by simp⟩⟩
      · rw [List.getElem?_set_ne (Ne.symm hj)] at e2
        obtain ⟨u', r', q⟩ := hl j y v' e1 e2 e3
        refine ⟨u', r', ?_⟩
        rcases q with ⟨k, e⟩ | ⟨k, c, e, z⟩
        · refine .inl ⟨k, ?_⟩
          have : y ≠ x := fun e => hj (nodup_ix hN e1 (e ▸ hi))
          simp [this, e]
        · exact .inr ⟨k, c, e, z.sameBut hs (cne y c e)⟩
    · obtain ⟨w', z⟩ := I.cell y c e
      exact ⟨w', z.sameBut hs (cne y c e)⟩
    · obtain ⟨e, n, ne, nf, d⟩ := I.pin p hp
      exact ⟨(hs.2 p.1 ne).trans e, n, ne, nf, d⟩
  · have hfn : X.fn x = true := by
      rcases hf with z | z
      · exact z
      · rw [z] at hk; cases hk
    obtain ⟨c, hc⟩ := I.ok.has x (.inl hk)
    obtain ⟨w', z⟩ := I.cell x c hc
    refine wpAny_storeName_cell I.ok.kind hk hc z (fun h' hc' hs => ?_)
    obtain ⟨oc, hoc, hocd⟩ := id z
    refine h { s with heap := h' } ⟨I.ok, I.os, I.bare, ⟨fun b o e n hb hx => ?_, fun b o e n hb hx => ?_, I.base.free, fun b o e hx => ?_, I.base.tups, I.base.frzs, I.base.tbls⟩, ⟨m, hn.sameBut hs (Ne.symm (cne x c hc)), fun j y v' e1 e2 e3 => ?_⟩, fun y c' e => ?_, I.free, I.freeC, fun p hp => ?_, tracked ⟨oc, hoc, I.freeC x c hc⟩ hs, by simpa using I.len⟩ ⟨c, hs, .inr hc⟩
    · exact (hs.2 b (Nat.ne_of_lt (Nat.lt_of_lt_of_le (Heap.lt_size e) (I.ok.cab x c hfn hc)))).trans (I.base.keep b o e n hb hx)
    · obtain ⟨sl, e1⟩ := I.base.slot b o e n hb hx
      exact ⟨sl, (hs.2 b (Nat.ne_of_lt (Nat.lt_of_lt_of_le (Heap.lt_size e) (I.ok.cab x c hfn hc)))).trans e1⟩
    · obtain ⟨o', e1⟩ := I.base.there b o e hx
      exact ⟨o', (hs.2 b (Nat.ne_of_lt (Nat.lt_of_lt_of_le (Heap.lt_size e) (I.ok.cab x c hfn hc)))).trans e1⟩
    · by_cases hj : j = i
      · subst hj
        rw [hi] at e1; cases e1
        rw [List.getElem?_set_self hiσ] at e2
        cases e2
        exact ⟨u, r, .inr ⟨.inl hk, c, hc, hc'⟩⟩
      · rw [List.getElem?_set_ne (Ne.symm hj)] at e2
        obtain ⟨u', r', q⟩ := hl j y v' e1 e2 e3
        refine ⟨u', r', ?_⟩
        rcases q with q | ⟨k, c', e, z'⟩
        · exact .inl q
        · refine .inr ⟨k, c', e, z'.sameBut hs ?_⟩
          rintro rfl
          exact hj (nodup_ix hN e1 (I.ok.inj _ _ _ e hc ▸ hi))
    · by_cases hcc : c' = c
      · subst hcc; exact ⟨_, hc'⟩
      · obtain ⟨w2, z2⟩ := I.cell y c' e
        exact ⟨w2, z2.sameBut hs hcc⟩
    · obtain ⟨e, n, ne, nf, d⟩ := I.pin p hp
      refine ⟨(hs.2 p.1 ?_).trans e, n, ne, nf, d⟩
      intro q
      rw [q, hoc] at e
      have q' : oc = p.2 := Option.some.inj e
      exact d w' (by rw [← q']; exact hocd)
theorem store_ok {M : Model} {A : Around} {E : Value → Shared → Prop} {i : Nat} {x : Str} {v : V} {u : Value} {Q : Unit → Shared → Prop} (I : Inv X pins σ H s) (hN : X.N.Nodup) (hi : X.N[i]? = some x) (hx : Loc X.env.scope x) (r : RelV v u)
    (h : ∀ s', Inv X pins (σ.set i (some v)) H s' → Q () s') (hf : X.fn x = true ∨ X.env.scope.names.lookup x = some .local := by first | exact .inl rfl | exact .inr rfl | assumption) : wpAny M A (storeName X.env x u) Q E s :=
  store_ok2 I hN hi hx r (fun s' I' _ => h s' I') hf
/-- behind a call or a block, the state as it is -/
theorem Inv.call' {s' : Shared} {ch : List Addr} (I : Inv X pins σ H s) (ho : s'.os = s.os) (u : Un (frs X.stack) ch H H' s.heap s'.heap) (hok : HOk X.prog X.w H' s'.heap) (hg : AllBare s'.gens)
    (hch : ∀ b ∈ ch, (b ∈ X.ex ∨ X.s₀.heap.objs.size ≤ b) ∧ b ≠ X.env.locals ∧ (∀ x c, X.env.cells.lookup x = some c → c ≠ b) ∧ ∀ p ∈ X.pn ++ pins, p.1 ≠ b) : Inv X pins σ H' s' := by
  obtain ⟨h', g', d', t', o'⟩ := s'
  have e : o' = s.os := ho
  subst e
  exact I.call (g' := g') (t' := t') (d' := d') u hok hg hch
end

/-! ### the judgements -/
/-- an exception: its class, its own dict's address (where it has one), the abstract heap behind it -/
abbrev XK := Value → Option Addr → Hp → Prop
abbrev St := List (Option V)
abbrev VK := V → Hp → Prop
/-- an expression's reading; a test's; an argument list's -/
abbrev TE := St → Hp → VK → Prop
abbrev TT := St → Hp → (Bool → Hp → Prop) → Prop
abbrev TA := St → Hp → (List V → Hp → Prop) → Prop
/-- what is wanted behind a statement -/
structure Ends where
  nx : St → Hp → Prop
  rt : VK
  bk : St → Hp → Prop := fun _ _ => False
  ct : St → Hp → Prop := fun _ _ => False
abbrev TS := Ends → St → Hp → Prop

def EP (X : Cx) (pins : List (Addr × Obj)) (σ : St) (Q : VK) (u : Value) (s' : Shared) : Prop := ∃ v H', Inv X pins σ H' s' ∧ RelV v u ∧ Q v H'
def TP (X : Cx) (pins : List (Addr × Obj)) (σ : St) (Q : Bool → Hp → Prop) (b : Bool) (s' : Shared) : Prop := ∃ H', Inv X pins σ H' s' ∧ Q b H'
def AP (X : Cx) (pins : List (Addr × Obj)) (σ : St) (Q : List V → Hp → Prop) (us : List Value) (s' : Shared) : Prop := ∃ vs H', Inv X pins σ H' s' ∧ Vals vs us ∧ Q vs H'
def SP (X : Cx) (pins : List (Addr × Obj)) (D : Ends) (f : Flow) (s' : Shared) : Prop :=
  match f with
  | .next => ∃ σ' H', Inv X pins σ' H' s' ∧ D.nx σ' H'
  | .brk => ∃ σ' H', Inv X pins σ' H' s' ∧ D.bk σ' H'
  | .cont => ∃ σ' H', Inv X pins σ' H' s' ∧ D.ct σ' H'
  | .ret u => ∃ v σ' H', Inv X pins σ' H' s' ∧ RelV v u ∧ D.rt v H'

def PE (X : Cx) (e : Expr) (t : TE) : Prop :=
  ∀ (pins : List (Addr × Obj)) (s : Shared) (σ : St) (H : Hp) (Q : VK), Inv X pins σ H s → t σ H Q → wpAny (model X.prog X.w) X.A (eval e X.env) (EP X pins σ Q) X.xe s
def PT (X : Cx) (e : Expr) (t : TT) : Prop :=
  ∀ (pins : List (Addr × Obj)) (s : Shared) (σ : St) (H : Hp) (Q : Bool → Hp → Prop), Inv X pins σ H s → t σ H Q → wpAny (model X.prog X.w) X.A (isTrue e X.env (eval e X.env)) (TP X pins σ Q) X.xe s
/-- a test whatever its 'whole' is (and, or) -/
def PW (X : Cx) (e : Expr) (t : TT) : Prop :=
  ∀ (whole : Sem Value) (pins : List (Addr × Obj)) (s : Shared) (σ : St) (H : Hp) (Q : Bool → Hp → Prop), Inv X pins σ H s → t σ H Q → wpAny (model X.prog X.w) X.A (isTrue e X.env whole) (TP X pins σ Q) X.xe s
theorem PW.pt {X : Cx} {e : Expr} {t : TT} (h : PW X e t) : PT X e t := h _
/-- an argument list (no star), from the left -/
def PA (X : Cx) (es : List Expr) (t : TA) : Prop :=
  ∀ (pos : Pos) (pins : List (Addr × Obj)) (s : Shared) (σ : St) (H : Hp) (Q : List V → Hp → Prop), Inv X pins σ H s → t σ H Q → wpAny (model X.prog X.w) X.A (spliced (backTo pos (starEach es X.env))) (AP X pins σ Q) X.xe s
def PS (X : Cx) (st : Stmt) (t : TS) : Prop :=
  ∀ (pins : List (Addr × Obj)) (s : Shared) (σ : St) (H : Hp) (D : Ends), Inv X pins σ H s → t D σ H → wpAny (model X.prog X.w) X.A (exec st X.env) (SP X pins D) X.xe s
def PSs (X : Cx) (st : List Stmt) (t : TS) : Prop :=
  ∀ (pins : List (Addr × Obj)) (s : Shared) (σ : St) (H : Hp) (D : Ends), Inv X pins σ H s → t D σ H → wpAny (model X.prog X.w) X.A (execs st X.env) (SP X pins D) X.xe s
/-- weaken the end -/
theorem thn {α : Type} {t : Sem α} {Q Q' : α → Shared → Prop} {M : Model} {A : Around} {E : Value → Shared → Prop} {s : Shared} (h : wpAny M A t Q E s) (hQ : ∀ a s, Q a s → Q' a s) : wpAny M A t Q' E s := wpAny_mono h hQ fun _ _ x => x
end L2

namespace L2
open PySem PySem.Spec PyProof.Rows
section
variable {X : Cx}

/-- two expressions in a row -/
theorem bin {a b : Expr} {ta tb : TE} (ha : PE X a ta) (hb : PE X b tb) {pins : List (Addr × Obj)} {s : Shared} {σ : St} {H : Hp} {R : V → V → Hp → Prop} (I : Inv X pins σ H s) (h : ta σ H fun x H1 => tb σ H1 fun y H2 => R x y H2)
    {α : Type} {Q : α → Shared → Prop} {f : Value → Value → Sem α}
    (hf : ∀ v u s2 x y H2, Inv X pins σ H2 s2 → RelV x v → RelV y u → R x y H2 → wpAny (model X.prog X.w) X.A (f v u) Q X.xe s2) :
    wpAny (model X.prog X.w) X.A (eval a X.env) (fun v s₁ => wpAny (model X.prog X.w) X.A (eval b X.env) (fun u s₂ => wpAny (model X.prog X.w) X.A (f v u) Q X.xe s₂) X.xe s₁) X.xe s := by
  refine thn (ha pins s σ H _ I h) fun v s1 ⟨x, H1, I1, r1, q1⟩ => ?_
  refine thn (hb pins s1 σ H1 _ I1 q1) fun u s2 ⟨y, H2, I2, r2, q2⟩ => ?_
  exact hf v u s2 x y H2 I2 r1 r2 q2

/-! ### names and constants -/
def tVar (i : Nat) : TE := fun σ H Q => ∃ v, σ[i]? = some (some v) ∧ Q v H
def tC (v : V) : TE := fun _ H Q => Q v H
theorem pe_var {i : Nat} {x : Str} {pos : Pos} (hN : X.N[i]? = some x) (hv : Vis X.env.scope x) (hd : (x == ("__debug__" : Str)) = false := by decide) (hcd : (x == ("__classdict__" : Str)) = false := by decide) : PE X (.Name x pos) (tVar i) := by
  intro pins s σ H Q I h
  obtain ⟨v, e, h⟩ := h
  obtain ⟨m, hn, hl⟩ := I.loc
  obtain ⟨u, r, l⟩ := hl i x v hN e hv
  have fin : EP X pins σ Q u s := ⟨v, H, I, r, h⟩
  rcases l with ⟨hk, hm⟩ | ⟨hk, c, hc, hcell⟩
  · exact wpAny_Name (wpAny_loadName_local I.ok.kind hk hn hm fin) hd
  · rcases hk with hk | hk
    · exact wpAny_Name (wpAny_loadName_cell I.ok.kind hk hc hcell fin) hd
    · exact wpAny_Name (wpAny_loadName_free I.ok.kind hk hc hcell fin hcd) hd
theorem pe_int {i j pos} : PE X (.Constant (.int i) j pos) (tC (.int i)) := fun _ _ _ H _ I h => wpAny_Constant_int ⟨.int i, H, I.tok _, ⟨_, rfl⟩, h⟩
theorem pe_bl {b j pos} : PE X (.Constant (.bool b) j pos) (tC (.bl b)) := fun _ _ _ H _ I h => Constant_bool ⟨.bl b, H, I, rfl, h⟩
theorem pe_non {j pos} : PE X (.Constant .none j pos) (tC .non) := fun _ _ _ H _ I h => Constant_none ⟨.non, H, I, rfl, h⟩
theorem pe_str {x j pos} : PE X (.Constant (.str x) j pos) (tC (.str x)) := fun _ _ _ H _ I h => Calls.Constant_str ⟨.str x, H, I.tok _, ⟨_, rfl⟩, h⟩

/-- a global name of the def -/
def Gl (X : Cx) (x : Str) : Prop := X.env.kindOf x = some .globalImplicit
theorem ld_glob {E : Value → Shared → Prop} {pins : List (Addr × Obj)} {s : Shared} {σ : St} {H : Hp} {x : Str} {u : Value} {pos : Pos} {Q : Value → Shared → Prop} (I : Inv X pins σ H s) (hg : Gl X x) (hm : X.mg x = some u) (h : Q u s)
    (hd : (x == ("__debug__" : Str)) = false := by decide) : wpAny (model X.prog X.w) X.A (eval (.Name x pos) X.env) Q E s :=
  Calls.Name_function_global I.ok.kind hg (Calls.loadGlobal_global (by rw [I.ok.glob]; exact I.mod.glob.keeps I.bk) hm h) hd
theorem ld_blt {E : Value → Shared → Prop} {pins : List (Addr × Obj)} {s : Shared} {σ : St} {H : Hp} {x : Str} {u : Value} {pos : Pos} {Q : Value → Shared → Prop} (I : Inv X pins σ H s) (hg : Gl X x) (hm : X.mg x = none) (hv : bootBuiltins x = some u) (h : Q u s)
    (hn : x ≠ "__name__" := by decide) (hd : (x == ("__debug__" : Str)) = false := by decide) : wpAny (model X.prog X.w) X.A (eval (.Name x pos) X.env) Q E s := by
  obtain ⟨mb, h1, h2⟩ := I.mod.blt
  exact Calls.Name_function_global I.ok.kind hg (Calls.loadGlobal_builtin (by rw [I.ok.glob]; exact I.mod.glob.keeps I.bk) hm (by rw [I.ok.blt]; exact h1.keeps I.bk) ((h2 x hn).trans hv) h) hd
/-- a module's constant, a class, a function, as a value -/
theorem pe_glob {x : Str} {v : V} {u : Value} {pos : Pos} (hg : Gl X x) (hm : X.mg x = some u) (r : RelV v u) (hd : (x == ("__debug__" : Str)) = false := by decide) : PE X (.Name x pos) (tC v) :=
  fun _ _ _ H _ I h => ld_glob I hg hm ⟨v, H, I, r, h⟩ hd
theorem pe_bltn {x : Str} {v : V} {u : Value} {pos : Pos} (hg : Gl X x) (hm : X.mg x = none) (hv : bootBuiltins x = some u) (r : RelV v u) (hn : x ≠ "__name__" := by decide) (hd : (x == ("__debug__" : Str)) = false := by decide) : PE X (.Name x pos) (tC v) :=
  fun _ _ _ H _ I h => ld_blt I hg hm hv ⟨v, H, I, r, h⟩ hn hd

/-! ### arithmetic -/
/-- two ints -/
def t2I (ta tb : TE) (k : Int → Int → Hp → Prop) : St → Hp → Prop := fun σ H => ta σ H fun x H1 => tb σ H1 fun y H2 => ∃ i j, x = .int i ∧ y = .int j ∧ k i j H2
def tAdd (ta tb : TE) : TE := fun σ H Q => t2I ta tb (fun i j H2 => Q (.int (i + j)) H2) σ H
def tSub (ta tb : TE) : TE := fun σ H Q => t2I ta tb (fun i j H2 => Q (.int (i - j)) H2) σ H
/-- the left factor below 2^64 -/
def tMul (ta tb : TE) : TE := fun σ H Q => t2I ta tb (fun i j H2 => (-(2 ^ 64) < i ∧ i < 2 ^ 64) ∧ Q (.int (i * j)) H2) σ H
variable {a b : Expr} {ta tb : TE} {pos : Pos}
theorem pe_add (ha : PE X a ta) (hb : PE X b tb) : PE X (.BinOp a .Add b pos) (tAdd ta tb) := by
  intro pins s σ H Q I h
  refine wpAny_BinOp (bin ha hb I h fun v u s2 x y H2 I2 rx ry q => ?_)
  obtain ⟨i, j, rfl, rfl, q⟩ := q
  obtain ⟨t, rfl⟩ := rx
  obtain ⟨t', rfl⟩ := ry
  exact add_int ⟨.int _, H2, I2.tok _, ⟨_, rfl⟩, q⟩
theorem pe_sub (ha : PE X a ta) (hb : PE X b tb) : PE X (.BinOp a .Sub b pos) (tSub ta tb) := by
  intro pins s σ H Q I h
  refine wpAny_BinOp (bin ha hb I h fun v u s2 x y H2 I2 rx ry q => ?_)
  obtain ⟨i, j, rfl, rfl, q⟩ := q
  obtain ⟨t, rfl⟩ := rx
  obtain ⟨t', rfl⟩ := ry
  exact sub_int ⟨.int _, H2, I2.tok _, ⟨_, rfl⟩, q⟩
theorem pe_mul (ha : PE X a ta) (hb : PE X b tb) : PE X (.BinOp a .Mult b pos) (tMul ta tb) := by
  intro pins s σ H Q I h
  refine wpAny_BinOp (bin ha hb I h fun v u s2 x y H2 I2 rx ry q => ?_)
  obtain ⟨i, j, rfl, rfl, ⟨q1, q2⟩, q⟩ := q
  obtain ⟨t, rfl⟩ := rx
  obtain ⟨t', rfl⟩ := ry
  exact mul_int ⟨.int _, H2, I2.tok _, ⟨_, rfl⟩, q⟩ (.of_left (intBits_le_64 q1 q2))

/-! ### comparisons -/
def PC (X : Cx) (op : CmpOp) (a b : Expr) (t : TE) : Prop :=
  ∀ (pins : List (Addr × Obj)) (s : Shared) (σ : St) (H : Hp) (Q : VK), Inv X pins σ H s → t σ H Q →
    wpAny (model X.prog X.w) X.A (eval a X.env) (fun v s₁ => wpAny (model X.prog X.w) X.A (eval b X.env) (fun u s₂ => wpAny (model X.prog X.w) X.A (compareOp op v u) (EP X pins σ Q) X.xe s₂) X.xe s₁) X.xe s
theorem nobehind (b : Expr) {op : CmpOp} (h : op ≠ .In) (h2 : op ≠ .NotIn) : behindInMarks op b = false := by
  have e1 : (op == CmpOp.In) = false := by cases op <;> first | rfl | exact absurd rfl h
  have e2 : (op == CmpOp.NotIn) = false := by cases op <;> first | rfl | exact absurd rfl h2
  cases b <;> simp [behindInMarks, e1, e2]
def tCmp (p : Int → Int → Bool) (ta tb : TE) : TE := fun σ H Q => t2I ta tb (fun i j H2 => Q (.bl (p i j)) H2) σ H
abbrev tLt : TE → TE → TE := tCmp fun i j => decide (i < j)
abbrev tLe : TE → TE → TE := tCmp fun i j => decide (i ≤ j)
abbrev tGt : TE → TE → TE := tCmp fun i j => decide (j < i)
abbrev tGe : TE → TE → TE := tCmp fun i j => decide (j ≤ i)
abbrev tEqI : TE → TE → TE := tCmp fun i j => decide (i = j)
abbrev tNeI : TE → TE → TE := tCmp fun i j => !decide (i = j)
/-- a comparison of two ints, by its rule -/
theorem pc_int {op : CmpOp} {p : Int → Int → Bool} (ha : PE X a ta) (hb : PE X b tb)
    (rule : ∀ (i j : Int) (t u : Tok) (Q : Value → Shared → Prop) (s : Shared), Q (.bool (p i j)) s → wpAny (model X.prog X.w) X.A (compareOp op (.int i t) (.int j u)) Q X.xe s) : PC X op a b (tCmp p ta tb) := by
  intro pins s σ H Q I h
  refine bin ha hb I h fun v u s2 x y H2 I2 rx ry q => ?_
  obtain ⟨i, j, rfl, rfl, q⟩ := q
  obtain ⟨t, rfl⟩ := rx
  obtain ⟨t', rfl⟩ := ry
  exact rule i j t t' _ s2 ⟨.bl _, H2, I2, rfl, q⟩
theorem pc_lt (ha : PE X a ta) (hb : PE X b tb) : PC X .Lt a b (tLt ta tb) := pc_int ha hb fun _ _ _ _ _ _ h => lt_int h
theorem pc_le (ha : PE X a ta) (hb : PE X b tb) : PC X .LtE a b (tLe ta tb) := pc_int ha hb fun _ _ _ _ _ _ h => le_int h
theorem pc_gt (ha : PE X a ta) (hb : PE X b tb) : PC X .Gt a b (tGt ta tb) := pc_int ha hb fun _ _ _ _ _ _ h => gt_int h
theorem pc_ge (ha : PE X a ta) (hb : PE X b tb) : PC X .GtE a b (tGe ta tb) := pc_int ha hb fun _ _ _ _ _ _ h => ge_int h
theorem pc_eqI (ha : PE X a ta) (hb : PE X b tb) : PC X .Eq a b (tEqI ta tb) := pc_int ha hb fun _ _ _ _ _ _ h => eq_int (by rw [Bool.beq_eq_decide_eq]; exact h)
theorem pc_neI (ha : PE X a ta) (hb : PE X b tb) : PC X .NotEq a b (tNeI ta tb) := pc_int ha hb fun _ _ _ _ _ _ h => ne_int (by rw [bne, Bool.beq_eq_decide_eq]; exact h)
/-- is None -/
def tIsN (ta : TE) : TE := fun σ H Q => ta σ H fun x H1 => Q (.bl (decide (x = .non))) H1
def tNotN (ta : TE) : TE := fun σ H Q => ta σ H fun x H1 => Q (.bl (!decide (x = .non))) H1
theorem RelV.none_iff {x : V} {v : Value} (r : RelV x v) : (v == Value.none) = decide (x = .non) := by
  cases x with
  | non => cases r; rfl
  | bl _ => cases r; rfl
  | int _ => obtain ⟨t, rfl⟩ := r; rfl
  | str _ => obtain ⟨t, rfl⟩ := r; rfl
  | byt _ => obtain ⟨t, rfl⟩ := r; rfl
  | flt _ => obtain ⟨t, rfl⟩ := r; rfl
  | ref _ => cases r; rfl
  | ty _ => cases r; rfl
theorem pc_isN {j pos'} (ha : PE X a ta) : PC X .Is a (.Constant .none j pos') (tIsN ta) := by
  intro pins s σ H Q I h
  refine thn (ha pins s σ H _ I h) fun v s1 ⟨x, H1, I1, r1, q1⟩ => ?_
  exact Constant_none (is_none_gen ⟨.bl _, H1, I1, by rw [r1.none_iff]; rfl, q1⟩)
theorem pc_notN {j pos'} (ha : PE X a ta) : PC X .IsNot a (.Constant .none j pos') (tNotN ta) := by
  intro pins s σ H Q I h
  refine thn (ha pins s σ H _ I h) fun v s1 ⟨x, H1, I1, r1, q1⟩ => ?_
  exact Constant_none (isnot_none_gen ⟨.bl _, H1, I1, by rw [r1.none_iff]; rfl, q1⟩)
/-- a comparison as a value, as a test -/
def tB (t : TE) : TT := fun σ H Q => t σ H fun x H1 => ∃ c, x = .bl c ∧ Q c H1
theorem pe_cmp {op : CmpOp} {t : TE} (h : PC X op a b t) (h1 : behindInMarks op b = false := by first | exact nobehind _ (by decide) (by decide) | rfl) : PE X (.Compare a [op] [b] pos) t := fun pins s σ H Q I hw => wpAny_Compare1 (h pins s σ H Q I hw) h1
theorem pt_cmp {op : CmpOp} {t : TE} (h : PC X op a b t) (h1 : behindInMarks op b = false := by first | exact nobehind _ (by decide) (by decide) | rfl) : PT X (.Compare a [op] [b] pos) (tB t) := by
  intro pins s σ H Q I hw
  refine wpAny_isTrue_Compare1 (thn (h pins s σ H _ I hw) fun v s1 h1 => thn h1 fun u s2 h2 => thn h2 fun c s3 ⟨x, H1, I1, r1, q1⟩ => ?_) h1
  obtain ⟨d, rfl, q⟩ := q1
  cases r1
  exact wpAny_truthy_bool ⟨H1, I1, q⟩
/-- an expression whose value is a bool, as a test -/
theorem pt_val {e : Expr} {t : TE} (h : PE X e t) (he : ∀ whole, isTrue e X.env whole = (do let v ← whole; standAt e.pos; holding [v] (truthy v)) := by intro _; rfl) : PT X e (tB t) := by
  intro pins s σ H Q I hw
  refine isTrue_plain (thn (h pins s σ H _ I hw) fun v s1 ⟨x, H1, I1, r1, q1⟩ => ?_) (he _)
  obtain ⟨d, rfl, q⟩ := q1
  cases r1
  exact wpAny_truthy_bool ⟨H1, I1, q⟩

/-! ### and, or, not -/
variable {tA tB' : TT} {rest : List Expr}
def tAnd (t u : TT) : TT := fun σ H Q => t σ H fun c H1 => if c = true then u σ H1 Q else Q false H1
def tOr (t u : TT) : TT := fun σ H Q => t σ H fun c H1 => if c = true then Q true H1 else u σ H1 Q
def tNot (t : TT) : TT := fun σ H Q => t σ H fun c H1 => Q (!c) H1
theorem pw_and1 (ha : PT X a tA) : PW X (.BoolOp .And [a] pos) tA := by
  intro wh pins s σ H Q I h
  refine isTrue_and (thn (ha pins s σ H Q I h) fun c s1 e => ?_)
  cases c with
  | true => exact isTrue_and_nil e
  | false => exact e
theorem pw_or1 (ha : PT X a tA) : PW X (.BoolOp .Or [a] pos) tA := by
  intro wh pins s σ H Q I h
  refine isTrue_or (thn (ha pins s σ H Q I h) fun c s1 e => ?_)
  cases c with
  | false => exact isTrue_or_nil e
  | true => exact e
theorem pw_and (ha : PT X a tA) (hb : PW X (.BoolOp .And (b :: rest) pos) tB') : PW X (.BoolOp .And (a :: b :: rest) pos) (tAnd tA tB') := by
  intro wh pins s σ H Q I h
  refine isTrue_and (thn (ha pins s σ H _ I h) fun c s1 ⟨H1, I1, q1⟩ => ?_)
  cases c with
  | true => exact hb wh pins s1 σ H1 Q I1 q1
  | false => exact ⟨H1, I1, q1⟩
theorem pw_or (ha : PT X a tA) (hb : PW X (.BoolOp .Or (b :: rest) pos) tB') : PW X (.BoolOp .Or (a :: b :: rest) pos) (tOr tA tB') := by
  intro wh pins s σ H Q I h
  refine isTrue_or (thn (ha pins s σ H _ I h) fun c s1 ⟨H1, I1, q1⟩ => ?_)
  cases c with
  | true => exact ⟨H1, I1, q1⟩
  | false => exact hb wh pins s1 σ H1 Q I1 q1
theorem pt_not (ha : PT X a tA) : PT X (.UnaryOp .Not a pos) (tNot tA) := by
  intro pins s σ H Q I h
  exact isTrue_not (ha pins s σ H (fun c H1 => Q (!c) H1) I h)
/-- .. as values (bools) -/
def tAndV (ta tb : TE) : TE := fun σ H Q => ta σ H fun x H1 => ∃ c, x = .bl c ∧ if c = true then tb σ H1 Q else Q (.bl false) H1
def tOrV (ta tb : TE) : TE := fun σ H Q => ta σ H fun x H1 => ∃ c, x = .bl c ∧ if c = true then Q (.bl true) H1 else tb σ H1 Q
def tNotV (ta : TE) : TE := fun σ H Q => ta σ H fun x H1 => ∃ c, x = .bl c ∧ Q (.bl (!c)) H1
theorem pe_one {op} {t : TE} (h : PE X a t) : PE X (.BoolOp op [a] pos) t := fun pins s σ H Q I hw => BoolOp_one (h pins s σ H Q I hw)
theorem pe_and (ha : PE X a ta) (hb : PE X (.BoolOp .And (b :: rest) pos) tb) : PE X (.BoolOp .And (a :: b :: rest) pos) (tAndV ta tb) := by
  intro pins s σ H Q I h
  refine BoolOp_and (thn (ha pins s σ H _ I h) fun v s1 ⟨x, H1, I1, r1, q1⟩ => ?_)
  obtain ⟨c, rfl, q1⟩ := q1
  cases r1
  refine wpAny_truthy_bool ?_
  cases c with
  | true => exact hb pins s1 σ H1 Q I1 q1
  | false => exact ⟨.bl false, H1, I1, rfl, q1⟩
theorem pe_or (ha : PE X a ta) (hb : PE X (.BoolOp .Or (b :: rest) pos) tb) : PE X (.BoolOp .Or (a :: b :: rest) pos) (tOrV ta tb) := by
  intro pins s σ H Q I h
  refine BoolOp_or (thn (ha pins s σ H _ I h) fun v s1 ⟨x, H1, I1, r1, q1⟩ => ?_)
  obtain ⟨c, rfl, q1⟩ := q1
  cases r1
  refine wpAny_truthy_bool ?_
  cases c with
  | false => exact hb pins s1 σ H1 Q I1 q1
  | true => exact ⟨.bl true, H1, I1, rfl, q1⟩
theorem pe_not (ha : PE X a ta) : PE X (.UnaryOp .Not a pos) (tNotV ta) := by
  intro pins s σ H Q I h
  refine UnaryOp_ (thn (ha pins s σ H _ I h) fun v s1 ⟨x, H1, I1, r1, q1⟩ => ?_)
  obtain ⟨c, rfl, q1⟩ := q1
  cases r1
  exact not_of (wpAny_truthy_bool ⟨.bl (!c), H1, I1, rfl, q1⟩)
/-- a if t else b -/
def tIf (t : TT) (ta tb : TE) : TE := fun σ H Q => t σ H fun c H1 => if c = true then ta σ H1 Q else tb σ H1 Q
theorem pe_ifExp {c : Expr} (hc : PT X c tA) (ha : PE X a ta) (hb : PE X b tb) : PE X (.IfExp c a b pos) (tIf tA ta tb) := by
  intro pins s σ H Q I h
  refine wpAny_IfExp (thn (hc pins s σ H _ I h) fun d s1 ⟨H1, I1, q1⟩ => ?_)
  cases d with
  | true => exact ha pins s1 σ H1 Q I1 q1
  | false => exact hb pins s1 σ H1 Q I1 q1
end
end L2

namespace L2
open PySem PySem.Spec PyProof.Rows

/-! ### a list, a tuple that is read: tracked, frozen, or an object of the module -/
def SqL (K : PySem.W.Frag) (H : Hp) (a : Addr) (xs : List V) : Prop :=
  Rd H a (.lst xs) ∨
    ∃ (o : Obj) (its : Array Value) (n : Nat), K.lookup a = some o ∧ o.cls = .type "list" ∧ o.dict = none ∧ o.data = .seq its n ∧ its.size ≤ sizeLine ∧ Vals xs its.toList
def SqT (K : PySem.W.Frag) (H : Hp) (a : Addr) (xs : List V) : Prop :=
  Rd H a (.tup xs) ∨
    ∃ (o : Obj) (its : Array Value) (n : Nat), K.lookup a = some o ∧ o.cls = .type "tuple" ∧ o.data = .seq its n ∧ its.size ≤ sizeLine ∧ Vals xs its.toList
def absV : Value → Option V
  | .none => some .non
  | .bool b => some (.bl b)
  | .int i _ => some (.int i)
  | .str x _ => some (.str x)
  | .bytes b _ => some (.byt b)
  | .float b _ => some (.flt b)
  | .ref a => some (.ref a)
  | .type n => some (.ty n)
  | _ => none
theorem RelV.abs {x : V} {u : Value} (r : RelV x u) : absV u = some x := by
  cases x with
  | non => cases r; rfl
  | bl _ => cases r; rfl
  | int _ => obtain ⟨t, rfl⟩ := r; rfl
  | str _ => obtain ⟨t, rfl⟩ := r; rfl
  | byt _ => obtain ⟨t, rfl⟩ := r; rfl
  | flt _ => obtain ⟨t, rfl⟩ := r; rfl
  | ref _ => cases r; rfl
  | ty _ => cases r; rfl
theorem RelV.inj {x y : V} {u : Value} (r : RelV x u) (q : RelV y u) : x = y := Option.some.inj (r.abs.symm.trans q.abs)
theorem Vals.inj : ∀ {xs ys : List V} {us : List Value}, Vals xs us → Vals ys us → xs = ys
  | _, _, _, .nil, .nil => rfl
  | _, _, _, .cons r t, .cons r' t' => by rw [r.inj r', Vals.inj t t']
section
variable {X : Cx} {pins : List (Addr × Obj)} {σ : St} {H : Hp} {s : Shared} {a : Addr} {xs ys : List V}
theorem SqL.of {K : PySem.W.Frag} (h : H a = some (.lst xs)) : SqL K H a xs := .inl (.inl h)
theorem SqT.of {K : PySem.W.Frag} (h : H a = some (.tup xs)) : SqT K H a xs := .inl (.inl h)
theorem Inv.list (I : Inv X pins σ H s) (h : SqL X.K H a xs) : ∃ its : List Value, Vals xs its ∧ PlainL s.heap a its.toArray ∧ xs.length ≤ sizeLine := by
  rcases h with h | ⟨o, its, n, hk, hc, hd, hs, hz, r⟩
  · obtain ⟨z, its, n, r, e⟩ := h.ok I.hok
    exact ⟨its, r, ⟨_, n, e, rfl, rfl, rfl⟩, z⟩
  · refine ⟨its.toList, r, ⟨o, n, I.kIn a o hk, hc, hd, by simpa using hs⟩, ?_⟩
    have e := r.length
    simp only [Array.length_toList] at e
    omega
theorem Inv.tuple (I : Inv X pins σ H s) (h : SqT X.K H a xs) : ∃ its : List Value, Vals xs its ∧ IsTup s.heap a its.toArray ∧ xs.length ≤ sizeLine := by
  rcases h with h | ⟨o, its, n, hk, hc, hs, hz, r⟩
  · obtain ⟨z, its, r, p⟩ := h.ok I.hok
    exact ⟨its, r, p, z⟩
  · refine ⟨its.toList, r, ⟨o, I.kIn a o hk, hc, n, by simpa using hs⟩, ?_⟩
    have e := r.length
    simp only [Array.length_toList] at e
    omega
theorem Inv.list_inj (I : Inv X pins σ H s) (h : SqL X.K H a xs) (h' : SqL X.K H a ys) : xs = ys := by
  obtain ⟨its, r, ⟨o, n, e, _, _, d⟩, _⟩ := I.list h
  obtain ⟨its', r', ⟨o', n', e', _, _, d'⟩, _⟩ := I.list h'
  rw [e] at e'; cases e'
  rw [d] at d'
  injection d' with d1 _
  have : its = its' := by simpa using congrArg Array.toList d1
  subst this
  exact r.inj r'
theorem Inv.tuple_inj (I : Inv X pins σ H s) (h : SqT X.K H a xs) (h' : SqT X.K H a ys) : xs = ys := by
  obtain ⟨its, r, ⟨o, e, _, n, d⟩, _⟩ := I.tuple h
  obtain ⟨its', r', ⟨o', e', _, n', d'⟩, _⟩ := I.tuple h'
  rw [e] at e'; cases e'
  rw [d] at d'
  injection d' with d1 _
  have : its = its' := by simpa using congrArg Array.toList d1
  subst this
  exact r.inj r'
end

/-! ### another wish about exceptions -/
abbrev Cx.wish (X : Cx) (E : Value → Shared → Prop) : Cx := { X with xe := E }
/-- no exception leaves -/
abbrev Cx.nox (X : Cx) : Cx := X.wish fun _ _ => False
theorem Cx.Ok.wish {X : Cx} (ok : X.Ok) (E : Value → Shared → Prop) : (X.wish E).Ok :=
  ⟨ok.mod, ok.kind, ok.glob, ok.blt, ok.above, ok.inj, ok.has, ok.cab, ok.hd, ok.frames, ok.stk, ok.exf, ok.bs, ok.bsz, ok.noex, ok.exfs, ok.funs, ok.frf⟩
theorem Cx.Ok.unwish {X : Cx} {E : Value → Shared → Prop} (ok : (X.wish E).Ok) : X.Ok :=
  ⟨ok.mod, ok.kind, ok.glob, ok.blt, ok.above, ok.inj, ok.has, ok.cab, ok.hd, ok.frames, ok.stk, ok.exf, ok.bs, ok.bsz, ok.noex, ok.exfs, ok.funs, ok.frf⟩
section
variable {X : Cx} {pins : List (Addr × Obj)} {σ : St} {H : Hp} {s : Shared} {E : Value → Shared → Prop}
theorem Inv.wish (I : Inv X pins σ H s) (E : Value → Shared → Prop) : Inv (X.wish E) pins σ H s := ⟨I.ok.wish E, I.os, I.bare, I.base, I.loc, I.cell, I.free, I.freeC, I.pin, I.hok, I.len⟩
theorem Inv.unwish (I : Inv (X.wish E) pins σ H s) : Inv X pins σ H s := ⟨I.ok.unwish, I.os, I.bare, I.base, I.loc, I.cell, I.free, I.freeC, I.pin, I.hok, I.len⟩
theorem SP.unwish {D : Ends} {f : Flow} {s' : Shared} (h : SP (X.wish E) pins D f s') : SP X pins D f s' := by
  cases f with
  | next => obtain ⟨σ', H', I, q⟩ := h; exact ⟨σ', H', I.unwish, q⟩
  | brk => obtain ⟨σ', H', I, q⟩ := h; exact ⟨σ', H', I.unwish, q⟩
  | cont => obtain ⟨σ', H', I, q⟩ := h; exact ⟨σ', H', I.unwish, q⟩
  | ret u => obtain ⟨v, σ', H', I, r, q⟩ := h; exact ⟨v, σ', H', I.unwish, r, q⟩
theorem PE.nox {e : Expr} {t : TE} (h : PE X.nox e t) : PE X e t := fun pins s σ H Q I hw =>
  wpAny_mono (h pins s σ H Q (I.wish _) hw) (fun _ _ ⟨v, H', I', r, q⟩ => ⟨v, H', I'.unwish, r, q⟩) fun _ _ z => False.elim z
theorem PT.nox {e : Expr} {t : TT} (h : PT X.nox e t) : PT X e t := fun pins s σ H Q I hw =>
  wpAny_mono (h pins s σ H Q (I.wish _) hw) (fun _ _ ⟨H', I', q⟩ => ⟨H', I'.unwish, q⟩) fun _ _ z => False.elim z
theorem PSs.nox {st : List Stmt} {t : TS} (h : PSs X.nox st t) : PSs X st t := fun pins s σ H D I hw =>
  wpAny_mono (h pins s σ H D (I.wish _) hw) (fun _ _ q => q.unwish) fun _ _ z => False.elim z
end

/-! ### blocks and small statements -/
section
variable {X : Cx} {st : Stmt} {rest : List Stmt} {t u : TS} {e : Expr} {te : TE} {pos : Pos}
def tNext : TS := fun D σ H => D.nx σ H
def tSeq (t u : TS) : TS := fun D σ H => t { D with nx := u D } σ H
theorem pss_nil : PSs X [] tNext := fun _ _ σ H _ I h => wpAny_execs_nil ⟨σ, H, I, h⟩
theorem pss_cons (h1 : PS X st t) (h2 : PSs X rest u) : PSs X (st :: rest) (tSeq t u) := by
  intro pins s σ H D I h
  refine wpAny_execs_cons (thn (h1 pins s σ H { D with nx := u D } I h) fun f s1 q => ?_)
  cases f with
  | next =>
    obtain ⟨σ', H', I', q⟩ := q
    exact h2 pins s1 σ' H' D I' q
  | ret v => exact q
  | brk => exact q
  | cont => exact q
theorem pss_one (h1 : PS X st t) : PSs X [st] t := by
  intro pins s σ H D I h
  refine wpAny_execs_cons (thn (h1 pins s σ H D I h) fun f s1 q => ?_)
  cases f with
  | next => exact wpAny_execs_nil q
  | ret v => exact q
  | brk => exact q
  | cont => exact q
def tBreak : TS := fun D σ H => D.bk σ H
def tCont : TS := fun D σ H => D.ct σ H
theorem ps_pass : PS X (.Pass pos) tNext := fun _ _ σ H _ I h => wpAny_Pass ⟨σ, H, I, h⟩
theorem ps_break : PS X (.Break pos) tBreak := fun _ _ σ H _ I h => wpAny_Break ⟨σ, H, I, h⟩
theorem ps_continue : PS X (.Continue pos) tCont := fun _ _ σ H _ I h => wpAny_Continue ⟨σ, H, I, h⟩
/-- in a def's body nothing is shown -/
theorem Inv.quiet {pins : List (Addr × Obj)} {σ : St} {H : Hp} {s : Shared} (I : Inv X pins σ H s) : interactive X.env = false := by simp [interactive, I.ok.kind]
/-- a docstring -/
theorem ps_doc {x j pos pos'} : PS X (.Expr (.Constant (.str x) j pos) pos') tNext := fun _ s σ H _ I h => wpAny_Expr (Calls.Constant_str (show SP X _ _ .next { s with toks := s.toks + 1 } from ⟨σ, H, I.tok _, h⟩)) I.quiet
/-- an expression whose value is dropped -/
def tDrop (te : TE) : TS := fun D σ H => te σ H fun _ H1 => D.nx σ H1
theorem ps_expr (he : PE X e te) (hs : swapsWith e none pos.line X.env = pure false := by rfl) : PS X (.Expr e pos) (tDrop te) := by
  intro pins s σ H D I h
  exact wpAny_Expr_any (thn (he pins s σ H _ I h) fun v s1 ⟨x, H1, I1, r1, q1⟩ => ⟨σ, H1, I1, q1⟩) I.quiet hs
def tRet (te : TE) : TS := fun D σ H => te σ H D.rt
theorem ps_ret (he : PE X e te) : PS X (.Return (some e) pos) (tRet te) := by
  intro pins s σ H D I h
  exact wpAny_Return_some (thn (he pins s σ H _ I h) fun v s1 ⟨x, H1, I1, r1, q1⟩ => ⟨x, σ, H1, I1, r1, q1⟩)
def tRetN : TS := fun D _ H => D.rt .non H
theorem ps_retN : PS X (.Return none pos) tRetN := fun _ _ σ H _ I h => wpAny_Return_none ⟨.non, σ, H, I, rfl, h⟩
def tIfS (c : TT) (t u : TS) : TS := fun D σ H => c σ H fun b H1 => if b = true then t D σ H1 else u D σ H1
theorem ps_if {c : Expr} {a b : List Stmt} {tc : TT} (hc : PT X c tc) (ha : PSs X a t) (hb : PSs X b u) : PS X (.If c a b pos) (tIfS tc t u) := by
  intro pins s σ H D I h
  refine wpAny_If (thn (hc pins s σ H _ I h) fun d s1 ⟨H1, I1, q1⟩ => ?_)
  cases d with
  | true => exact ha pins s1 σ H1 D I1 q1
  | false => exact hb pins s1 σ H1 D I1 q1
/-- code that the proof never comes to -/
def tNever : TS := fun _ _ _ => False
theorem ps_never : PS X st tNever := fun _ _ _ _ _ _ h => h.elim
theorem pss_never {sts : List Stmt} : PSs X sts tNever := fun _ _ _ _ _ _ h => h.elim
end

/-! ### targets -/
abbrev TG := V → St → Hp → (St → Hp → Prop) → Prop
abbrev TGs := List V → St → Hp → (St → Hp → Prop) → Prop
def PG (X : Cx) (target : Expr) (t : TG) : Prop :=
  ∀ (pins : List (Addr × Obj)) (s : Shared) (σ : St) (H : Hp) (v : V) (u : Value) (Q : St → Hp → Prop), Inv X pins σ H s → RelV v u → t v σ H Q →
    wpAny (model X.prog X.w) X.A (assign target X.env u) (fun _ s' => ∃ σ' H', Inv X pins σ' H' s' ∧ Q σ' H') X.xe s
/-- several targets, one after another -/
def PGs (X : Cx) (ts : List Expr) (t : TGs) : Prop :=
  ∀ (pins : List (Addr × Obj)) (s : Shared) (σ : St) (H : Hp) (vs : List V) (us : List Value) (Q : St → Hp → Prop), Inv X pins σ H s → Vals vs us → t vs σ H Q →
    wpAny (model X.prog X.w) X.A (assignInOrder ((assignEach ts X.env).map (·.2)) us) (fun _ s' => ∃ σ' H', Inv X pins σ' H' s' ∧ Q σ' H') X.xe s
/-- o[i] = v, by values -/
abbrev TSet := V → V → V → Hp → (Hp → Prop) → Prop
def PSet (X : Cx) (t : TSet) : Prop :=
  ∀ (pins : List (Addr × Obj)) (s : Shared) (σ : St) (H : Hp) (o i v : V) (ov iv u : Value) (Q : Hp → Prop), Inv X pins σ H s → RelV o ov → RelV i iv → RelV v u → t o i v H Q →
    wpAny (model X.prog X.w) X.A (setItem ov iv u) (fun _ s' => ∃ H', Inv X pins σ H' s' ∧ Q H') X.xe s
/-- a op= b, by values -/
abbrev TIp := V → V → Hp → VK → Prop
def PIp (X : Cx) (op : Operator) (t : TIp) : Prop :=
  ∀ (pins : List (Addr × Obj)) (s : Shared) (σ : St) (H : Hp) (x y : V) (v u : Value) (Q : VK), Inv X pins σ H s → RelV x v → RelV y u → t x y H Q →
    wpAny (model X.prog X.w) X.A (inplaceOp op v u) (EP X pins σ Q) X.xe s
section
variable {X : Cx} {pos : Pos}
def gName (i : Nat) : TG := fun v σ H Q => Q (σ.set i (some v)) H
theorem pg_name {i : Nat} {x : Str} (hN : X.N.Nodup) (hi : X.N[i]? = some x) (hx : Loc X.env.scope x) (hf : X.fn x = true ∨ X.env.scope.names.lookup x = some .local := by first | exact .inl rfl | exact .inr rfl | assumption) : PG X (.Name x pos) (gName i) := by
  intro pins s σ H v u Q I r h
  exact wpAny_assign_Name (store_ok I hN hi hx r (fun s' I' => ⟨_, H, I', h⟩) hf)
def gNil : TGs := fun vs σ H Q => vs = [] ∧ Q σ H
def gCons (t : TG) (u : TGs) : TGs := fun vs σ H Q => ∃ v r, vs = v :: r ∧ t v σ H fun σ' H' => u r σ' H' Q
theorem pgs_nil : PGs X [] gNil := by
  intro pins s σ H vs us Q I r h
  obtain ⟨e, h⟩ := h
  subst e
  cases r
  exact assignInOrder_nil ⟨σ, H, I, h⟩
theorem pgs_cons {e : Expr} {es : List Expr} {t : TG} {u : TGs} (h1 : PG X e t) (h2 : PGs X es u)
    (hs : (assignEach (e :: es) X.env).map (·.2) = assign e X.env :: (assignEach es X.env).map (·.2) := by rfl) : PGs X (e :: es) (gCons t u) := by
  intro pins s σ H vs us Q I r h
  obtain ⟨v, vr, e1, h⟩ := h
  subst e1
  cases r with
  | cons r rr =>
    rw [hs]
    refine assignInOrder_cons (thn (h1 pins s σ H _ _ _ I r h) fun _ s1 ⟨σ1, H1, I1, q1⟩ => ?_)
    exact h2 pins s1 σ1 H1 _ _ Q I1 rr q1
/-- (a, b, ..) = a tuple of that length -/
def gTup (K : PySem.W.Frag) (n : Nat) (t : TGs) : TG := fun v σ H Q => ∃ a xs, v = .ref a ∧ SqT K H a xs ∧ xs.length = n ∧ t xs σ H Q
theorem pg_tup {es : List Expr} {k : Nat} {t : TGs} {n : Nat} (hc : X.calm = true) (h : PGs X es t)
    (hn : (assignEach es X.env).length = n := by rfl) (hst : (assignEach es X.env).findIdx? (·.1) = none := by rfl) : PG X (.Tuple es k pos) (gTup X.K n t) := by
  intro pins s σ H v u Q I r hw
  obtain ⟨a, xs, e1, hq, hl, hw⟩ := hw
  subst e1
  cases r
  obtain ⟨its, rv, ht, hz⟩ := I.tuple hq
  refine assign_Tuple_tuple (I.ok.hd hc) ht (by simp [hn, ← hl, rv.length]) hst fun h' hx => ?_
  have I1 : Inv X pins σ H { s with heap := h' } := I.kept (t' := s.toks) fun b o e => hx b o (Nat.ne_of_lt (Heap.lt_size e)) e
  exact h pins _ σ H xs _ Q I1 (by simpa using rv) hw
/-- o[i] = .. -/
def gSub (to ti : TE) (t : TSet) : TG := fun v σ H Q => to σ H fun o H1 => ti σ H1 fun i H2 => t o i v H2 fun H3 => Q σ H3
theorem pg_sub {o i : Expr} {to ti : TE} {t : TSet} (ho : PE X o to) (hi : PE X i ti) (hs : PSet X t)
    (ha : ∀ v, assign (.Subscript o i pos) X.env v = (do
      let ov ← holding [v] (eval o X.env)
      let iv ← holding [v, ov] (eval i X.env)
      standAt pos
      holding [v, ov, iv] (setItem ov iv v)
      release [v, ov, iv] []) := by intro _; rfl) : PG X (.Subscript o i pos) (gSub to ti t) := by
  intro pins s σ H v u Q I r h
  rw [ha]
  refine wpAny_bind (wpAny_holding (thn (ho pins s σ H _ I h) fun ov s1 ⟨x, H1, I1, r1, q1⟩ => ?_))
  refine wpAny_bind (wpAny_holding (thn (hi pins s1 σ H1 _ I1 q1) fun iv s2 ⟨y, H2, I2, r2, q2⟩ => ?_))
  refine wpAny_bind (wpAny_standAt (wpAny_bind (wpAny_holding (thn (hs pins s2 σ H2 x y v ov iv u _ I2 r1 r2 r q2) fun _ s3 ⟨H3, I3, q3⟩ => ?_))))
  exact wpAny_release ⟨σ, H3, I3, q3⟩
/-- target = value -/
def tAsg (te : TE) (g : TG) : TS := fun D σ H => te σ H fun x H1 => g x σ H1 D.nx
theorem ps_asg {tg e : Expr} {te : TE} {g : TG} (he : PE X e te) (hg : PG X tg g) (hs : swapsWithSole [tg] e pos.line X.env = pure false := by rfl) (hw : swappedStores [tg] e X.env = pure none := by rfl)
    (h1 : (assignEach [tg] X.env).map (·.2) = [assign tg X.env] := by rfl) : PS X (.Assign [tg] e pos) (tAsg te g) := by
  intro pins s σ H D I h
  refine wpAny_Assign_stores (thn (he pins s σ H _ I h) fun v s1 ⟨x, H1, I1, r1, q1⟩ => ?_) hs hw
  rw [h1]
  exact thn (hg pins s1 σ H1 x v _ I1 r1 q1) fun _ s2 q => q
/-- name = value -/
theorem ps_set {i : Nat} {x : Str} {e : Expr} {te : TE} {pos' : Pos} (hN : X.N.Nodup) (hi : X.N[i]? = some x) (hx : Loc X.env.scope x) (he : PE X e te) (hs : swapsWith e (some (.Name x pos')) pos.line X.env = pure false := by rfl) (hf : X.fn x = true ∨ X.env.scope.names.lookup x = some .local := by first | exact .inl rfl | exact .inr rfl | assumption) :
    PS X (.Assign [.Name x pos'] e pos) (tAsg te (gName i)) := by
  intro pins s σ H D I h
  refine wpAny_Assign_Name (thn (he pins s σ H _ I h) fun v s1 ⟨y, H1, I1, r1, q1⟩ => ?_) hs
  exact store_ok I1 hN hi hx r1 (fun s2 I2 => ⟨_, H1, I2, q1⟩) hf
/-- a, b = x, y with plain local names: stored from the right; the pair itself is not tracked (the opening rows as in PyProof/Rows/TupAssign.lean:23) -/
def tPar (i j : Nat) (ta : TA) : TS := fun D σ H => ta σ H fun vs H1 => ∃ v w, vs = [v, w] ∧ D.nx ((σ.set i (some v)).set j (some w)) H1
theorem ps_par {i j : Nat} {x y : Str} {a b : Expr} {ta : TA} {px py pt : Pos} {kt k2 pt2} (hc : X.calm = true) (hN : X.N.Nodup) (hi : X.N[i]? = some x) (hj : X.N[j]? = some y) (hij : i ≠ j)
    (hx : X.env.scope.names.lookup x = some .local) (hy : X.env.scope.names.lookup y = some .local) (ha : PA X [a, b] ta)
    (hw : swappedStores [.Tuple [.Name x px, .Name y py] kt pt] (.Tuple [a, b] k2 pt2) X.env = pure (some [x, y]))
    (hs : swapsWithSole [.Tuple [.Name x px, .Name y py] kt pt] (.Tuple [a, b] k2 pt2) pos.line X.env = pure false := by rfl) :
    PS X (.Assign [.Tuple [.Name x px, .Name y py] kt pt] (.Tuple [a, b] k2 pt2) pos) (tPar i j ta) := by
  intro pins s σ H D I h
  rw [exec_Assign_arm]
  refine wpAny_bind (wpAny_standAt ?_)
  rw [hs]
  refine wpAny_bind (wpAny_pure ?_)
  rw [if_neg (by decide)]
  refine wpAny_bind (Tuple_ (thn (ha _ pins s σ H _ I h) fun us s1 ⟨vs, H1, I1, r1, q1⟩ => ?_))
  obtain ⟨v, w, e1, q1⟩ := q1
  subst e1
  obtain ⟨u1, u2, rfl, rv, rw'⟩ : ∃ u1 u2, us = [u1, u2] ∧ RelV v u1 ∧ RelV w u2 := by
    cases r1 with
    | cons p q =>
      cases q with
      | cons p' q' =>
        cases q'
        exact ⟨_, _, rfl, p, p'⟩
  refine wpAny_newObj_type ?_ (by show 2 ≤ sizeLine; decide)
  have I2 : Inv X pins σ H1 { s1 with heap := s1.heap.push { cls := .type "tuple", data := .seq [u1, u2].toArray } } := I1.kept (t' := s1.toks) fun b o e => Heap.get?_push_of_some _ e
  rw [hw]
  refine wpAny_bind (wpAny_pure ?_)
  show wpAny (model X.prog X.w) X.A (do rule "assign.swapped-stores"; let items ← unpackItems (.ref s1.heap.objs.size) 2 none; assignInOrder [fun v => bindName X.env y v, fun v => bindName X.env x v] items.reverse; pure Flow.next) _ _ _
  refine wpAny_bind (wpAny_rule (wpAny_bind (unpackItems_tuple (items := #[u1, u2]) (I.ok.hd hc) (IsTup.new s1.heap _) fun h' hx' => ?_)))
  have I3 := I2.kept (h' := h') (t' := s1.toks) fun b o e => hx' b o (Nat.ne_of_lt (Heap.lt_size e)) e
  show wpAny _ _ (assignInOrder [fun v => bindName X.env y v, fun v => bindName X.env x v] [u2, u1] >>= fun _ => pure Flow.next) _ _ _
  refine wpAny_bind (assignInOrder_cons (wpAny_bindName (store_ok I3 hN hj (.inl hy) rw' (fun s2 I4 => ?_) (.inr hy))))
  refine assignInOrder_cons (wpAny_bindName (store_ok I4 hN hi (.inl hx) rv (fun s3 I5 => assignInOrder_nil (wpAny_pure ?_)) (.inr hx)))
  rw [List.set_comm _ _ (Ne.symm hij)] at I5
  exact ⟨_, H1, I5, q1⟩
/-- name op= e -/
def tAug (i : Nat) (te : TE) (ti : TIp) : TS := fun D σ H => ∃ x, σ[i]? = some (some x) ∧ te σ H fun y H1 => ti x y H1 fun z H2 => D.nx (σ.set i (some z)) H2
theorem ps_aug {i : Nat} {x : Str} {e : Expr} {te : TE} {op : Operator} {ti : TIp} {pos' : Pos} (hN : X.N.Nodup) (hi : X.N[i]? = some x) (hx : Loc X.env.scope x) (he : PE X e te) (ho : PIp X op ti) (hf : X.fn x = true ∨ X.env.scope.names.lookup x = some .local := by first | exact .inl rfl | exact .inr rfl | assumption) :
    PS X (.AugAssign (.Name x pos') op e pos) (tAug i te ti) := by
  intro pins s σ H D I h
  obtain ⟨v, e1, h⟩ := h
  obtain ⟨m, hn, hl⟩ := I.loc
  have vis : Vis X.env.scope x := by rcases hx with k | k; exact .inl k; exact .inr (.inl k)
  obtain ⟨u, r, l⟩ := hl i x v hi e1 vis
  refine wpAny_AugAssign_Name ?_
  have go : wpAny (model X.prog X.w) X.A (eval e X.env) (fun w s₂ => wpAny (model X.prog X.w) X.A (inplaceOp op u w) (fun r s₃ => wpAny (model X.prog X.w) X.A (storeName X.env x r) (fun _ => SP X pins D .next) X.xe s₃) X.xe s₂) X.xe s := by
    refine thn (he pins s σ H _ I h) fun w s1 ⟨y, H1, I1, r1, q1⟩ => ?_
    refine thn (ho pins s1 σ H1 v y u w _ I1 r r1 q1) fun z s2 ⟨zv, H2, I2, r2, q2⟩ => ?_
    exact store_ok I2 hN hi hx r2 (fun s3 I3 => ⟨_, H2, I3, q2⟩) hf
  rcases l with ⟨hk, hm⟩ | ⟨hk, c, hc, hcell⟩
  · exact wpAny_loadName_local I.ok.kind hk hn hm go
  · rcases hk with hk | hk
    · exact wpAny_loadName_cell I.ok.kind hk hc hcell go
    · rcases hx with k | k
      · have : X.env.scope.names.lookup x = some .free := hk
        rw [k] at this; cases this
      · have : X.env.scope.names.lookup x = some .free := hk
        rw [k] at this; cases this
/-- o[i] op= e -/
def tAugS (to ti te : TE) (tget : V → V → Hp → VK → Prop) (tip : TIp) (tset : TSet) : TS := fun D σ H => to σ H fun o H1 => ti σ H1 fun i H2 => tget o i H2 fun x H3 => te σ H3 fun y H4 => tip x y H4 fun z H5 => tset o i z H5 fun H6 => D.nx σ H6
/-- o[i], by values -/
def PGet (X : Cx) (t : V → V → Hp → VK → Prop) : Prop :=
  ∀ (pins : List (Addr × Obj)) (s : Shared) (σ : St) (H : Hp) (o i : V) (ov iv : Value) (Q : VK), Inv X pins σ H s → RelV o ov → RelV i iv → t o i H Q →
    wpAny (model X.prog X.w) X.A (getItem ov iv) (EP X pins σ Q) X.xe s
theorem ps_augS {o i e : Expr} {to ti te : TE} {tget : V → V → Hp → VK → Prop} {tip : TIp} {tset : TSet} {op : Operator} {tpos : Pos} (ho : PE X o to) (hi : PE X i ti) (hg : PGet X tget) (he : PE X e te) (hp : PIp X op tip) (hs : PSet X tset)
    (ha : ∀ ov iv new, augStore i ov iv new = (do holding [new, ov, iv] (setItem ov iv new); release [new, ov, iv] []; pure .next) := by intros; rfl) : PS X (.AugAssign (.Subscript o i tpos) op e pos) (tAugS to ti te tget tip tset) := by
  intro pins s σ H D I h
  refine wpAny_AugAssign_SubscriptAny (thn (ho pins s σ H _ I h) fun ov s1 ⟨x1, H1, I1, r1, q1⟩ => ?_) ha
  refine thn (hi pins s1 σ H1 _ I1 q1) fun iv s2 ⟨x2, H2, I2, r2, q2⟩ => ?_
  refine thn (hg pins s2 σ H2 x1 x2 ov iv _ I2 r1 r2 q2) fun old s3 ⟨x3, H3, I3, r3, q3⟩ => ?_
  refine thn (he pins s3 σ H3 _ I3 q3) fun v s4 ⟨x4, H4, I4, r4, q4⟩ => ?_
  refine thn (hp pins s4 σ H4 x3 x4 old v _ I4 r3 r4 q4) fun new s5 ⟨x5, H5, I5, r5, q5⟩ => ?_
  exact thn (hs pins s5 σ H5 x1 x2 x5 ov iv new _ I5 r1 r2 r5 q5) fun _ s6 ⟨H6, I6, q6⟩ => ⟨σ, H6, I6, q6⟩
/-- ints -/
def ipI (f : Int → Int → Int) : TIp := fun x y H Q => ∃ i j, x = .int i ∧ y = .int j ∧ Q (.int (f i j)) H
theorem ip_add : PIp X .Add (ipI fun i j => i + j) := by
  intro pins s σ H x y v u Q I r1 r2 h
  obtain ⟨i, j, e1, e2, q⟩ := h
  subst e1; subst e2
  obtain ⟨t, rfl⟩ := r1
  obtain ⟨t', rfl⟩ := r2
  exact iadd_int ⟨.int _, H, I.tok _, ⟨_, rfl⟩, q⟩
theorem ip_sub : PIp X .Sub (ipI fun i j => i - j) := by
  intro pins s σ H x y v u Q I r1 r2 h
  obtain ⟨i, j, e1, e2, q⟩ := h
  subst e1; subst e2
  obtain ⟨t, rfl⟩ := r1
  obtain ⟨t', rfl⟩ := r2
  exact isub_int ⟨.int _, H, I.tok _, ⟨_, rfl⟩, q⟩
end

/-! ### while -/
section
variable {X : Cx} {pos : Pos}
/-- the invariant W with its measure -/
def tWhile (c : TT) (tb : TS) : TS := fun D σ H => ∃ W : Nat → St → Hp → Prop, (∃ m, W m σ H) ∧ ∀ m σ H, W m σ H →
  c σ H fun b H1 => if b = true then ∃ N : St → Hp → Prop, (∀ σ' H', N σ' H' → ∃ m', m' < m ∧ W m' σ' H') ∧ tb { D with nx := N, ct := N, bk := D.nx } σ H1 else D.nx σ H1
theorem ps_while {c : Expr} {body : List Stmt} {tc : TT} {tb : TS} (hp : PassesOwn (model X.prog X.w) X.A X.env X.xe) (hc : PT X c tc) (hb : PSs X body tb) : PS X (.While c body [] pos) (tWhile tc tb) := by
  intro pins s σ H D I h
  obtain ⟨W, ⟨m0, w0⟩, turn⟩ := h
  refine wpAny_While (codeAny_whileLoop (fun n s' => ∃ σ' H', Inv X pins σ' H' s' ∧ W n σ' H') ?_ m0 ⟨σ, H, I, w0⟩)
  rintro n s1 ⟨σ1, H1, I1, w1⟩
  refine wpAny_passesOwn hp (thn (hc pins s1 σ1 H1 _ I1 (turn n σ1 H1 w1)) fun b s2 ⟨H2, I2, q2⟩ => ?_)
  cases b with
  | true =>
    obtain ⟨N, hN, q2⟩ := q2
    rw [if_pos rfl]
    refine wpAny_passesOwn hp (thn (hb pins s2 σ1 H2 _ I2 q2) fun f s3 q3 => ?_)
    cases f with
    | next =>
      obtain ⟨σ3, H3, I3, n3⟩ := q3
      obtain ⟨m', hm, w3⟩ := hN σ3 H3 n3
      exact ⟨m', hm, σ3, H3, I3, w3⟩
    | cont =>
      obtain ⟨σ3, H3, I3, n3⟩ := q3
      obtain ⟨m', hm, w3⟩ := hN σ3 H3 n3
      exact ⟨m', hm, σ3, H3, I3, w3⟩
    | brk => exact q3
    | ret v => exact q3
  | false =>
    rw [if_neg Bool.false_ne_true]
    exact wpAny_execs_nil ⟨σ1, H2, I2, q2⟩
end

/-! ### what a loop or a comprehension walks -/
/-- at turn i: it yields x (the heap may grow), or it stops -/
structure It where
  go : Nat → Hp → Prop
  yld : Nat → Hp → V → Hp → Prop
  stop : Nat → Hp → Prop
/-- the iterator's own objects may turn: they are not the frame's, not pinned, younger than the entry (or a comprehension's own) -/
def FpOk (X : Cx) (pins : List (Addr × Obj)) (H : Hp) (b : Addr) : Prop :=
  H b = none ∧ b ≠ X.env.locals ∧ b ∉ X.fs ∧ (b ∈ X.ex ∨ X.s₀.heap.objs.size ≤ b) ∧ (∀ x c, X.env.cells.lookup x = some c → c ≠ b) ∧ ∀ p ∈ X.pn ++ pins, p.1 ≠ b
theorem Inv.fpOk {X : Cx} {pins : List (Addr × Obj)} {σ : St} {H H' : Hp} {s : Shared} {b : Addr} (I : Inv X pins σ H s) (hb : s.heap.objs.size ≤ b) (hn : H' b = none) : FpOk X pins H' b := by
  refine ⟨hn, Nat.ne_of_gt (Nat.lt_of_lt_of_le I.lt hb), I.nofs hb, .inr (Nat.le_trans I.sz hb), fun x c e z => ?_, fun p hp z => ?_⟩
  · obtain ⟨v, q⟩ := I.cell x c e
    exact absurd (Nat.lt_of_lt_of_le q.lt (by rw [z]; exact hb)) (Nat.lt_irrefl _)
  · exact absurd (Nat.lt_of_lt_of_le (Heap.lt_size (I.pin p hp).1) (by rw [z]; exact hb)) (Nat.lt_irrefl _)
structure Turn (P : Program) (w : World) (K : PySem.W.Frag) (tg : Expr) (J : It) (fp : List Addr) (it : Addr) (tn : Nat → Heap → Prop) : Prop where
  mem : it ∈ fp
  obj : ∀ i h, tn i h → ∀ b ∈ fp, ∃ o, h.get? b = some o ∧ ∀ v, o.data ≠ .cell v
  keep : ∀ i h h', tn i h → (∀ b ∈ fp, ∀ o, h.get? b = some o → h'.get? b = some o) → tn i h'
  item : ∀ (X : Cx), X.prog = P → X.w = w → X.K = K → X.calm = true → ∀ (i : Nat) (pins : List (Addr × Obj)) (s : Shared) (σ : St) (H : Hp) (E : Value → Shared → Prop), Inv X pins σ H s → (∀ b ∈ fp, FpOk X pins H b) → tn i s.heap → J.go i H →
    wpAny (model P w) X.A (pyNext (.ref it)) (fun r s1 => ∃ u, r = some u ∧
      wpAny (model P w) X.A (letOwnedTupleGo tg (.ref it) u) (fun _ s2 => ∃ x H', Inv X pins σ H' s2 ∧ RelV x u ∧ J.yld i H x H' ∧ tn (i + 1) s2.heap ∧ ∀ b ∈ fp, H' b = none) E s1) E s
  done : ∀ (X : Cx), X.prog = P → X.w = w → X.K = K → X.calm = true → ∀ (i : Nat) (pins : List (Addr × Obj)) (s : Shared) (σ : St) (H : Hp) (E : Value → Shared → Prop), Inv X pins σ H s → (∀ b ∈ fp, FpOk X pins H b) → tn i s.heap → J.stop i H →
    wpAny (model P w) X.A (pyNext (.ref it)) (fun r s1 => r = none ∧ Inv X pins σ H s1) E s
  self : ∀ (A : Around) (i : Nat) (s : Shared) (Q : Value → Shared → Prop) (E : Value → Shared → Prop), tn i s.heap → Q (.ref it) s → wpAny (model P w) A (pyIter (.ref it)) Q E s
abbrev TI := St → Hp → (It → Hp → Prop) → Prop
/-- an iterator has come -/
def PIE (X : Cx) (pins : List (Addr × Obj)) (σ : St) (tg : Expr) (R : It → Hp → Prop) (itv : Value) (s2 : Shared) : Prop :=
  ∃ (it : Addr) (fp : List Addr) (tn : Nat → Heap → Prop) (J : It) (H' : Hp), itv = .ref it ∧ Inv X pins σ H' s2 ∧ Turn X.prog X.w X.K tg J fp it tn ∧ tn 0 s2.heap ∧ (∀ b ∈ fp, FpOk X pins H' b) ∧ R J H'
def PI (X : Cx) (tg iter : Expr) (wi : TI) : Prop :=
  ∀ (pins : List (Addr × Obj)) (s : Shared) (σ : St) (H : Hp) (R : It → Hp → Prop), Inv X pins σ H s → wi σ H R →
    wpAny (model X.prog X.w) X.A (eval iter X.env) (fun v s1 => wpAny (model X.prog X.w) X.A (pyIter v) (PIE X pins σ tg R) X.xe s1) X.xe s

/-- the step ahead of the store is nothing for an iterator that keeps no tuple -/
theorem go_of {M : Model} {A : Around} {E : Value → Shared → Prop} {s : Shared} {tg : Expr} {it : Addr} {u : Value} {o : Obj} {n : String} {vs : Array Value} {Q : Unit → Shared → Prop} (ho : s.heap.get? it = some o) (hc : o.cls = .type n) (hd : o.data = .fields vs)
    (hn : ["enumerate", "zip", "dict_itemiterator", "dict_reverseitemiterator", "odict_iterator", "itertools.zip_longest", "itertools.pairwise"].contains n = false) (hQ : Q () s) : wpAny M A (letOwnedTupleGo tg (.ref it) u) Q E s := by
  unfold letOwnedTupleGo
  cases tg <;> first
    | exact wpAny_pure hQ
    | (cases u <;> first
        | exact wpAny_pure hQ
        | (refine wpAny_bind (wpAny_load ho ?_)
           rw [hc, hd]
           show wpAny M A (if (["enumerate", "zip", "dict_itemiterator", "dict_reverseitemiterator", "odict_iterator", "itertools.zip_longest", "itertools.pairwise"].contains n && vs[0]? == some (rawInt _)) = true then _ else _) Q E s
           rw [if_neg (by intro h; rw [hn, Bool.false_and] at h; cases h)]
           exact wpAny_pure hQ))

/-- the list at a, as it stands at each turn (a loop may append to it) -/
def Itl (K : PySem.W.Frag) (a : Addr) : It :=
  ⟨fun i H => ∃ xs x, SqL K H a xs ∧ xs[i]? = some x, fun i H x H' => H' = H ∧ ∀ xs, SqL K H a xs → xs[i]? = some x, fun i H => ∃ xs, SqL K H a xs ∧ xs.length ≤ i⟩
def Itt (K : PySem.W.Frag) (a : Addr) : It :=
  ⟨fun i H => ∃ xs x, SqT K H a xs ∧ xs[i]? = some x, fun i H x H' => H' = H ∧ ∀ xs, SqT K H a xs → xs[i]? = some x, fun i H => ∃ xs, SqT K H a xs ∧ xs.length ≤ i⟩
/-- lo, lo + 1, .. (n of them) -/
def Itr (lo : Int) (n : Nat) : It := ⟨fun i _ => i < n, fun i H x H' => H' = H ∧ x = .int (lo + i), fun i _ => n ≤ i⟩
theorem turn_list {P : Program} {w : World} {K : PySem.W.Frag} {tg : Expr} (a it : Addr) : Turn P w K tg (Itl K a) [it] it (fun i h => h.IsListIter it a i) where
  mem := by simp
  obj := fun i h st b hb => by
    have e : b = it := by simpa using hb
    subst e
    obtain ⟨o, e, c, d⟩ := st
    exact ⟨o, e, fun v z => by rw [d] at z; cases z⟩
  keep := fun i h h' st k => st.at fun o e => k it (by simp) o e
  item := by
    intro X hP hw hK hc i pins s σ H E I hf st hg
    subst hP hw hK
    obtain ⟨xs, x, hq, hx⟩ := hg
    obtain ⟨its, rv, p, hz⟩ := I.list hq
    obtain ⟨u, hu, ru⟩ := rv.get hx
    obtain ⟨f0, f1, f2, f3, f4, f5⟩ := hf it (by simp)
    refine wpAny_pyNext_list_item st p.isList (x := u) (by simpa using hu) fun h' st' sb => ?_
    have I1 : Inv X pins σ H { s with heap := h' } := I.turned (t' := s.toks) (fun b o hb e => (sb.2 b hb).trans e) f0 f1 f3 f4 f5
    obtain ⟨o, e, c, d⟩ := id st'
    exact ⟨u, rfl, go_of (s := { s with heap := h' }) e c d (by decide) ⟨x, H, I1, ru, ⟨rfl, fun ys hy => by rw [I.list_inj hy hq]; exact hx⟩, st', fun b hb => (hf b hb).1⟩⟩
  done := by
    intro X hP hw hK hc i pins s σ H E I hf st hg
    subst hP hw hK
    obtain ⟨xs, hq, hx⟩ := hg
    obtain ⟨its, rv, p, hz⟩ := I.list hq
    obtain ⟨f0, f1, f2, f3, f4, f5⟩ := hf it (by simp)
    have hl := rv.length
    exact wpAny_pyNext_list_end (I.ok.hd hc) st p.isList (by simp; omega) fun h' eb => ⟨rfl, I.turned (t' := s.toks) (fun b o hb e => eb b o hb e) f0 f1 f3 f4 f5⟩
  self := fun _ _ _ _ _ st h => wpAny_pyIter_listiter st h
theorem turn_tuple {P : Program} {w : World} {K : PySem.W.Frag} {tg : Expr} (a it : Addr) : Turn P w K tg (Itt K a) [it] it (fun i h => h.IsTupleIter it a i) where
  mem := by simp
  obj := fun i h st b hb => by
    have e : b = it := by simpa using hb
    subst e
    obtain ⟨o, e, c, d⟩ := st
    exact ⟨o, e, fun v z => by rw [d] at z; cases z⟩
  keep := fun i h h' st k => st.at fun o e => k it (by simp) o e
  item := by
    intro X hP hw hK hc i pins s σ H E I hf st hg
    subst hP hw hK
    obtain ⟨xs, x, hq, hx⟩ := hg
    obtain ⟨its, rv, p, hz⟩ := I.tuple hq
    obtain ⟨u, hu, ru⟩ := rv.get hx
    obtain ⟨f0, f1, f2, f3, f4, f5⟩ := hf it (by simp)
    refine wpAny_pyNext_tuple_item st (show s.heap.IsTuple a its.toArray from p) (x := u) (by simpa using hu) fun h' st' sb => ?_
    have I1 : Inv X pins σ H { s with heap := h' } := I.turned (t' := s.toks) (fun b o hb e => (sb.2 b hb).trans e) f0 f1 f3 f4 f5
    obtain ⟨o, e, c, d⟩ := id st'
    exact ⟨u, rfl, go_of (s := { s with heap := h' }) e c d (by decide) ⟨x, H, I1, ru, ⟨rfl, fun ys hy => by rw [I.tuple_inj hy hq]; exact hx⟩, st', fun b hb => (hf b hb).1⟩⟩
  done := by
    intro X hP hw hK hc i pins s σ H E I hf st hg
    subst hP hw hK
    obtain ⟨xs, hq, hx⟩ := hg
    obtain ⟨its, rv, p, hz⟩ := I.tuple hq
    obtain ⟨f0, f1, f2, f3, f4, f5⟩ := hf it (by simp)
    have hl := rv.length
    exact wpAny_pyNext_tuple_end (I.ok.hd hc) st (show s.heap.IsTuple a its.toArray from p) (by simp; omega) fun h' eb => ⟨rfl, I.turned (t' := s.toks) (fun b o hb e => eb b o hb e) f0 f1 f3 f4 f5⟩
  self := fun _ _ _ _ _ st h => wpAny_pyIter_tupleiter st h
theorem turn_range {P : Program} {w : World} {K : PySem.W.Frag} {tg : Expr} (it : Addr) (lo : Int) (n : Nat) : Turn P w K tg (Itr lo n) [it] it (fun i h => IsRangeIter h it (lo + (i : Nat) * 1) ((n : Int) - (i : Nat)) 1) where
  mem := by simp
  obj := fun i h st b hb => by
    have e : b = it := by simpa using hb
    subst e
    exact ⟨_, st, fun v z => by
      have z' : Data.fields _ = Data.cell v := z
      cases z'⟩
  keep := fun i h h' st k => k it (by simp) _ st
  item := by
    intro X hP hw hK hc i pins s σ H E I hf st hg
    subst hP hw hK
    obtain ⟨f0, f1, f2, f3, f4, f5⟩ := hf it (by simp)
    have W := Walks.range (prog := X.prog) (w := X.w) (I.ok.hd hc) it lo 1 n
    refine W.item i s _ _ hg st fun v h' tk hv st' kk => ?_
    obtain ⟨t, rfl⟩ := hv
    have I1 : Inv X pins σ H { s with heap := h', toks := tk } := I.turned (fun b o hb e => kk b o (by simpa using hb) e) f0 f1 f3 f4 f5
    refine ⟨_, rfl, go_of (s := { s with heap := h', toks := tk }) (n := "range_iterator") st' rfl rfl (by decide) ⟨.int (lo + i), H, I1, ⟨t, ?_⟩, ⟨rfl, rfl⟩, st', fun b hb => (hf b hb).1⟩⟩
    rw [Int.mul_one]
  done := by
    intro X hP hw hK hc i pins s σ H E I hf st hg
    subst hP hw hK
    obtain ⟨f0, f1, f2, f3, f4, f5⟩ := hf it (by simp)
    exact wpAny_pyNext_range_end (I.ok.hd hc) st (by have : n ≤ i := hg; omega) fun h' eb => ⟨rfl, I.turned (t' := s.toks) (fun b o hb e => eb b o hb e) f0 f1 f3 f4 f5⟩
  self := fun _ _ _ _ _ st h => wpAny_pyIter_rangeiter st h
end L2

namespace L2
open PySem PySem.Spec PyProof.Rows
section
variable {X : Cx} {tg : Expr}
def iList (K : PySem.W.Frag) (tl : TE) : TI := fun σ H R => tl σ H fun x H1 => ∃ a, x = .ref a ∧ (∃ xs, SqL K H1 a xs) ∧ R (Itl K a) H1
def iTup (K : PySem.W.Frag) (tl : TE) : TI := fun σ H R => tl σ H fun x H1 => ∃ a, x = .ref a ∧ (∃ xs, SqT K H1 a xs) ∧ R (Itt K a) H1
theorem pi_list {l : Expr} {tl : TE} (hl : PE X l tl) : PI X tg l (iList X.K tl) := by
  intro pins s σ H R I h
  refine thn (hl pins s σ H _ I h) fun v s1 ⟨x, H1, I1, r1, q1⟩ => ?_
  obtain ⟨a, e, ⟨xs, hq⟩, q⟩ := q1
  subst e
  cases r1
  obtain ⟨its, rv, p, hz⟩ := I1.list hq
  refine wpAny_pyIter_list p.isList ?_
  refine ⟨s1.heap.objs.size, [s1.heap.objs.size], _, _, H1, rfl, I1.kept (t' := s1.toks) fun b o e => Heap.get?_push_of_some _ e, turn_list a _, ⟨_, Heap.get?_push_size _ rfl, rfl, rfl⟩, fun b hb => ?_, q⟩
  have e : b = s1.heap.objs.size := by simpa using hb
  subst e
  exact I1.fpOk (Nat.le_refl _) (I1.hok.fresh (Nat.le_refl _))
theorem pi_tup {l : Expr} {tl : TE} (hl : PE X l tl) : PI X tg l (iTup X.K tl) := by
  intro pins s σ H R I h
  refine thn (hl pins s σ H _ I h) fun v s1 ⟨x, H1, I1, r1, q1⟩ => ?_
  obtain ⟨a, e, ⟨xs, hq⟩, q⟩ := q1
  subst e
  cases r1
  obtain ⟨its, rv, p, hz⟩ := I1.tuple hq
  refine wpAny_pyIter_tuple (show s1.heap.IsTuple a its.toArray from p) ?_
  refine ⟨s1.heap.objs.size, [s1.heap.objs.size], _, _, H1, rfl, I1.kept (t' := s1.toks) fun b o e => Heap.get?_push_of_some _ e, turn_tuple a _, ⟨_, Heap.get?_push_size _ rfl, rfl, rfl⟩, fun b hb => ?_, q⟩
  have e : b = s1.heap.objs.size := by simpa using hb
  subst e
  exact I1.fpOk (Nat.le_refl _) (I1.hok.fresh (Nat.le_refl _))
/-- a range object just made, walked -/
theorem range_it {pins : List (Addr × Obj)} {σ : St} {H : Hp} {s : Shared} {R : It → Hp → Prop} {E : Value → Shared → Prop} {lo hi : Int} {t u v : Tok} {tk : Nat} (I : Inv X pins σ H s) (h1 : -(2 ^ 62) ≤ lo) (h2 : lo < 2 ^ 62) (h3 : -(2 ^ 62) ≤ hi) (h4 : hi < 2 ^ 62)
    (q : R (Itr lo (hi - lo).toNat) H) : wpAny (model X.prog X.w) X.A (pyIter (.ref s.heap.objs.size)) (PIE X pins σ tg R) E { s with heap := s.heap.push { cls := .type "range", data := .fields #[.int lo t, .int hi u, .int 1 v] }, toks := tk } := by
  refine wpAny_pyIter_range (IsRange.new ..) (small_one h1 h2 h3 h4) ?_
  have I1 : Inv X pins σ H { s with heap := s.heap.push { cls := .type "range", data := .fields #[.int lo t, .int hi u, .int 1 v] }, toks := tk } := I.kept fun b o e => Heap.get?_push_of_some _ e
  refine ⟨(s.heap.push { cls := .type "range", data := .fields #[.int lo t, .int hi u, .int 1 v] }).objs.size, [(s.heap.push { cls := .type "range", data := .fields #[.int lo t, .int hi u, .int 1 v] }).objs.size], _, _, H, rfl,
    I1.kept (t' := tk) fun b o e => Heap.get?_push_of_some _ e, turn_range _ lo (hi - lo).toNat, ?_, fun b hb => ?_, q⟩
  · have e1 : lo + ((0 : Nat) : Int) * 1 = lo := by simp
    have e2 : (((hi - lo).toNat : Nat) : Int) - ((0 : Nat) : Int) = Builtin.Range.rangeSize lo hi 1 := by rw [rangeSize_one]; split <;> omega
    show IsRangeIter _ _ (lo + ((0 : Nat) : Int) * 1) ((((hi - lo).toNat : Nat) : Int) - ((0 : Nat) : Int)) 1
    rw [e1, e2]
    exact Heap.get?_push_size _ rfl
  · have e : b = (s.heap.push { cls := .type "range", data := .fields #[.int lo t, .int hi u, .int 1 v] }).objs.size := by simpa using hb
    subst e
    exact I1.fpOk (Nat.le_refl _) (I1.hok.fresh (Nat.le_refl _))
def iRng1 (ta : TA) : TI := fun σ H R => ta σ H fun vs H1 => ∃ j : Int, vs = [.int j] ∧ -(2 ^ 62) ≤ j ∧ j < 2 ^ 62 ∧ R (Itr 0 j.toNat) H1
def iRng2 (ta : TA) : TI := fun σ H R => ta σ H fun vs H1 => ∃ i j : Int, vs = [.int i, .int j] ∧ (-(2 ^ 62) ≤ i ∧ i < 2 ^ 62 ∧ -(2 ^ 62) ≤ j ∧ j < 2 ^ 62) ∧ R (Itr i (j - i).toNat) H1
theorem pi_range1 {a : Expr} {ta : TA} {p pos : Pos} (hg : Gl X "range") (hm : X.mg "range" = none) (ha : PA X [a] ta) (hs : starEach [a] X.env = [(false, eval a X.env)] := by rfl) : PI X tg (.Call (.Name "range" p) [a] [] pos) (iRng1 ta) := by
  intro pins s σ H R I h
  refine Call_ (ld_blt I hg hm boot_range (PyProof.Rows.callWith_type1 (thn (ha pos pins s σ H _ I h) fun us s1 ⟨vs, H1, I1, r1, q1⟩ => ?_) hs rfl))
  obtain ⟨j, e, q1, q2, q⟩ := q1
  subst e
  cases r1 with
  | cons r rr =>
    cases rr
    obtain ⟨t, rfl⟩ := r
    exact call_range_1 (range_it I1 (by omega) (by omega) q1 q2 (by simpa using q))
theorem pi_range2 {a b : Expr} {ta : TA} {p pos : Pos} (hg : Gl X "range") (hm : X.mg "range" = none) (ha : PA X [a, b] ta) (hs : starEach [a, b] X.env = [(false, eval a X.env), (false, eval b X.env)] := by rfl) (hs2 : starEach [b] X.env = [(false, eval b X.env)] := by rfl) :
    PI X tg (.Call (.Name "range" p) [a, b] [] pos) (iRng2 ta) := by
  intro pins s σ H R I h
  refine Call_ (ld_blt I hg hm boot_range (PyProof.Rows.callWith_type1 (thn (ha pos pins s σ H _ I h) fun us s1 ⟨vs, H1, I1, r1, q1⟩ => ?_) (by rw [hs, hs2]) (by rw [hs2]; rfl)))
  obtain ⟨i, j, e, ⟨q1, q2, q3, q4⟩, q⟩ := q1
  subst e
  cases r1 with
  | cons r rr =>
    cases rr with
    | cons r' rr =>
      cases rr
      obtain ⟨t, rfl⟩ := r
      obtain ⟨t', rfl⟩ := r'
      exact call_range_2 (range_it I1 q1 q2 q3 q4 q)

/-! ### for -/
/-- W: the invariant by the turn and a measure; N: what the body is to reach -/
def tFor (wi : TI) (g : TG) (tb : TS) : TS := fun D σ H => wi σ H fun J H1 => ∃ W : Nat → Nat → St → Hp → Prop, (∃ m, W 0 m σ H1) ∧ ∀ i m σ H, W i m σ H →
  (J.stop i H ∧ D.nx σ H) ∨ (J.go i H ∧ ∃ N : St → Hp → Prop, (∀ σ' H', N σ' H' → ∃ m', m' < m ∧ W (i + 1) m' σ' H') ∧ ∀ x H', J.yld i H x H' → g x σ H' fun σ2 H2 => tb { D with nx := N, ct := N, bk := D.nx } σ2 H2)
/-- the records at fp as they stand -/
def pinsAt (fp : List Addr) (h : Heap) : List (Addr × Obj) := fp.filterMap fun b => (h.get? b).map fun o => (b, o)
theorem mem_pinsAt {fp : List Addr} {h : Heap} {b : Addr} {o : Obj} (hb : b ∈ fp) (e : h.get? b = some o) : (b, o) ∈ pinsAt fp h := List.mem_filterMap.mpr ⟨b, hb, by rw [e]; rfl⟩
theorem of_pinsAt {fp : List Addr} {h : Heap} {p : Addr × Obj} (hp : p ∈ pinsAt fp h) : p.1 ∈ fp ∧ h.get? p.1 = some p.2 := by
  obtain ⟨b, hb, e⟩ := List.mem_filterMap.mp hp
  cases q : h.get? b with
  | none => rw [q] at e; cases e
  | some o =>
    rw [q] at e
    have e' : (b, o) = p := Option.some.inj e
    subst e'
    exact ⟨hb, q⟩
theorem Inv.pinned {pins : List (Addr × Obj)} {σ : St} {H : Hp} {s : Shared} {fp : List Addr} (I : Inv X pins σ H s) (hf : ∀ b ∈ fp, FpOk X pins H b) (ho : ∀ b ∈ fp, ∃ o, s.heap.get? b = some o ∧ ∀ v, o.data ≠ .cell v) : Inv X (pins ++ pinsAt fp s.heap) σ H s :=
  I.pins_of fun p hp => (List.mem_append.mp hp).elim (fun z => I.pin p (List.mem_append_right _ z)) fun z => by
    obtain ⟨hb, e⟩ := of_pinsAt z
    obtain ⟨f0, f1, f2, _⟩ := hf p.1 hb
    obtain ⟨o, e', d⟩ := ho p.1 hb
    rw [e] at e'; cases e'
    exact ⟨e, f0, f1, f2, d⟩
theorem Inv.unpinned {pins pl : List (Addr × Obj)} {σ : St} {H : Hp} {s : Shared} (I : Inv X (pins ++ pl) σ H s) : Inv X pins σ H s := I.pins_of fun p hp => I.pin p (List.mem_append_right _ (List.mem_append_left _ hp))
theorem ps_for {iter : Expr} {body : List Stmt} {wi : TI} {g : TG} {tb : TS} {pos : Pos} (hp : PassesOwn (model X.prog X.w) X.A X.env X.xe) (hc : X.calm = true) (hi : PI X tg iter wi) (hg : PG X tg g) (hb : PSs X body tb)
    (hs : ∀ x, foldedSetIterable iter X.env x = pure x := by intro _; rfl) : PS X (.For tg iter body [] pos) (tFor wi g tb) := by
  intro pins s σ H D I h
  refine wpAny_For (thn (hi pins s σ H _ I h) fun v s1 h1 => thn h1 fun itv s2 h2 => ?_) hs
  obtain ⟨it, fp, tn, J, H2, e, I2, T, st2, f2, W, ⟨m0, w0⟩, turn⟩ := h2
  subst e
  -- what stays true of the iterator's objects through the loop
  have stat : ∀ {H' : Hp}, (∀ b ∈ fp, H' b = none) → ∀ b ∈ fp, FpOk X pins H' b := fun hn b hb => ⟨hn b hb, (f2 b hb).2⟩
  refine codeAny_forLoop_any (fun n s' => ∃ i σ' H', Inv X pins σ' H' s' ∧ tn i s'.heap ∧ (∀ b ∈ fp, H' b = none) ∧ W i n σ' H') ?_ m0 ⟨0, σ, H2, I2, st2, fun b hb => (f2 b hb).1, w0⟩
  rintro n s3 ⟨i, σ3, H3, I3, st3, fr3, w3⟩
  rcases turn i n σ3 H3 w3 with ⟨stop, qn⟩ | ⟨go, N, hN, step⟩
  · refine wpAny_passesOwn hp (thn (T.done X rfl rfl rfl hc i pins s3 σ3 H3 X.xe I3 (stat fr3) st3 stop) fun r s4 ⟨hr, I4⟩ => ?_)
    subst hr
    exact wpAny_execs_nil ⟨σ3, H3, I4, qn⟩
  · refine wpAny_passesOwn hp (thn (T.item X rfl rfl rfl hc i pins s3 σ3 H3 X.xe I3 (stat fr3) st3 go) fun r s4 ⟨u, hr, h4⟩ => ?_)
    subst hr
    refine wpAny_passesOwn hp (thn h4 fun _ s5 ⟨x, H5, I5, r5, y5, st5, fr5⟩ => ?_)
    have I5' := I5.pinned (stat fr5) (T.obj _ _ st5)
    refine wpAny_passesOwn hp (thn (hg _ s5 σ3 H5 x u _ I5' r5 (step x H5 y5)) fun _ s6 ⟨σ6, H6, I6, q6⟩ => ?_)
    refine wpAny_passesOwn hp (thn (hb _ s6 σ6 H6 _ I6 q6) fun f s7 q7 => ?_)
    have again : ∀ {σ7 : St} {H7 : Hp}, Inv X (pins ++ pinsAt fp s5.heap) σ7 H7 s7 → N σ7 H7 → ∃ m, m < n ∧ ∃ i σ' H', Inv X pins σ' H' s7 ∧ tn i s7.heap ∧ (∀ b ∈ fp, H' b = none) ∧ W i m σ' H' := fun {σ7 H7} I7 n7 => by
      obtain ⟨m', hm, w7⟩ := hN σ7 H7 n7
      refine ⟨m', hm, i + 1, σ7, H7, I7.unpinned, T.keep _ _ _ st5 fun b hb o e => (I7.pin (b, o) (List.mem_append_right _ (List.mem_append_right _ (mem_pinsAt hb e)))).1, fun b hb => ?_, w7⟩
      obtain ⟨o, e, d⟩ := T.obj _ _ st5 b hb
      exact (I7.pin (b, o) (List.mem_append_right _ (List.mem_append_right _ (mem_pinsAt hb e)))).2.1
    cases f with
    | next => obtain ⟨σ7, H7, I7, n7⟩ := q7; exact again I7 n7
    | cont => obtain ⟨σ7, H7, I7, n7⟩ := q7; exact again I7 n7
    | brk => obtain ⟨σ7, H7, I7, q7⟩ := q7; exact ⟨σ7, H7, I7.unpinned, q7⟩
    | ret v => obtain ⟨x7, σ7, H7, I7, r7, q7⟩ := q7; exact ⟨x7, σ7, H7, I7.unpinned, r7, q7⟩
end

/-! ### the forms one uses -/
/-- over a list that the body leaves as it is -/
theorem for_list {K : PySem.W.Frag} {a : Addr} {xs : List V} {g : TG} {tb : TS} {D : Ends} {σ : St} {H : Hp} (Pv : Nat → St → Hp → Prop) (h0 : Pv 0 σ H) (hl : ∀ i σ H, i ≤ xs.length → Pv i σ H → SqL K H a xs)
    (hs : ∀ i x σ H, xs[i]? = some x → Pv i σ H → g x σ H fun σ2 H2 => tb { D with nx := Pv (i + 1), ct := Pv (i + 1), bk := D.nx } σ2 H2) (hd : ∀ σ H, Pv xs.length σ H → D.nx σ H) :
    ∃ W : Nat → Nat → St → Hp → Prop, (∃ m, W 0 m σ H) ∧ ∀ i m σ H, W i m σ H →
      ((Itl K a).stop i H ∧ D.nx σ H) ∨ ((Itl K a).go i H ∧ ∃ N : St → Hp → Prop, (∀ σ' H', N σ' H' → ∃ m', m' < m ∧ W (i + 1) m' σ' H') ∧ ∀ x H', (Itl K a).yld i H x H' → g x σ H' fun σ2 H2 => tb { D with nx := N, ct := N, bk := D.nx } σ2 H2) := by
  refine ⟨fun i m σ H => m = xs.length - i ∧ i ≤ xs.length ∧ Pv i σ H, ⟨xs.length, by simp, Nat.zero_le _, h0⟩, ?_⟩
  rintro i m σ H ⟨rfl, hi, p⟩
  have q := hl i σ H hi p
  by_cases hlt : i < xs.length
  · refine .inr ⟨⟨xs, xs[i], q, by simp [hlt]⟩, Pv (i + 1), fun σ' H' p' => ⟨xs.length - (i + 1), by omega, rfl, hlt, p'⟩, fun x H' y => ?_⟩
    obtain ⟨e, y⟩ := y
    subst e
    exact hs i x σ _ (y xs q) p
  · have e : i = xs.length := by omega
    subst e
    exact .inl ⟨⟨xs, q, Nat.le_refl _⟩, hd σ H p⟩
theorem for_tup {K : PySem.W.Frag} {a : Addr} {xs : List V} {g : TG} {tb : TS} {D : Ends} {σ : St} {H : Hp} (Pv : Nat → St → Hp → Prop) (h0 : Pv 0 σ H) (hl : ∀ i σ H, i ≤ xs.length → Pv i σ H → SqT K H a xs)
    (hs : ∀ i x σ H, xs[i]? = some x → Pv i σ H → g x σ H fun σ2 H2 => tb { D with nx := Pv (i + 1), ct := Pv (i + 1), bk := D.nx } σ2 H2) (hd : ∀ σ H, Pv xs.length σ H → D.nx σ H) :
    ∃ W : Nat → Nat → St → Hp → Prop, (∃ m, W 0 m σ H) ∧ ∀ i m σ H, W i m σ H →
      ((Itt K a).stop i H ∧ D.nx σ H) ∨ ((Itt K a).go i H ∧ ∃ N : St → Hp → Prop, (∀ σ' H', N σ' H' → ∃ m', m' < m ∧ W (i + 1) m' σ' H') ∧ ∀ x H', (Itt K a).yld i H x H' → g x σ H' fun σ2 H2 => tb { D with nx := N, ct := N, bk := D.nx } σ2 H2) := by
  refine ⟨fun i m σ H => m = xs.length - i ∧ i ≤ xs.length ∧ Pv i σ H, ⟨xs.length, by simp, Nat.zero_le _, h0⟩, ?_⟩
  rintro i m σ H ⟨rfl, hi, p⟩
  have q := hl i σ H hi p
  by_cases hlt : i < xs.length
  · refine .inr ⟨⟨xs, xs[i], q, by simp [hlt]⟩, Pv (i + 1), fun σ' H' p' => ⟨xs.length - (i + 1), by omega, rfl, hlt, p'⟩, fun x H' y => ?_⟩
    obtain ⟨e, y⟩ := y
    subst e
    exact hs i x σ _ (y xs q) p
  · have e : i = xs.length := by omega
    subst e
    exact .inl ⟨⟨xs, q, Nat.le_refl _⟩, hd σ H p⟩
theorem for_range {lo : Int} {n : Nat} {g : TG} {tb : TS} {D : Ends} {σ : St} {H : Hp} (Pv : Nat → St → Hp → Prop) (h0 : Pv 0 σ H)
    (hs : ∀ i σ H, i < n → Pv i σ H → g (.int (lo + i)) σ H fun σ2 H2 => tb { D with nx := Pv (i + 1), ct := Pv (i + 1), bk := D.nx } σ2 H2) (hd : ∀ σ H, Pv n σ H → D.nx σ H) :
    ∃ W : Nat → Nat → St → Hp → Prop, (∃ m, W 0 m σ H) ∧ ∀ i m σ H, W i m σ H →
      ((Itr lo n).stop i H ∧ D.nx σ H) ∨ ((Itr lo n).go i H ∧ ∃ N : St → Hp → Prop, (∀ σ' H', N σ' H' → ∃ m', m' < m ∧ W (i + 1) m' σ' H') ∧ ∀ x H', (Itr lo n).yld i H x H' → g x σ H' fun σ2 H2 => tb { D with nx := N, ct := N, bk := D.nx } σ2 H2) := by
  refine ⟨fun i m σ H => m = n - i ∧ i ≤ n ∧ Pv i σ H, ⟨n, by simp, Nat.zero_le _, h0⟩, ?_⟩
  rintro i m σ H ⟨rfl, hi, p⟩
  by_cases hlt : i < n
  · refine .inr ⟨hlt, Pv (i + 1), fun σ' H' p' => ⟨n - (i + 1), by omega, rfl, hlt, p'⟩, fun x H' y => ?_⟩
    obtain ⟨e, y⟩ := y
    subst e y
    exact hs i σ _ hlt p
  · have e : i = n := by omega
    subst e
    exact .inl ⟨Nat.le_refl _, hd σ H p⟩
/-- while, by a word and a measure of the state -/
theorem while_by {c : TT} {tb : TS} {D : Ends} {σ : St} {H : Hp} (Pv : St → Hp → Prop) (μ : St → Hp → Nat) (h0 : Pv σ H)
    (hs : ∀ σ H, Pv σ H → c σ H fun b H1 => if b = true then tb { D with nx := fun σ' H' => Pv σ' H' ∧ μ σ' H' < μ σ H, ct := fun σ' H' => Pv σ' H' ∧ μ σ' H' < μ σ H, bk := D.nx } σ H1 else D.nx σ H1)
    (mono : ∀ σ H Q Q', (∀ b H1, Q b H1 → Q' b H1) → c σ H Q → c σ H Q') : tWhile c tb D σ H := by
  refine ⟨fun m σ H => m = μ σ H ∧ Pv σ H, ⟨_, rfl, h0⟩, ?_⟩
  rintro m σ H ⟨rfl, p⟩
  refine mono σ H _ _ (fun b H1 q => ?_) (hs σ H p)
  cases b with
  | true => exact ⟨_, fun σ' H' ⟨p', l⟩ => ⟨_, l, rfl, p'⟩, q⟩
  | false => exact q
end L2

namespace L2
open PySem PySem.Spec PyProof.Rows

abbrev R2 := V → V → Hp → VK → Prop
/-- a two-place operation on values: f is binaryOp op, inplaceOp op or compareOp op -/
def OpR (X : Cx) (f : Value → Value → Sem Value) (r : R2) : Prop :=
  ∀ (pins : List (Addr × Obj)) (s : Shared) (σ : St) (H : Hp) (x y : V) (v u : Value) (Q : VK), Inv X pins σ H s → RelV x v → RelV y u → r x y H Q →
    wpAny (model X.prog X.w) X.A (f v u) (EP X pins σ Q) X.xe s
/-- a one-place operation -/
def UnR (X : Cx) (f : Value → Sem Value) (r : V → Hp → VK → Prop) : Prop :=
  ∀ (pins : List (Addr × Obj)) (s : Shared) (σ : St) (H : Hp) (x : V) (v : Value) (Q : VK), Inv X pins σ H s → RelV x v → r x H Q →
    wpAny (model X.prog X.w) X.A (f v) (EP X pins σ Q) X.xe s
/-- a call of a value that is known (a builtin, a type) with values -/
def CallR (X : Cx) (f : Value) (r : List V → Hp → VK → Prop) : Prop :=
  ∀ (pins : List (Addr × Obj)) (s : Shared) (σ : St) (H : Hp) (xs : List V) (us : List Value) (Q : VK), Inv X pins σ H s → Vals xs us → r xs H Q →
    wpAny (model X.prog X.w) X.A (call f us) (EP X pins σ Q) X.xe s
/-- a value's truth -/
def TruR (X : Cx) (r : V → Hp → (Bool → Hp → Prop) → Prop) : Prop :=
  ∀ (pins : List (Addr × Obj)) (s : Shared) (σ : St) (H : Hp) (x : V) (v : Value) (Q : Bool → Hp → Prop), Inv X pins σ H s → RelV x v → r x H Q →
    wpAny (model X.prog X.w) X.A (truthy v) (TP X pins σ Q) X.xe s

def tOp (r : R2) (ta tb : TE) : TE := fun σ H Q => ta σ H fun x H1 => tb σ H1 fun y H2 => r x y H2 Q
def tUn (r : V → Hp → VK → Prop) (ta : TE) : TE := fun σ H Q => ta σ H fun x H1 => r x H1 Q
/-- ints in, under C, and a value out -/
def rI (C : Int → Int → Prop) (g : Int → Int → V) : R2 := fun x y H Q => ∃ i j, x = .int i ∧ y = .int j ∧ C i j ∧ Q (g i j) H
def rI0 (g : Int → Int → V) : R2 := fun x y H Q => ∃ i j, x = .int i ∧ y = .int j ∧ Q (g i j) H
def rU (g : Int → V) : V → Hp → VK → Prop := fun x H Q => ∃ i, x = .int i ∧ Q (g i) H

section
variable {X : Cx} {a b c : Expr} {ta tb tc : TE} {pos : Pos}

theorem binT (ha : PE X a ta) (hb : PE X b tb) {pins : List (Addr × Obj)} {s : Shared} {σ : St} {H : Hp} {R : V → V → Hp → Prop} (I : Inv X pins σ H s)
    (h : ta σ H fun x H1 => tb σ H1 fun y H2 => R x y H2) {Q : Value → Shared → Prop} {f : Value → Value → Sem Value}
    (hf : ∀ v u s2 x y H2, Inv X pins σ H2 s2 → RelV x v → RelV y u → R x y H2 → wpAny (model X.prog X.w) X.A (f v u) Q X.xe s2) :
    wpAny (model X.prog X.w) X.A (eval a X.env) (fun v s₁ => wpAny (model X.prog X.w) X.A (eval b X.env) (fun u s₂ => wpAny (model X.prog X.w) X.A (f v u) Q X.xe s₂) X.xe s₁) X.xe s := by
  refine thn (ha pins s σ H _ I h) fun v s1 ⟨x, H1, I1, r1, q1⟩ => ?_
  refine thn (hb pins s1 σ H1 _ I1 q1) fun u s2 ⟨y, H2, I2, r2, q2⟩ => ?_
  exact hf v u s2 x y H2 I2 r1 r2 q2

theorem pe_op {op : Operator} {r : R2} (ho : OpR X (binaryOp op) r) (ha : PE X a ta) (hb : PE X b tb) : PE X (.BinOp a op b pos) (tOp r ta tb) := by
  intro pins s σ H Q I h
  exact wpAny_BinOp (binT ha hb I h fun v u s2 x y H2 I2 rx ry q => ho pins s2 σ H2 x y v u Q I2 rx ry q)
theorem pe_un {op : UnaryOp} {r : V → Hp → VK → Prop} (ho : UnR X (unaryOp op) r) (ha : PE X a ta) : PE X (.UnaryOp op a pos) (tUn r ta) := by
  intro pins s σ H Q I h
  exact UnaryOp_ (thn (ha pins s σ H _ I h) fun v s1 ⟨x, H1, I1, r1, q1⟩ => ho pins s1 σ H1 x v Q I1 r1 q1)
/-- a op= e at a name: the name's slot i -/
theorem augR {op : Operator} {r : R2} (ho : OpR X (inplaceOp op) r) {pins : List (Addr × Obj)} {s : Shared} {σ : St} {H : Hp} {x y : V} {v u : Value} {Q : VK} (I : Inv X pins σ H s)
    (rx : RelV x v) (ry : RelV y u) (q : r x y H Q) : wpAny (model X.prog X.w) X.A (inplaceOp op v u) (EP X pins σ Q) X.xe s := ho pins s σ H x y v u Q I rx ry q

/-! ### ints -/
theorem opI {f : Value → Value → Sem Value} {C : Int → Int → Prop} {g : Int → Int → Int}
    (rule : ∀ (i j : Int) (t u : Tok) (s : Shared) (Q : Value → Shared → Prop) (E : Value → Shared → Prop), C i j → Q (.int (g i j) s.toks) { s with toks := s.toks + 1 } → wpAny (model X.prog X.w) X.A (f (.int i t) (.int j u)) Q E s) :
    OpR X f (rI C fun i j => .int (g i j)) := by
  intro pins s σ H x y v u Q I rx ry h
  obtain ⟨i, j, rfl, rfl, hc, q⟩ := h
  obtain ⟨t, rfl⟩ := rx
  obtain ⟨t', rfl⟩ := ry
  exact rule i j t t' s _ _ hc ⟨.int (g i j), H, I.tok _, ⟨_, rfl⟩, q⟩
theorem opI0 {f : Value → Value → Sem Value} {g : Int → Int → Int}
    (rule : ∀ (i j : Int) (t u : Tok) (s : Shared) (Q : Value → Shared → Prop) (E : Value → Shared → Prop), Q (.int (g i j) s.toks) { s with toks := s.toks + 1 } → wpAny (model X.prog X.w) X.A (f (.int i t) (.int j u)) Q E s) :
    OpR X f (rI0 fun i j => .int (g i j)) := by
  intro pins s σ H x y v u Q I rx ry h
  obtain ⟨i, j, rfl, rfl, q⟩ := h
  obtain ⟨t, rfl⟩ := rx
  obtain ⟨t', rfl⟩ := ry
  exact rule i j t t' s _ _ ⟨.int (g i j), H, I.tok _, ⟨_, rfl⟩, q⟩
theorem opB0 {f : Value → Value → Sem Value} {g : Int → Int → Bool}
    (rule : ∀ (i j : Int) (t u : Tok) (s : Shared) (Q : Value → Shared → Prop) (E : Value → Shared → Prop), Q (.bool (g i j)) s → wpAny (model X.prog X.w) X.A (f (.int i t) (.int j u)) Q E s) :
    OpR X f (rI0 fun i j => .bl (g i j)) := by
  intro pins s σ H x y v u Q I rx ry h
  obtain ⟨i, j, rfl, rfl, q⟩ := h
  obtain ⟨t, rfl⟩ := rx
  obtain ⟨t', rfl⟩ := ry
  exact rule i j t t' s _ _ ⟨.bl (g i j), H, I, rfl, q⟩

def CDiv (i j : Int) : Prop := 0 < j ∧ j < 1073741824
def CDivN (i j : Int) : Prop := j ≠ 0 ∧ j.natAbs < 1073741824
def CPow (i j : Int) : Prop := 0 ≤ j ∧ j ≤ 1000000 ∧ i.natAbs < 2 ^ 64
def CMul (i j : Int) : Prop := (-(2 ^ 64) < i ∧ i < 2 ^ 64) ∨ (-(2 ^ 64) < j ∧ j < 2 ^ 64)
theorem CMul.ok {i j : Int} (h : CMul i j) : IntMulOk i j := by
  rcases h with ⟨h1, h2⟩ | ⟨h1, h2⟩
  · exact .of_left (intBits_le_64 h1 h2)
  · exact .of_right (intBits_le_64 h1 h2)
theorem two_pow_nn (k : Nat) : (0 : Int) ≤ 2 ^ k := by
  rw [two_pow_cast]
  exact Int.natCast_nonneg _

theorem op_add : OpR X (binaryOp .Add) (rI0 fun i j => .int (i + j)) := opI0 fun _ _ _ _ _ _ _ q => add_int q
theorem op_sub : OpR X (binaryOp .Sub) (rI0 fun i j => .int (i - j)) := opI0 fun _ _ _ _ _ _ _ q => sub_int q
theorem op_mul : OpR X (binaryOp .Mult) (rI CMul fun i j => .int (i * j)) := opI fun _ _ _ _ _ _ _ hc q => mul_int q hc.ok
/-- // by a positive divisor -/
theorem op_fdiv : OpR X (binaryOp .FloorDiv) (rI CDiv fun i j => .int (i / j)) := opI fun i j _ _ _ _ _ hc q => by
  have h1 : (0 : Int) < j := hc.1
  have h2 : j < 1073741824 := hc.2
  exact floordiv_int (by omega) (by rw [Int.fdiv_eq_ediv_of_nonneg i (by omega)]; exact q) (.inl (PyProof.noPylong_small (by omega)))
theorem op_fdivN : OpR X (binaryOp .FloorDiv) (rI CDivN fun i j => .int (i.fdiv j)) := opI fun _ _ _ _ _ _ _ hc q => floordiv_int hc.1 q (.inl (PyProof.noPylong_small hc.2))
/-- % by a positive divisor of any size -/
theorem op_mod : OpR X (binaryOp .Mod) (rI (fun _ j => 0 < j) fun i j => .int (i % j)) := opI fun i j _ _ _ _ _ hc q => by
  have h1 : (0 : Int) < j := hc
  exact mod_int' (by omega) (by rw [Int.fmod_eq_emod_of_nonneg i (by omega)]; exact q)
theorem op_modN : OpR X (binaryOp .Mod) (rI (fun _ j => j ≠ 0) fun i j => .int (i.fmod j)) := opI fun _ _ _ _ _ _ _ hc q => mod_int' hc q
theorem op_pow : OpR X (binaryOp .Pow) (rI CPow fun i j => .int (i ^ j.toNat)) := opI fun _ _ _ _ _ _ _ hc q => pow_int_small hc.1 hc.2.1 hc.2.2 q
theorem op_shl : OpR X (binaryOp .LShift) (rI CPow fun i j => .int (i * 2 ^ j.toNat)) := opI fun _ _ _ _ _ _ _ hc q => lshift_int_small hc.1 hc.2.1 hc.2.2 q
theorem op_shr : OpR X (binaryOp .RShift) (rI (fun _ j => 0 ≤ j) fun i j => .int (i / 2 ^ j.toNat)) := opI fun i j _ _ _ _ _ hc q =>
  rshift_int hc (by rw [Int.fdiv_eq_ediv_of_nonneg i (two_pow_nn _)]; exact q)
theorem op_and : OpR X (binaryOp .BitAnd) (rI0 fun i j => .int (Builtin.bitAnd i j)) := opI0 fun _ _ _ _ _ _ _ q => and_int q
theorem op_or : OpR X (binaryOp .BitOr) (rI0 fun i j => .int (Builtin.bitOr i j)) := opI0 fun _ _ _ _ _ _ _ q => or_int q
theorem op_xor : OpR X (binaryOp .BitXor) (rI0 fun i j => .int (Builtin.bitXor i j)) := opI0 fun _ _ _ _ _ _ _ q => xor_int q

theorem iop_add : OpR X (inplaceOp .Add) (rI0 fun i j => .int (i + j)) := opI0 fun _ _ _ _ _ _ _ q => iadd_int q
theorem iop_sub : OpR X (inplaceOp .Sub) (rI0 fun i j => .int (i - j)) := opI0 fun _ _ _ _ _ _ _ q => isub_int q
theorem iop_mul : OpR X (inplaceOp .Mult) (rI CMul fun i j => .int (i * j)) := opI fun _ _ _ _ _ _ _ hc q => imul_int q hc.ok
theorem iop_fdiv : OpR X (inplaceOp .FloorDiv) (rI CDiv fun i j => .int (i / j)) := opI fun i j _ _ _ _ _ hc q => by
  have h1 : (0 : Int) < j := hc.1
  have h2 : j < 1073741824 := hc.2
  exact ifloordiv_int (by omega) (by rw [Int.fdiv_eq_ediv_of_nonneg i (by omega)]; exact q) (.inl (PyProof.noPylong_small (by omega)))
theorem iop_mod : OpR X (inplaceOp .Mod) (rI (fun _ j => 0 < j) fun i j => .int (i % j)) := opI fun i j _ _ _ _ _ hc q => by
  have h1 : (0 : Int) < j := hc
  exact imod_int (by omega) (by rw [Int.fmod_eq_emod_of_nonneg i (by omega)]; exact q)
theorem iop_shl : OpR X (inplaceOp .LShift) (rI CPow fun i j => .int (i * 2 ^ j.toNat)) := opI fun _ _ _ _ _ _ _ hc q => ilshift_int_small hc.1 hc.2.1 hc.2.2 q
theorem iop_shr : OpR X (inplaceOp .RShift) (rI (fun _ j => 0 ≤ j) fun i j => .int (i / 2 ^ j.toNat)) := opI fun i j _ _ _ _ _ hc q =>
  irshift_int hc (by rw [Int.fdiv_eq_ediv_of_nonneg i (two_pow_nn _)]; exact q)
theorem iop_and : OpR X (inplaceOp .BitAnd) (rI0 fun i j => .int (Builtin.bitAnd i j)) := opI0 fun _ _ _ _ _ _ _ q => iand_int q
theorem iop_or : OpR X (inplaceOp .BitOr) (rI0 fun i j => .int (Builtin.bitOr i j)) := opI0 fun _ _ _ _ _ _ _ q => ior_int q
theorem iop_xor : OpR X (inplaceOp .BitXor) (rI0 fun i j => .int (Builtin.bitXor i j)) := opI0 fun _ _ _ _ _ _ _ q => ixor_int q

theorem unI {f : Value → Sem Value} {g : Int → Int}
    (rule : ∀ (i : Int) (t : Tok) (s : Shared) (Q : Value → Shared → Prop) (E : Value → Shared → Prop), Q (.int (g i) s.toks) { s with toks := s.toks + 1 } → wpAny (model X.prog X.w) X.A (f (.int i t)) Q E s) :
    UnR X f (rU fun i => .int (g i)) := by
  intro pins s σ H x v Q I rx h
  obtain ⟨i, rfl, q⟩ := h
  obtain ⟨t, rfl⟩ := rx
  exact rule i t s _ _ ⟨.int (g i), H, I.tok _, ⟨_, rfl⟩, q⟩
theorem un_neg : UnR X (unaryOp .USub) (rU fun i => .int (-i)) := unI fun _ _ _ _ _ q => neg_int q
theorem un_inv : UnR X (unaryOp .Invert) (rU fun i => .int (Builtin.bitNot i)) := unI fun _ _ _ _ _ q => invert_int q

/-! ### bools among ints: n += (a < b) -/
theorem op_add_ib : OpR X (binaryOp .Add) (fun x y H Q => ∃ i k, x = .int i ∧ y = .bl k ∧ Q (.int (i + b2i k)) H) := by
  intro pins s σ H x y v u Q I rx ry h
  obtain ⟨i, k, rfl, rfl, q⟩ := h
  obtain ⟨t, rfl⟩ := rx
  cases ry
  exact add_int_bool ⟨.int (i + b2i k), H, I.tok _, ⟨_, rfl⟩, q⟩
end

/-! ### comparisons -/
/-- the scalars that == tells apart as data does -/
def scal : V → V → Bool
  | .non, .non => true | .non, .int _ => true | .int _, .non => true | .non, .bl _ => true | .bl _, .non => true | .non, .str _ => true | .str _, .non => true
  | .int _, .int _ => true | .bl _, .bl _ => true | .str _, .str _ => true | .byt _, .byt _ => true
  | .int _, .str _ => true | .str _, .int _ => true | .bl _, .str _ => true | .str _, .bl _ => true
  | _, _ => false
def rEq : R2 := fun x y H Q => scal x y = true ∧ Q (.bl (decide (x = y))) H
def rNe : R2 := fun x y H Q => scal x y = true ∧ Q (.bl (!decide (x = y))) H

theorem dec_int {i j : Int} : decide (V.int i = V.int j) = (i == j) := by
  rw [Bool.eq_iff_iff]
  simp
theorem dec_bl {i j : Bool} : decide (V.bl i = V.bl j) = (i == j) := by
  rw [Bool.eq_iff_iff]
  simp
theorem dec_str {i j : Str} : decide (V.str i = V.str j) = (i == j) := by
  rw [Bool.eq_iff_iff]
  simp
theorem dec_byt {i j : Array UInt8} : decide (V.byt i = V.byt j) = (i.toList == j.toList) := by
  rw [Bool.eq_iff_iff]
  cases i
  cases j
  simp

section
variable {X : Cx} {a b c : Expr} {ta tb tc : TE} {pos : Pos}
theorem fin_bl {pins : List (Addr × Obj)} {σ : St} {H : Hp} {s : Shared} {Q : VK} {k k' : Bool} (I : Inv X pins σ H s) (q : Q (.bl k) H) (e : k = k') : EP X pins σ Q (.bool k') s := by
  subst e
  exact ⟨.bl k, H, I, rfl, q⟩
theorem op_eq : OpR X (compareOp .Eq) rEq := by
  intro pins s σ H x y v u Q I rx ry h
  obtain ⟨hs, q⟩ := h
  cases x with
  | non =>
    cases rx
    cases y with
    | non => cases ry; exact PySem.EqNone.eq_none_none (fin_bl I q (by simp))
    | bl j => cases ry; exact PySem.EqNone.eq_none_bool (fin_bl I q (by simp))
    | int j => obtain ⟨t', rfl⟩ := ry; exact PySem.EqNone.eq_none_int (fin_bl I q (by simp))
    | str j => obtain ⟨t', rfl⟩ := ry; exact PySem.EqNone.eq_none_str (fin_bl I q (by simp))
    | _ => exact absurd (show false = true from hs) Bool.false_ne_true
  | bl i =>
    cases rx
    cases y with
    | non => cases ry; exact PySem.EqNone.eq_bool_none (fin_bl I q (by simp))
    | bl j => cases ry; exact eq_bool (fin_bl I q dec_bl)
    | str j => obtain ⟨t', rfl⟩ := ry; exact PySem.EqMixed.eq_bool_str (fin_bl I q (by simp))
    | _ => exact absurd (show false = true from hs) Bool.false_ne_true
  | int i =>
    obtain ⟨t, rfl⟩ := rx
    cases y with
    | non => cases ry; exact PySem.EqNone.eq_int_none (fin_bl I q (by simp))
    | int j => obtain ⟨t', rfl⟩ := ry; exact eq_int (fin_bl I q dec_int)
    | str j => obtain ⟨t', rfl⟩ := ry; exact PySem.EqMixed.eq_int_str (fin_bl I q (by simp))
    | _ => exact absurd (show false = true from hs) Bool.false_ne_true
  | str i =>
    obtain ⟨t, rfl⟩ := rx
    cases y with
    | non => cases ry; exact PySem.EqNone.eq_str_none (fin_bl I q (by simp))
    | bl j => cases ry; exact PySem.EqMixed.eq_str_bool (fin_bl I q (by simp))
    | int j => obtain ⟨t', rfl⟩ := ry; exact PySem.EqMixed.eq_str_int (fin_bl I q (by simp))
    | str j => obtain ⟨t', rfl⟩ := ry; exact eq_str (fin_bl I q dec_str)
    | _ => exact absurd (show false = true from hs) Bool.false_ne_true
  | byt i =>
    obtain ⟨t, rfl⟩ := rx
    cases y with
    | byt j => obtain ⟨t', rfl⟩ := ry; exact PySem.W.eq_bytes (fin_bl I q dec_byt)
    | _ => exact absurd (show false = true from hs) Bool.false_ne_true
  | _ => cases y <;> exact absurd (show false = true from hs) Bool.false_ne_true
theorem op_ne : OpR X (compareOp .NotEq) rNe := by
  intro pins s σ H x y v u Q I rx ry h
  obtain ⟨hs, q⟩ := h
  cases x with
  | non =>
    cases rx
    cases y with
    | non => cases ry; exact PySem.EqNone.ne_none_none (fin_bl I q (by simp))
    | bl j => cases ry; exact PySem.EqNone.ne_none_bool (fin_bl I q (by simp))
    | int j => obtain ⟨t', rfl⟩ := ry; exact PySem.EqNone.ne_none_int (fin_bl I q (by simp))
    | str j => obtain ⟨t', rfl⟩ := ry; exact PySem.EqNone.ne_none_str (fin_bl I q (by simp))
    | _ => exact absurd (show false = true from hs) Bool.false_ne_true
  | bl i =>
    cases rx
    cases y with
    | non => cases ry; exact PySem.EqNone.ne_bool_none (fin_bl I q (by simp))
    | bl j => cases ry; exact ne_bool (fin_bl I q (congrArg not dec_bl))
    | str j => obtain ⟨t', rfl⟩ := ry; exact PySem.EqMixed.ne_bool_str (fin_bl I q (by simp))
    | _ => exact absurd (show false = true from hs) Bool.false_ne_true
  | int i =>
    obtain ⟨t, rfl⟩ := rx
    cases y with
    | non => cases ry; exact PySem.EqNone.ne_int_none (fin_bl I q (by simp))
    | int j => obtain ⟨t', rfl⟩ := ry; exact ne_int (fin_bl I q (congrArg not dec_int))
    | str j => obtain ⟨t', rfl⟩ := ry; exact PySem.EqMixed.ne_int_str (fin_bl I q (by simp))
    | _ => exact absurd (show false = true from hs) Bool.false_ne_true
  | str i =>
    obtain ⟨t, rfl⟩ := rx
    cases y with
    | non => cases ry; exact PySem.EqNone.ne_str_none (fin_bl I q (by simp))
    | bl j => cases ry; exact PySem.EqMixed.ne_str_bool (fin_bl I q (by simp))
    | int j => obtain ⟨t', rfl⟩ := ry; exact PySem.EqMixed.ne_str_int (fin_bl I q (by simp))
    | str j => obtain ⟨t', rfl⟩ := ry; exact ne_str (fin_bl I q (congrArg not dec_str))
    | _ => exact absurd (show false = true from hs) Bool.false_ne_true
  | byt i =>
    obtain ⟨t, rfl⟩ := rx
    cases y with
    | byt j => obtain ⟨t', rfl⟩ := ry; exact PySem.W.ne_bytes (fin_bl I q (congrArg not dec_byt))
    | _ => exact absurd (show false = true from hs) Bool.false_ne_true
  | _ => cases y <;> exact absurd (show false = true from hs) Bool.false_ne_true

theorem op_lt : OpR X (compareOp .Lt) (rI0 fun i j => .bl (decide (i < j))) := opB0 fun _ _ _ _ _ _ _ q => lt_int q
theorem op_le : OpR X (compareOp .LtE) (rI0 fun i j => .bl (decide (i ≤ j))) := opB0 fun _ _ _ _ _ _ _ q => le_int q
theorem op_gt : OpR X (compareOp .Gt) (rI0 fun i j => .bl (decide (j < i))) := opB0 fun _ _ _ _ _ _ _ q => gt_int q
theorem op_ge : OpR X (compareOp .GtE) (rI0 fun i j => .bl (decide (j ≤ i))) := opB0 fun _ _ _ _ _ _ _ q => ge_int q
theorem op_lt_str : OpR X (compareOp .Lt) (fun x y H Q => ∃ i j, x = .str i ∧ y = .str j ∧ Q (.bl (decide (i.cps.toList < j.cps.toList))) H) := by
  intro pins s σ H x y v u Q I rx ry h
  obtain ⟨i, j, rfl, rfl, q⟩ := h
  obtain ⟨t, rfl⟩ := rx
  obtain ⟨t', rfl⟩ := ry
  exact lt_str (fin_bl I q rfl)
/-- the one string within the other -/
theorem op_in_str : OpR X (compareOp .In) (fun x y H Q => ∃ i j, x = .str i ∧ y = .str j ∧ Q (.bl (!(Builtin.Str.occurrences j i 0 j.length 1).isEmpty)) H) := by
  intro pins s σ H x y v u Q I rx ry h
  obtain ⟨i, j, rfl, rfl, q⟩ := h
  obtain ⟨t, rfl⟩ := rx
  obtain ⟨t', rfl⟩ := ry
  exact in_str (fin_bl I q rfl)

/-- is None, is not None: the right side a value none -/
theorem op_isN : OpR X (compareOp .Is) (fun x y H Q => y = .non ∧ Q (.bl (decide (x = .non))) H) := by
  intro pins s σ H x y v u Q I rx ry h
  obtain ⟨rfl, q⟩ := h
  cases ry
  refine is_none_gen (fin_bl I q ?_)
  cases x <;> first
    | (cases rx; rfl)
    | (obtain ⟨t, rfl⟩ := rx; rfl)
theorem op_notN : OpR X (compareOp .IsNot) (fun x y H Q => y = .non ∧ Q (.bl (!decide (x = .non))) H) := by
  intro pins s σ H x y v u Q I rx ry h
  obtain ⟨rfl, q⟩ := h
  cases ry
  refine isnot_none_gen (fin_bl I q ?_)
  cases x <;> first
    | (cases rx; rfl)
    | (obtain ⟨t, rfl⟩ := rx; rfl)

theorem op_notin_str : OpR X (compareOp .NotIn) (fun x y H Q => ∃ i j, x = .str i ∧ y = .str j ∧ Q (.bl (!(!(Builtin.Str.occurrences j i 0 j.length 1).isEmpty))) H) := by
  intro pins s σ H x y v u Q I rx ry h
  obtain ⟨i, j, rfl, rfl, q⟩ := h
  obtain ⟨t, rfl⟩ := rx
  obtain ⟨t', rfl⟩ := ry
  exact notIn_str (fin_bl I q rfl)
/-- is, is not of two objects that are tracked lists or instances -/
def isObj : HO → Bool
  | .lst _ => true
  | .ins _ _ _ => true
  | _ => false
theorem obj_there {pins : List (Addr × Obj)} {s : Shared} {σ : St} {H : Hp} {a : Addr} {o : HO} (I : Inv X pins σ H s) (h : H a = some o) (p : isObj o = true) : ∃ ob, s.heap.get? a = some ob ∧ ob.cls ≠ .type "tuple" := by
  cases o with
  | lst xs =>
    obtain ⟨_, its, n, _, e⟩ : xs.length ≤ sizeLine ∧ ∃ (its : List Value) (n : Nat), Vals xs its ∧ s.heap.get? a = some { cls := .type "list", data := .seq its.toArray n } := I.hok a _ h
    exact ⟨_, e, (by show Value.type "list" ≠ .type "tuple"; decide +kernel)⟩
  | ins C dx fs =>
    have x := I.hok a _ h
    obtain ⟨_, _, _, e, _⟩ := x
    exact ⟨_, e, (by show Value.ref C ≠ .type "tuple"; exact fun z => by cases z)⟩
  | _ => exact absurd (show false = true from p) Bool.false_ne_true
theorem op_is_ref : OpR X (compareOp .Is) (fun x y H Q => ∃ a b oa ob, x = .ref a ∧ y = .ref b ∧ H a = some oa ∧ isObj oa = true ∧ H b = some ob ∧ isObj ob = true ∧ Q (.bl (decide (a = b))) H) := by
  intro pins s σ H x y v u Q I rx ry h
  obtain ⟨a, b, oa, ob, rfl, rfl, ha, pa, hb, pb, q⟩ := h
  cases rx
  cases ry
  obtain ⟨o1, e1, n1⟩ := obj_there I ha pa
  obtain ⟨o2, e2, _⟩ := obj_there I hb pb
  by_cases z : a = b
  · subst z
    exact wpAny_is_ref_self (fin_bl I q (by simp))
  · exact wpAny_is_ref_other z e1 e2 n1 (fin_bl I q (by simp [z]))
theorem op_isnot_ref : OpR X (compareOp .IsNot) (fun x y H Q => ∃ a b oa ob, x = .ref a ∧ y = .ref b ∧ H a = some oa ∧ isObj oa = true ∧ H b = some ob ∧ isObj ob = true ∧ Q (.bl (!decide (a = b))) H) := by
  intro pins s σ H x y v u Q I rx ry h
  obtain ⟨a, b, oa, ob, rfl, rfl, ha, pa, hb, pb, q⟩ := h
  cases rx
  cases ry
  obtain ⟨o1, e1, n1⟩ := obj_there I ha pa
  obtain ⟨o2, e2, _⟩ := obj_there I hb pb
  by_cases z : a = b
  · subst z
    exact wpAny_isNot_ref_self (fin_bl I q (by simp))
  · exact wpAny_isNot_ref_other z e1 e2 n1 (fin_bl I q (by simp [z]))

/-- two rules for one operation: by cases -/
theorem OpR.or {f : Value → Value → Sem Value} {r r' : R2} (h : OpR X f r) (h' : OpR X f r') : OpR X f (fun x y H Q => r x y H Q ∨ r' x y H Q) := by
  intro pins s σ H x y v u Q I rx ry q
  rcases q with q | q
  · exact h pins s σ H x y v u Q I rx ry q
  · exact h' pins s σ H x y v u Q I rx ry q

theorem nomark (b : Expr) {op : CmpOp} (h : op ≠ .In := by decide) (h2 : op ≠ .NotIn := by decide) : behindInMarks op b = false := by
  have e1 : (op == CmpOp.In) = false := by cases op <;> first | rfl | exact absurd rfl h
  have e2 : (op == CmpOp.NotIn) = false := by cases op <;> first | rfl | exact absurd rfl h2
  cases b <;> simp [behindInMarks, e1, e2]
/-- a comparison as a value; hm: nomark b, or (for in, not in) by with_unfolding_all rfl -/
theorem pe_cmpR {op : CmpOp} {r : R2} (ho : OpR X (compareOp op) r) (ha : PE X a ta) (hb : PE X b tb) (hm : behindInMarks op b = false) : PE X (.Compare a [op] [b] pos) (tOp r ta tb) := by
  intro pins s σ H Q I h
  exact wpAny_Compare1 (binT ha hb I h fun v u s2 x y H2 I2 rx ry q => ho pins s2 σ H2 x y v u Q I2 rx ry q) hm
/-- a reading of a value as a test -/
def tTest (t : TE) : TT := fun σ H Q => t σ H fun x H' => ∃ k, x = .bl k ∧ Q k H'
theorem pt_cmpR {op : CmpOp} {r : R2} (ho : OpR X (compareOp op) r) (ha : PE X a ta) (hb : PE X b tb) (hm : behindInMarks op b = false) : PT X (.Compare a [op] [b] pos) (tTest (tOp r ta tb)) := by
  intro pins s σ H Q I h
  refine wpAny_isTrue_Compare1 (thn (ha pins s σ H _ I h) fun v s1 ⟨x, H1, I1, r1, q1⟩ => thn (hb pins s1 σ H1 _ I1 q1) fun u s2 ⟨y, H2, I2, r2, q2⟩ =>
    thn (ho pins s2 σ H2 x y v u _ I2 r1 r2 q2) fun c s3 ⟨z, H3, I3, r3, k, e, q3⟩ => ?_) hm
  subst e
  cases r3
  exact wpAny_truthy_bool ⟨H3, I3, q3⟩
/-- a op1 b op2 c -/
def tChain (r r' : R2) (ta tb tc : TE) : TE := fun σ H Q => ta σ H fun x H1 => tb σ H1 fun y H2 => r x y H2 fun z H3 => ∃ k, z = .bl k ∧
  (if k = true then tc σ H3 fun w' H4 => r' y w' H4 Q else Q (.bl false) H3)
theorem pe_chain {op op' : CmpOp} {r r' : R2} (ho : OpR X (compareOp op) r) (ho' : OpR X (compareOp op') r') (ha : PE X a ta) (hb : PE X b tb) (hc : PE X c tc)
    (hm : lastMarks [op, op'] [b, c] = false := by with_unfolding_all rfl) : PE X (.Compare a [op, op'] [b, c] pos) (tChain r r' ta tb tc) := by
  intro pins s σ H Q I h
  refine Compare_chain (thn (ha pins s σ H _ I h) fun v s1 ⟨x, H1, I1, r1, q1⟩ => chain_link (thn (hb pins s1 σ H1 _ I1 q1) fun u s2 ⟨y, H2, I2, r2, q2⟩ =>
    thn (ho pins s2 σ H2 x y v u _ I2 r1 r2 q2) fun d s3 ⟨z, H3, I3, r3, k, e, q3⟩ => ?_)) hm
  subst e
  cases r3
  refine wpAny_truthy_bool ?_
  cases k with
  | false => exact ite_ff ⟨.bl false, H3, I3, rfl, q3⟩
  | true => exact ite_tt (chain_last (thn (hc pins s3 σ H3 _ I3 q3) fun w' s4 ⟨z', H4, I4, r4, q4⟩ => ho' pins s4 σ H4 y z' u w' Q I4 r2 r4 q4))
theorem pt_chain {op op' : CmpOp} {r r' : R2} (ho : OpR X (compareOp op) r) (ho' : OpR X (compareOp op') r') (ha : PE X a ta) (hb : PE X b tb) (hc : PE X c tc)
    (hm : lastMarks [op, op'] [b, c] = false := by with_unfolding_all rfl) : PT X (.Compare a [op, op'] [b, c] pos) (tTest (tChain r r' ta tb tc)) := by
  intro pins s σ H Q I h
  refine isTrue_chain (thn (ha pins s σ H _ I h) fun v s1 ⟨x, H1, I1, r1, q1⟩ => test_link (thn (hb pins s1 σ H1 _ I1 q1) fun u s2 ⟨y, H2, I2, r2, q2⟩ =>
    thn (ho pins s2 σ H2 x y v u _ I2 r1 r2 q2) fun d s3 ⟨z, H3, I3, r3, k, e, q3⟩ => ?_)) hm
  subst e
  cases r3
  refine wpAny_truthy_bool ?_
  cases k with
  | false =>
    obtain ⟨k', e', q'⟩ := q3
    cases e'
    exact ite_ff ⟨H3, I3, q'⟩
  | true =>
    refine ite_tt (test_last (thn (hc pins s3 σ H3 _ I3 q3) fun w' s4 ⟨z', H4, I4, r4, q4⟩ => thn (ho' pins s4 σ H4 y z' u w' _ I4 r2 r4 q4) fun d' s5 ⟨z2, H5, I5, r5, k2, e2, q5⟩ => ?_))
    subst e2
    cases r5
    exact wpAny_truthy_bool ⟨H5, I5, q5⟩

/-! ### truth -/
/-- a value's truth by the abstract heap -/
def TruV (K : PySem.W.Frag) (x : V) (H : Hp) (k : Bool) : Prop :=
  match x with
  | .non => k = false
  | .bl b => k = b
  | .int i => k = (i != 0)
  | .str y => y.length ≤ sizeLine ∧ k = ((y.length : Int) != 0)
  | .byt y => y.size ≤ sizeLine ∧ k = ((y.size : Int) != 0)
  | .ref p => (∃ xs, SqL K H p xs ∧ k = !xs.isEmpty) ∨ (∃ xs, SqT K H p xs ∧ k = !xs.isEmpty) ∨ ∃ kvs, H p = some (.dK kvs) ∧ k = !kvs.isEmpty
  | _ => False
theorem isEmpty_kv {κ : Type} {kvs : List (κ × V)} {vs : List (κ × Value)} (r : KV kvs vs) : (!vs.isEmpty) = !kvs.isEmpty := by
  cases r <;> rfl
theorem isEmpty_of {xs : List V} {its : List Value} (r : Vals xs its) : (!its.toArray.isEmpty) = !xs.isEmpty := by
  cases r <;> simp
theorem line63 : (sizeLine : Nat) < 2 ^ 63 := by rw [sizeLine_eq]; decide
theorem tru_ok : TruR X (fun x H Q => ∃ k, TruV X.K x H k ∧ Q k H) := by
  intro pins s σ H x v Q I rx h
  obtain ⟨k, e, q⟩ := h
  have hl := line63
  have hs : sizeLine = 16777216 := sizeLine_eq
  cases x with
  | non =>
    cases rx
    have e' : k = false := e
    subst e'
    exact truthy_none ⟨H, I, q⟩
  | bl b =>
    cases rx
    have e' : k = b := e
    subst e'
    exact wpAny_truthy_bool ⟨H, I, q⟩
  | int i =>
    obtain ⟨t, rfl⟩ := rx
    have e' : k = (i != 0) := e
    subst e'
    exact PySem.P.truthy_int ⟨H, I, q⟩
  | str y =>
    obtain ⟨t, rfl⟩ := rx
    obtain ⟨hy, e'⟩ : y.length ≤ sizeLine ∧ k = ((y.length : Int) != 0) := e
    subst e'
    exact PySem.P.truthy_str (by omega) ⟨H, I.tok _, q⟩
  | byt y =>
    obtain ⟨t, rfl⟩ := rx
    obtain ⟨hy, e'⟩ : y.size ≤ sizeLine ∧ k = ((y.size : Int) != 0) := e
    subst e'
    exact PySem.W.truthy_bytes (by omega) ⟨H, I.tok _, q⟩
  | ref p =>
    cases rx
    have e' : (∃ xs, SqL X.K H p xs ∧ k = !xs.isEmpty) ∨ (∃ xs, SqT X.K H p xs ∧ k = !xs.isEmpty) ∨ ∃ kvs, H p = some (.dK kvs) ∧ k = !kvs.isEmpty := e
    rcases e' with ⟨xs, hx, e'⟩ | ⟨xs, hx, e'⟩ | ⟨kvs, hx, e'⟩
    · subst e'
      obtain ⟨its, r, pl, hz⟩ := I.list hx
      have hlen := r.length
      exact wpAny_truthy_list pl.isList (by simp only [List.size_toArray]; omega) ⟨H, I.tok _, by rw [isEmpty_of r]; exact q⟩
    · subst e'
      obtain ⟨its, r, pl, hz⟩ := I.tuple hx
      have hlen := r.length
      exact truthy_tuple pl (by simp only [List.size_toArray]; omega) ⟨H, I.tok _, by rw [isEmpty_of r]; exact q⟩
    · subst e'
      obtain ⟨hz, hS, vs, r, m⟩ : kvs.length ≤ sizeLine ∧ (p == sysModules) = false ∧ ∃ vs, KV kvs vs ∧ s.heap.DictOf (mixKind X.prog X.w) p vs := I.hok p _ hx
      have hlen : kvs.length = vs.length := Paired.length r
      exact wpAny_truthy_dict hS m (by omega) ⟨H, I.tok _, by rw [isEmpty_kv r]; exact q⟩
  | _ => exact (show False from e).elim
/-- any expression whose test is its value's truth (a name, a call, a subscript, a field ..: he by fun _ => rfl) -/
theorem pt_truth (ha : PE X a ta) (he : ∀ whole, isTrue a X.env whole = (do let v ← whole; standAt a.pos; holding [v] (truthy v))) :
    PT X a (fun σ H Q => ta σ H fun x H' => ∃ k, TruV X.K x H' k ∧ Q k H') := by
  intro pins s σ H Q I h
  exact isTrue_plain (thn (ha pins s σ H _ I h) fun v s1 ⟨x, H1, I1, r1, q1⟩ => tru_ok pins s1 σ H1 x v Q I1 r1 q1) (he _)

/-! ### strs and bytes -/
theorem pe_byt {x : List UInt8} {k : Nat} : PE X (.Constant (.bytes x) k pos) (fun _ H Q => Q (.byt x.toArray) H) := fun _ _ _ H _ I h => PySem.W.Constant_bytes ⟨.byt x.toArray, H, I.tok _, ⟨_, rfl⟩, h⟩
theorem op_add_str : OpR X (binaryOp .Add) (fun x y H Q => ∃ i j, x = .str i ∧ y = .str j ∧ i.length + j.length ≤ sizeLine ∧ Q (.str (i ++ j)) H) := by
  intro pins s σ H x y v u Q I rx ry h
  obtain ⟨i, j, rfl, rfl, hz, q⟩ := h
  obtain ⟨t, rfl⟩ := rx
  obtain ⟨t', rfl⟩ := ry
  exact add_str (fun t' tk => ⟨.str (i ++ j), H, I.tok _, ⟨_, rfl⟩, q⟩) hz
theorem iop_add_str : OpR X (inplaceOp .Add) (fun x y H Q => ∃ i j, x = .str i ∧ y = .str j ∧ i.length + j.length ≤ sizeLine ∧ Q (.str (i ++ j)) H) := by
  intro pins s σ H x y v u Q I rx ry h
  obtain ⟨i, j, rfl, rfl, hz, q⟩ := h
  obtain ⟨t, rfl⟩ := rx
  obtain ⟨t', rfl⟩ := ry
  exact iadd_str (fun t' tk => ⟨.str (i ++ j), H, I.tok _, ⟨_, rfl⟩, q⟩) hz
theorem op_add_byt : OpR X (binaryOp .Add) (fun x y H Q => ∃ i j, x = .byt i ∧ y = .byt j ∧ i.size + j.size ≤ 16777216 ∧ Q (.byt (i ++ j)) H) := by
  intro pins s σ H x y v u Q I rx ry h
  obtain ⟨i, j, rfl, rfl, hz, q⟩ := h
  obtain ⟨t, rfl⟩ := rx
  obtain ⟨t', rfl⟩ := ry
  exact PySem.W.KBy.add_bytes hz (fun t' tk => ⟨.byt (i ++ j), H, I.tok _, ⟨_, rfl⟩, q⟩)

def PlainIxT (b : Expr) : Prop := ∀ o i, subscripted b false o i = operate [o, i] (getItem o i)
/-- s[i], 0 ≤ i < len -/
theorem pe_item_str (ha : PE X a ta) (hb : PE X b tb) (hs : PlainIxT b) :
    PE X (.Subscript a b pos) (tOp (fun x y H Q => ∃ z i c, x = .str z ∧ y = .int i ∧ 0 ≤ i ∧ i < 2 ^ 63 ∧ i < z.length ∧ z.cps[i.toNat]? = some c ∧ Q (.str ⟨#[c]⟩) H) ta tb) := by
  intro pins s σ H Q I h
  refine Subscript_ (binT ha hb I h fun v u s2 x y H2 I2 rx ry q => ?_)
  obtain ⟨z, i, c, rfl, rfl, h0, h63, h1, hc, q⟩ := q
  obtain ⟨t, rfl⟩ := rx
  obtain ⟨t', rfl⟩ := ry
  have e : seqIndex? i z.length = some i.toNat := PySem.StrLaws.seqIndex_nonneg h0 h1
  exact tail_any (typeIs_str s2 z t) slot_str_getitem.lookup (getItem_str (c := c) (by
    have e1 : decide (i < -(2 ^ 63 : Int)) = false := decide_eq_false (by omega)
    have e2 : decide (i ≥ 2 ^ 63) = false := decide_eq_false (by omega)
    rw [e1, e2] <;> rfl) (by rw [e]; exact hc) ⟨.str ⟨#[c]⟩, H2, I2.tok _, ⟨_, rfl⟩, q⟩) (hs _ _)
/-- b[i], 0 ≤ i < len -/
theorem pe_item_byt (ha : PE X a ta) (hb : PE X b tb) (hs : PlainIxT b) :
    PE X (.Subscript a b pos) (tOp (fun x y H Q => ∃ (z : List UInt8) (i : Int), x = .byt z.toArray ∧ y = .int i ∧ z.length ≤ sizeLine ∧ 0 ≤ i ∧ i < z.length ∧ Q (.int ((z.getD i.toNat 0).toNat : Nat)) H) ta tb) := by
  intro pins s σ H Q I h
  refine Subscript_ (binT ha hb I h fun v u s2 x y H2 I2 rx ry q => ?_)
  obtain ⟨z, i, rfl, rfl, hz, h0, h1, q⟩ := q
  obtain ⟨t, rfl⟩ := rx
  obtain ⟨t', rfl⟩ := ry
  have hl : sizeLine = 16777216 := sizeLine_eq
  exact tail_any (PySem.W.typeIs_bytes s2 z.toArray t) PySem.W.FB.slot_bytes_getitem.lookup (PySem.W.getItem_bytes (by omega) h0 h1 ⟨.int ((z.getD i.toNat 0).toNat : Nat), H2, I2.tok _, ⟨_, rfl⟩, q⟩) (hs _ _)

/-! ### scalar builtins, by CallR -/
theorem vals1 {x : V} {us : List Value} (r : Vals [x] us) : ∃ u, us = [u] ∧ RelV x u := by
  cases r with
  | cons r1 r2 => cases r2; exact ⟨_, rfl, r1⟩
theorem vals2 {x y : V} {us : List Value} (r : Vals [x, y] us) : ∃ u w', us = [u, w'] ∧ RelV x u ∧ RelV y w' := by
  cases r with
  | cons r1 r2 =>
    cases r2 with
    | cons r3 r4 => cases r4; exact ⟨_, _, rfl, r1, r3⟩
theorem call_abs : CallR X (.builtin "abs") (fun xs H Q => ∃ i, xs = [.int i] ∧ Q (.int (if i < 0 then -i else i)) H) := by
  intro pins s σ H xs us Q I r h
  obtain ⟨i, rfl, q⟩ := h
  obtain ⟨u, rfl, t, rfl⟩ := vals1 r
  exact call_abs_int fun u tk => ⟨.int (if i < 0 then -i else i), H, I.tok _, ⟨_, rfl⟩, q⟩
theorem call_max2 (hc : X.calm = true) : CallR X (.builtin "max") (fun xs H Q => ∃ i j, xs = [.int i, .int j] ∧ Q (.int (if j > i then j else i)) H) := by
  intro pins s σ H xs us Q I r h
  obtain ⟨i, j, rfl, q⟩ := h
  obtain ⟨u, w', rfl, ⟨t, rfl⟩, ⟨t', rfl⟩⟩ := vals2 r
  refine max_two_ints (I.ok.hd hc) fun h' tk k => ⟨_, H, I.kept k, ?_, q⟩
  by_cases hj : j > i
  · rw [if_pos hj, if_pos hj]; exact ⟨_, rfl⟩
  · rw [if_neg hj, if_neg hj]; exact ⟨_, rfl⟩
theorem call_min2 (hc : X.calm = true) : CallR X (.builtin "min") (fun xs H Q => ∃ i j, xs = [.int i, .int j] ∧ Q (.int (if j < i then j else i)) H) := by
  intro pins s σ H xs us Q I r h
  obtain ⟨i, j, rfl, q⟩ := h
  obtain ⟨u, w', rfl, ⟨t, rfl⟩, ⟨t', rfl⟩⟩ := vals2 r
  refine min_two_ints (I.ok.hd hc) fun h' tk k => ⟨_, H, I.kept k, ?_, q⟩
  by_cases hj : j < i
  · rw [if_pos hj, if_pos hj]; exact ⟨_, rfl⟩
  · rw [if_neg hj, if_neg hj]; exact ⟨_, rfl⟩
theorem call_int1 : CallR X (.type "int") (fun xs H Q => (∃ i, xs = [.int i] ∧ Q (.int i) H) ∨ ∃ k, xs = [.bl k] ∧ Q (.int (if k then 1 else 0)) H) := by
  intro pins s σ H xs us Q I r h
  rcases h with ⟨i, rfl, q⟩ | ⟨k, rfl, q⟩
  · obtain ⟨u, rfl, t, rfl⟩ := vals1 r
    exact call_int_int ⟨.int i, H, I, ⟨_, rfl⟩, q⟩
  · obtain ⟨u, rfl, r1⟩ := vals1 r
    cases r1
    exact call_int_bool ⟨.int (if k then 1 else 0), H, I.tok _, ⟨_, rfl⟩, q⟩
theorem call_bool1 : CallR X (.type "bool") (fun xs H Q => (∃ i, xs = [.int i] ∧ Q (.bl (i != 0)) H) ∨ ∃ k, xs = [.bl k] ∧ Q (.bl k) H) := by
  intro pins s σ H xs us Q I r h
  rcases h with ⟨i, rfl, q⟩ | ⟨k, rfl, q⟩
  · obtain ⟨u, rfl, t, rfl⟩ := vals1 r
    exact call_bool_int ⟨.bl (i != 0), H, I, rfl, q⟩
  · obtain ⟨u, rfl, r1⟩ := vals1 r
    cases r1
    exact call_bool_bool ⟨.bl k, H, I, rfl, q⟩
theorem call_str_int : CallR X (.type "str") (fun xs H Q => ∃ i, xs = [.int i] ∧ i.natAbs.log2 < 1920 ∧ Q (.str (toString i)) H) := by
  intro pins s σ H xs us Q I r h
  obtain ⟨i, rfl, hz, q⟩ := h
  obtain ⟨u, rfl, t, rfl⟩ := vals1 r
  exact PySem.P.str_of_int hz ⟨.str _, H, I.tok _, ⟨_, rfl⟩, q⟩
theorem call_ord : CallR X (.builtin "ord") (fun xs H Q => ∃ x, xs = [.str x] ∧ x.length = 1 ∧ Q (.int (x.cps.getD 0 0 : Nat)) H) := by
  intro pins s σ H xs us Q I r h
  obtain ⟨x, rfl, hz, q⟩ := h
  obtain ⟨u, rfl, t, rfl⟩ := vals1 r
  exact ord_of_one hz ⟨.int _, H, I.tok _, ⟨_, rfl⟩, q⟩
theorem call_chr : CallR X (.builtin "chr") (fun xs H Q => ∃ i, xs = [.int i] ∧ 0 ≤ i ∧ i ≤ 1114111 ∧ Q (.str ⟨#[i.toNat]⟩) H) := by
  intro pins s σ H xs us Q I r h
  obtain ⟨i, rfl, h0, h1, q⟩ := h
  obtain ⟨u, rfl, t, rfl⟩ := vals1 r
  exact chr_of_range h0 h1 ⟨.str _, H, I.tok _, ⟨_, rfl⟩, q⟩
/-- len of a str, a bytes, a list, a tuple -/
def LenV (K : PySem.W.Frag) (x : V) (H : Hp) (n : Nat) : Prop :=
  match x with
  | .str y => y.length ≤ sizeLine ∧ n = y.length
  | .byt y => y.size ≤ sizeLine ∧ n = y.size
  | .ref p => (∃ xs, SqL K H p xs ∧ n = xs.length) ∨ ∃ xs, SqT K H p xs ∧ n = xs.length
  | _ => False
theorem call_len : CallR X (.builtin "len") (fun xs H Q => ∃ x n, xs = [x] ∧ LenV X.K x H n ∧ Q (.int n) H) := by
  intro pins s σ H xs us Q I r h
  obtain ⟨x, n, rfl, e, q⟩ := h
  obtain ⟨u, rfl, rx⟩ := vals1 r
  have hl := line63
  have hs : sizeLine = 16777216 := sizeLine_eq
  cases x with
  | str y =>
    obtain ⟨t, rfl⟩ := rx
    obtain ⟨hy, e'⟩ : y.length ≤ sizeLine ∧ n = y.length := e
    subst e'
    exact len_str (by omega) ⟨.int _, H, I.tok _, ⟨_, rfl⟩, q⟩
  | byt y =>
    obtain ⟨t, rfl⟩ := rx
    obtain ⟨hy, e'⟩ : y.size ≤ sizeLine ∧ n = y.size := e
    subst e'
    exact PySem.W.len_bytes (by omega) ⟨.int _, H, I.tok _, ⟨_, rfl⟩, q⟩
  | ref p =>
    cases rx
    have e' : (∃ xs, SqL X.K H p xs ∧ n = xs.length) ∨ ∃ xs, SqT X.K H p xs ∧ n = xs.length := e
    rcases e' with ⟨xs, hx, e'⟩ | ⟨xs, hx, e'⟩
    · subst e'
      obtain ⟨its, r', pl, hz⟩ := I.list hx
      have hlen := r'.length
      exact Calls.call_len_list pl.isList (by simp only [List.size_toArray]; omega) ⟨.int xs.length, H, I.tok _, ⟨_, by simp only [List.size_toArray]; rw [hlen]⟩, q⟩
    · subst e'
      obtain ⟨its, r', pl, hz⟩ := I.tuple hx
      have hlen := r'.length
      exact len_tuple pl (by simp only [List.size_toArray]; omega) ⟨.int xs.length, H, I.tok _, ⟨_, by simp only [List.size_toArray]; rw [hlen]⟩, q⟩
  | _ => exact (show False from e).elim
/-- divmod: a new tuple -/
theorem call_divmod : CallR X (.builtin "divmod") (fun xs H Q => ∃ i j, xs = [.int i, .int j] ∧ CDiv i j ∧ ∀ p, H p = none → Q (.ref p) (upd H p (.tup [.int (i / j), .int (i % j)]))) := by
  intro pins s σ H xs us Q I r h
  obtain ⟨i, j, rfl, ⟨h1, h2⟩, q⟩ := h
  obtain ⟨u, w', rfl, ⟨t, rfl⟩, ⟨t', rfl⟩⟩ := vals2 r
  refine divmod_int (by omega) ?_ (.inl (PyProof.noPylong_small (by omega)))
  rw [Int.fdiv_eq_ediv_of_nonneg i (by omega), Int.fmod_eq_emod_of_nonneg i (by omega)]
  have hn : H s.heap.objs.size = none := I.hok.fresh (Nat.le_refl _)
  refine ⟨.ref s.heap.objs.size, _, ?_, rfl, q _ hn⟩
  refine I.laid (fun b o e => Heap.get?_push_of_some _ e) (Nat.le_refl _) ⟨by simp only [List.length_cons, List.length_nil]; rw [sizeLine_eq]; decide, [.int (i / j) s.toks, .int (i % j) (s.toks + 1)], .cons ⟨_, rfl⟩ (.cons ⟨_, rfl⟩ .nil), ?_⟩
  exact ⟨_, Heap.get?_push_size s.heap rfl, rfl, 0, rfl⟩
end
end L2

namespace L2
open PySem PySem.Spec PyProof.Rows

/-! ### an instance, its attributes a map -/
structure ObjM (h : Heap) (x dx C : Addr) (mA : Str → Option Value) : Prop where
  obj : h.get? x = some (PySem.W.instObj C dx)
  ns : h.Ns1 dx mA
  ne : dx ≠ x

theorem lookIn_ns {h : Heap} {dx : Addr} {mA : Str → Option Value} (n : h.Ns1 dx mA) : ∃ od, h.get? dx = some od ∧ ∀ name, PySem.W.lookIn name od = some (mA name) := by
  obtain ⟨o, es, ep, ho, hd, hk, _, hm⟩ := n
  refine ⟨o, ho, fun name => ?_⟩
  have e := hm name
  unfold nsFind findBy at e
  rw [← Array.find?_toList] at e
  unfold PySem.W.lookIn
  rw [hd]
  dsimp only
  split
  · rename_i y q
    rw [q] at e
    exact congrArg some e
  · rename_i q
    rw [q] at e
    have a : es.toList.any (·.refKey) = false := by
      rw [List.any_eq_false]
      intro y hy
      obtain ⟨z, t, hkey⟩ := hk y (Array.mem_toList_iff.mp hy)
      simp [DictEntry.refKey, hkey]
    have a' : ¬ es.toList.any (·.refKey) = true := by rw [a]; exact Bool.false_ne_true
    rw [if_neg a']
    exact congrArg some e

theorem ObjM.look {h : Heap} {x dx C : Addr} {mA : Str → Option Value} (I : ObjM h x dx C mA) : ∃ od, PySem.W.InstAt h x (PySem.W.instObj C dx) C (some od) ∧ ∀ name, PySem.W.lookIn name od = some (mA name) :=
  let ⟨od, ho, hl⟩ := lookIn_ns I.ns
  ⟨od, ⟨I.obj, rfl, rfl, ho⟩, hl⟩

section
variable {prog : Program} {w : World} {A : Around} {E : Value → Shared → Prop} {s : Shared} {K : PySem.W.Frag} {x dx C f : Addr} {mA : Str → Option Value} {name : Str} {v : Value}

theorem get_map {expr : Bool} {Q : Value → Shared → Prop} (X : K.In s.heap) (I : ObjM s.heap x dx C mA) (hg : PySem.W.plainGet K C name = true) (hh : PySem.W.hasDictIn K C = true)
    (ha : PySem.W.findIn K (.ref C) name = some none) (hv : mA name = some v) (hv' : PySem.W.handedIn v = true) (h : Q v { s with toks := s.toks + 1 }) :
    wpAny (model prog w) A (getAttr (.ref x) name expr) Q E s := by
  obtain ⟨od, J, hl⟩ := I.look
  exact PySem.W.get_value X J (PySem.W.plainGet_of hg).1 (PySem.W.findObj_own hh ha rfl (by rw [hl, hv])) hv' h

theorem get_const {expr : Bool} {a : Value} {Q : Value → Shared → Prop} (X : K.In s.heap) (I : ObjM s.heap x dx C mA) (hg : PySem.W.plainGet K C name = true) (hh : PySem.W.hasDictIn K C = true)
    (ha : PySem.W.findIn K (.ref C) name = some (some a)) (hn : PySem.W.specialIn K a "__get__" = some none) (hc : PySem.W.copiedNames.contains name = false) (hv : mA name = none) (hv' : PySem.W.handedIn a = true)
    (h : Q a { s with toks := s.toks + 1 }) : wpAny (model prog w) A (getAttr (.ref x) name expr) Q E s := by
  obtain ⟨od, J, hl⟩ := I.look
  exact PySem.W.get_value X J (PySem.W.plainGet_of hg).1 (PySem.W.findObj_cls hh ha hn hv' hc (by rw [hl, hv])) hv' h

theorem get_meth {pl : Sem Bool} {Q : Value × List Value → Shared → Prop} (X : K.In s.heap) (I : ObjM s.heap x dx C mA) (hg : PySem.W.plainGet K C name = true)
    (hf : PySem.W.findIn K (.ref C) name = some (some (.ref f))) (ht : PySem.W.isFn K (.ref f) = true) (hv : mA name = none) (h : Q (.ref f, [.ref x]) s) :
    wpAny (model prog w) A (getMethod (.ref x) name pl) Q E s := by
  obtain ⟨od, J, hl⟩ := I.look
  exact PySem.W.method_fn X J (PySem.W.plainGet_of hg).1 (PySem.W.plainGet_of hg).2 hf (beq_iff_eq.mp ht) (by show (PySem.W.lookIn name od).map (·.isSome) = some false; rw [hl, hv]; rfl) h

theorem set_map {ns : List Str} {Q : Unit → Shared → Prop} (X : K.In s.heap) (I : ObjM s.heap x dx C mA)
    (hs : PySem.W.findIn K (.ref C) "__setattr__" = some (some (.builtin "object.__setattr__"))) (hp : PySem.W.plainOver K C = true) (ht : PySem.W.takerIn K C name = some none) (hh : PySem.W.hasDictIn K C = true)
    (hw : PySem.Within mA ns) (hsz : ns.length ≤ sizeLine)
    (h : ∀ h', ObjM h' x dx C (fun y => if y = name then some v else mA y) → Heap.SameBut dx s.heap h' → Q () { s with heap := h', toks := s.toks + 2 }) :
    wpAny (model prog w) A (setAttr (.ref x) name v) Q E s := by
  obtain ⟨od, J, hl⟩ := I.look
  refine PySem.W.set_plain X J hs (PySem.W.osa_open (s := { s with toks := s.toks + 1 }) (r := none) X J hp ht fun b => ?_)
  obtain ⟨cd, hc, hd'⟩ := PySem.W.any_some hh
  have hx : s.heap.get? x = some ⟨.ref C, some dx, .plain, #[]⟩ := I.obj
  refine wpAny_bind (wpAny_pure (wpAny_bind (wpAny_bind (wpAny_loadPart hx (wpAny_bind (PySem.W.Looks.here (s := { s with toks := s.toks + 1 }) (PySem.W.looks_clsIn X hc) ?_))))))
  rw [hd']
  refine wpAny_pure (a := some dx) (wpAny_bind (wpAny_pure (wpAny_bind ?_)))
  refine wpAny_nsSet1 (s := { s with toks := s.toks + 1 }) I.ns fun h' hn2 hs2 => ?_
  obtain ⟨oD, esD, epD, hoD, hdD, hcD⟩ := hn2.count (PySem.Within.cons name v hw)
  refine wpAny_bind (wpAny_lookBehind hoD (by rw [hdD]; exact pastItsLine_dict (Nat.le_trans hcD (by rw [List.length_cons]; omega))) ?_)
  exact wpAny_pure (h _ ⟨(hs2.2 _ (Ne.symm I.ne)).trans I.obj, hn2, I.ne⟩ hs2)

/-- C(..): the dict at the heap's end, the instance behind it; then its __init__ -/
theorem make_map {R : Result → Shared → Prop} {vs : List Value} {kw : List (Str × Value)} (X : K.In s.heap) (hm : PySem.W.makesIn K C = true)
    (hi : PySem.W.findIn K (.ref C) "__init__" = some (some (.ref f))) (hf : PySem.W.typeIn K (.ref f) = some (.type "function"))
    (h : codeAny (model prog w) (A.under (.builtin "type.__call__" ⟨.ref C :: vs, kw⟩)) (.call (.ref f) ⟨.ref (s.heap.objs.size + 1) :: vs, kw⟩) (PySem.W.InitBack (s.heap.objs.size + 1) R)
      { s with heap := (s.heap.push PySem.W.emptyDict).push (PySem.W.instObj C s.heap.objs.size) }) :
    codeAny (model prog w) A (.call (.ref C) ⟨vs, kw⟩) R s := by
  obtain ⟨hh, g, d, t, os⟩ := s
  exact PySem.W.make_core (PySem.W.makes_of X hm) (PySem.W.looks_findIn X hi) (fun self => PySem.W.bind_fn X self hf) (.inl rfl) h
/-- C() where there is no __init__ but object's -/
theorem make_map0 {R : Result → Shared → Prop} (X : K.In s.heap) (hm : PySem.W.makesIn K C = true)
    (hi : PySem.W.findIn K (.ref C) "__init__" = some (some (.builtin "object.__init__")))
    (hb : ∀ self, PySem.W.Looks (model prog w) s.heap (bindSpecial (.builtin "object.__init__") self) (.builtin "object.__init__", [self]))
    (h : codeAny (model prog w) (A.under (.builtin "type.__call__" ⟨[.ref C], []⟩)) (.call (.builtin "object.__init__") ⟨[.ref (s.heap.objs.size + 1)], []⟩) (PySem.W.InitBack (s.heap.objs.size + 1) R)
      { s with heap := (s.heap.push PySem.W.emptyDict).push (PySem.W.instObj C s.heap.objs.size) }) :
    codeAny (model prog w) A (.call (.ref C) ⟨[], []⟩) R s := by
  obtain ⟨hh, g, d, t, os⟩ := s
  exact PySem.W.make_core (PySem.W.makes_of X hm) (PySem.W.looks_findIn X hi) hb (.inr ⟨rfl, rfl⟩) h
end

/-! ### the attributes as a list of pairs -/
def putF (f : Str) (v : V) : List (Str × V) → List (Str × V)
  | [] => [(f, v)]
  | (g, x) :: r => if g = f then (g, v) :: r else (g, x) :: putF f v r
theorem lookup_putF (f g : Str) (v : V) : ∀ fs : List (Str × V), (putF f v fs).lookup g = if g = f then some v else fs.lookup g
  | [] => by
    show List.lookup g [(f, v)] = _
    by_cases h : g = f
    · have hb : (g == f) = true := beq_iff_eq.mpr h
      simp only [List.lookup, hb, if_pos h]
    · have hb : (g == f) = false := beq_eq_false_iff_ne.mpr h
      simp only [List.lookup, hb, if_neg h]
  | (k, x) :: r => by
    have ih := lookup_putF f g v r
    rw [show putF f v ((k, x) :: r) = (if k = f then (k, v) :: r else (k, x) :: putF f v r) from rfl]
    by_cases hk : k = f
    · rw [if_pos hk]
      by_cases h : g = k
      · have hb : (g == k) = true := beq_iff_eq.mpr h
        simp only [List.lookup, hb, if_pos (h.trans hk)]
      · have hb : (g == k) = false := beq_eq_false_iff_ne.mpr h
        simp only [List.lookup, hb, if_neg (fun e : g = f => h (e.trans hk.symm))]
    · rw [if_neg hk]
      by_cases h : g = k
      · have hb : (g == k) = true := beq_iff_eq.mpr h
        simp only [List.lookup, hb, if_neg (fun e : g = f => hk (h.symm.trans e))]
      · have hb : (g == k) = false := beq_eq_false_iff_ne.mpr h
        simp only [List.lookup, hb]
        exact ih
theorem keys_putF (f : Str) (v : V) : ∀ fs : List (Str × V), f ∈ (putF f v fs).map (·.1) ∧ ∀ g, g ∈ fs.map (·.1) → g ∈ (putF f v fs).map (·.1)
  | [] => ⟨by simp [putF], fun g h => by simp at h⟩
  | (k, x) :: r => by
    obtain ⟨i1, i2⟩ := keys_putF f v r
    rw [show putF f v ((k, x) :: r) = (if k = f then (k, v) :: r else (k, x) :: putF f v r) from rfl]
    by_cases hk : k = f
    · rw [if_pos hk]
      subst hk
      exact ⟨by simp, fun g h => by simpa using h⟩
    · rw [if_neg hk]
      refine ⟨?_, fun g h => ?_⟩
      · rw [List.map_cons]
        exact List.mem_cons_of_mem _ i1
      · rw [List.map_cons] at h ⊢
        rcases List.mem_cons.mp h with e | e
        · exact List.mem_cons.mpr (.inl e)
        · exact List.mem_cons_of_mem _ (i2 g e)
theorem length_putF (f : Str) (v : V) : ∀ fs : List (Str × V), (putF f v fs).length ≤ fs.length + 1
  | [] => by simp [putF]
  | (k, x) :: r => by
    have ih := length_putF f v r
    rw [show putF f v ((k, x) :: r) = (if k = f then (k, v) :: r else (k, x) :: putF f v r) from rfl]
    by_cases hk : k = f
    · rw [if_pos hk, List.length_cons, List.length_cons]; omega
    · rw [if_neg hk, List.length_cons, List.length_cons]; omega

theorem RelO.some_of {v : V} {o : Option Value} (r : RelO (some v) o) : ∃ u, o = some u ∧ RelV v u := by
  cases o with
  | none => exact (show False from r).elim
  | some u => exact ⟨u, rfl, r⟩
theorem RelO.none_of {o : Option Value} (r : RelO none o) : o = none := by
  cases o with
  | none => rfl
  | some u => exact (show False from r).elim
theorem handed_of {v : V} {u : Value} (r : RelV v u) : PySem.W.handedIn u = true := by
  cases v with
  | non => cases (show u = Value.none from r); rfl
  | bl b => cases (show u = Value.bool b from r); rfl
  | int i => obtain ⟨t, e⟩ := (show ∃ t, u = Value.int i t from r); cases e; rfl
  | str x => obtain ⟨t, e⟩ := (show ∃ t, u = Value.str x t from r); cases e; rfl
  | byt b => obtain ⟨t, e⟩ := (show ∃ t, u = Value.bytes b t from r); cases e; rfl
  | flt b => obtain ⟨t, e⟩ := (show ∃ t, u = Value.float b t from r); cases e; rfl
  | ref a => cases (show u = Value.ref a from r); rfl
  | ty n => cases (show u = Value.type n from r); rfl

section
variable {P : Program} {w : World} {H H' : Hp} {h h' : Heap} {a C dx : Addr} {fs fs' : List (Str × V)}
theorem ins_get (hok : HOk P w H h) (e : H a = some (.ins C dx fs)) : ∃ mA, ObjM h a dx C mA ∧ (∀ f, RelO (fs.lookup f) (mA f)) ∧ PySem.Within mA (fs.map (·.1)) ∧ fs.length ≤ 1000 ∧ H dx = some (.own a) := by
  obtain ⟨d, z, ne, ob, mA, n, r, q⟩ := (show ObjOk P w H h a (.ins C dx fs) from hok a _ e)
  exact ⟨mA, ⟨ob, n, ne⟩, r, q, z, d⟩
end

/-! ### what of the text a class must have -/
structure Cls (K : PySem.W.Frag) (C : Addr) : Prop where
  pg : PySem.W.plainGet K C Str.empty = true
  hd : PySem.W.hasDictIn K C = true
  po : PySem.W.plainOver K C = true
  sa : PySem.W.findIn K (.ref C) "__setattr__" = some (some (.builtin "object.__setattr__"))
theorem Cls.get {K : PySem.W.Frag} {C : Addr} (c : Cls K C) (f : Str) : PySem.W.plainGet K C f = true := c.pg
/-- no class of it has the name -/
def NoAttr (K : PySem.W.Frag) (C : Addr) (f : Str) : Prop := PySem.W.findIn K (.ref C) f = some none
theorem NoAttr.taker {K : PySem.W.Frag} {C : Addr} {f : Str} (n : NoAttr K C f) : PySem.W.takerIn K C f = some none := by
  unfold PySem.W.takerIn
  rw [show PySem.W.findIn K (.ref C) f = some none from n]
  rfl
/-- a constant of the class -/
structure Con (K : PySem.W.Frag) (C : Addr) (f : Str) (v : V) (u : Value) : Prop where
  at_ : PySem.W.findIn K (.ref C) f = some (some u)
  rel : RelV v u
  get : PySem.W.specialIn K u "__get__" = some none
  cp : PySem.W.copiedNames.contains f = false
/-- a method: a plain def of the class or of one above it -/
structure Meth (K : PySem.W.Frag) (C : Addr) (m : Str) (f : Addr) : Prop where
  at_ : PySem.W.findIn K (.ref C) m = some (some (.ref f))
  fn : PySem.W.isFn K (.ref f) = true
  kp : PySem.W.keepIn K (.ref f) = true

section
variable {X : Cx} {pins : List (Addr × Obj)} {σ : St} {H : Hp} {s : Shared} {a C dx : Addr} {fs : List (Str × V)} {f : Str} {v : V} {A : Around} {E : Value → Shared → Prop}

theorem getattr_ok {b : Bool} {Q : Value → Shared → Prop} (I : Inv X pins σ H s) (e : H a = some (.ins C dx fs)) (c : Cls X.K C) (n : NoAttr X.K C f) (l : fs.lookup f = some v)
    (h : ∀ u s', Inv X pins σ H s' → RelV v u → Q u s') : wpAny (model X.prog X.w) A (getAttr (.ref a) f b) Q E s := by
  obtain ⟨mA, O, r, _, _, _⟩ := ins_get I.hok e
  obtain ⟨u, hu, ru⟩ := RelO.some_of (v := v) (o := mA f) (by rw [← l]; exact r f)
  exact get_map I.kIn O (c.get f) c.hd n hu (handed_of ru) (h u _ (I.tok _) ru)

theorem getcon_ok {b : Bool} {u : Value} {Q : Value → Shared → Prop} (I : Inv X pins σ H s) (e : H a = some (.ins C dx fs)) (c : Cls X.K C) (k : Con X.K C f v u) (l : fs.lookup f = none)
    (h : ∀ s', Inv X pins σ H s' → Q u s') : wpAny (model X.prog X.w) A (getAttr (.ref a) f b) Q E s := by
  obtain ⟨mA, O, r, _, _, _⟩ := ins_get I.hok e
  have hn : mA f = none := RelO.none_of (by rw [← l]; exact r f)
  exact get_const I.kIn O (c.get f) c.hd k.at_ k.get k.cp hn (handed_of k.rel) (h _ (I.tok _))

theorem getmeth_ok {m : Str} {g : Addr} {pl : Sem Bool} {Q : Value × List Value → Shared → Prop} (I : Inv X pins σ H s) (e : H a = some (.ins C dx fs)) (c : Cls X.K C) (k : Meth X.K C m g) (l : fs.lookup m = none)
    (h : Q (.ref g, [.ref a]) s) : wpAny (model X.prog X.w) A (getMethod (.ref a) m pl) Q E s := by
  obtain ⟨mA, O, r, _, _, _⟩ := ins_get I.hok e
  have hn : mA m = none := RelO.none_of (by rw [← l]; exact r m)
  exact get_meth I.kIn O (c.get m) k.at_ k.fn hn h

theorem setattr_ok {y : V} {u : Value} {Q : Unit → Shared → Prop} (I : Inv X pins σ H s) (e : H a = some (.ins C dx fs)) (c : Cls X.K C) (n : NoAttr X.K C f) (hl : fs.length < 1000) (ry : RelV y u)
    (h : ∀ s', Inv X pins σ (upd H a (.ins C dx (putF f y fs))) s' → Q () s') : wpAny (model X.prog X.w) A (setAttr (.ref a) f u) Q E s := by
  obtain ⟨mA, O, r, wi, _, ho⟩ := ins_get I.hok e
  have hz : (fs.map (·.1)).length ≤ sizeLine := by rw [List.length_map, sizeLine_eq]; omega
  refine set_map I.kIn O c.sa c.po n.taker c.hd wi hz fun h' O' sb => h _ ?_
  have hd : ∃ o, h'.get? dx = some o := let ⟨o, _, _, e', _⟩ := O'.ns; ⟨o, e'⟩
  refine I.write (x := a) (e := dx) (by rw [e]; exact True.intro) (.inr ho) (fun b q hb z => (sb.2 b hb).trans z) hd ?_
  refine ⟨by rw [upd_ne O.ne]; exact ho, ?_, O.ne, O'.obj, _, O'.ns, fun g => ?_, fun g hg => ?_⟩
  · have := length_putF f y fs; omega
  · show RelO ((putF f y fs).lookup g) (if g = f then some u else mA g)
    rw [lookup_putF]
    by_cases q : g = f
    · rw [if_pos q, if_pos q]; exact ry
    · rw [if_neg q, if_neg q]; exact r g
  · by_cases q : g = f
    · rw [q]; exact (keys_putF f y fs).1
    · refine (keys_putF f y fs).2 g (wi g fun z => hg ?_)
      show (if g = f then some u else mA g) = none
      rw [if_neg q]; exact z

/-- a new instance, tracked, without attributes -/
theorem Inv.made (I : Inv X pins σ H s) : Inv X pins σ (upd (upd H s.heap.objs.size (.own (s.heap.objs.size + 1))) (s.heap.objs.size + 1) (.ins C s.heap.objs.size []))
    { s with heap := (s.heap.push PySem.W.emptyDict).push (PySem.W.instObj C s.heap.objs.size) } := by
  have e1 : (s.heap.push PySem.W.emptyDict).get? s.heap.objs.size = some PySem.W.emptyDict := Heap.get?_push_size s.heap rfl
  have e2 : ((s.heap.push PySem.W.emptyDict).push (PySem.W.instObj C s.heap.objs.size)).get? (s.heap.objs.size + 1) = some (PySem.W.instObj C s.heap.objs.size) := by
    have := Heap.get?_push_size (s.heap.push PySem.W.emptyDict) (o := PySem.W.instObj C s.heap.objs.size) rfl
    rwa [Heap.size_push] at this
  have e3 : (s.heap.push PySem.W.emptyDict).Ns s.heap.objs.size (fun _ => none) := ⟨PySem.W.emptyDict, #[], _, e1, rfl, (fun e he => absurd he (by simp)), fun _ => rfl⟩
  have I1 := I.laid (a := s.heap.objs.size) (o := .own (s.heap.objs.size + 1)) (h' := s.heap.push PySem.W.emptyDict) (t' := s.toks) (fun b u q => Heap.get?_push_of_some _ q) (Nat.le_refl _) ⟨_, e1⟩
  refine I1.laid (a := s.heap.objs.size + 1) (o := .ins C s.heap.objs.size []) (t' := s.toks) (fun b u q => Heap.get?_push_of_some _ q) (Nat.le_of_eq (Heap.size_push _ _)) ?_
  have ne : s.heap.objs.size ≠ s.heap.objs.size + 1 := Nat.ne_of_lt (Nat.lt_succ_self _)
  refine ⟨by rw [upd_ne ne, upd_same], Nat.zero_le _, ne, e2, fun _ => none, (Heap.Ns1.of_empty e3).at fun o q => Heap.get?_push_of_some _ q, fun _ => True.intro, fun y hy => absurd rfl hy⟩

/-- e.f where nothing but the object is asked: through attributeBase (super) and the last hold -/
theorem attr_of {prog : Program} {w : World} {env : Env} {e : Expr} {f : Str} {pos : Pos} {s : Shared} {Q : Value → Shared → Prop} (hb : attributeBase e f env (eval e env) = eval e env)
    (h : wpAny (model prog w) A (eval e env) (fun o s₁ => wpAny (model prog w) A (getAttr o f true) Q E s₁) E s) : wpAny (model prog w) A (eval (.Attribute e f pos) env) Q E s :=
  Attribute_any_ h (by rw [arm_eval_Attribute, hb])
end

/-! ### readings and rules -/
/-- e.f, an attribute of the instance -/
def tFld (K : PySem.W.Frag) (ta : TE) (f : Str) : TE := fun σ H Q => ta σ H fun x H1 => ∃ a C dx fs v, x = .ref a ∧ H1 a = some (.ins C dx fs) ∧ Cls K C ∧ NoAttr K C f ∧ fs.lookup f = some v ∧ Q v H1
/-- e.f, a constant of the class -/
def tCon (K : PySem.W.Frag) (ta : TE) (f : Str) : TE := fun σ H Q => ta σ H fun x H1 => ∃ a C dx fs v u, x = .ref a ∧ H1 a = some (.ins C dx fs) ∧ Cls K C ∧ Con K C f v u ∧ fs.lookup f = none ∧ Q v H1
/-- e.f = value -/
def sFld (K : PySem.W.Frag) (ta tv : TE) (f : Str) : TS := fun D σ H => tv σ H fun y H1 => ta σ H1 fun x H2 => ∃ a C dx fs, x = .ref a ∧ H2 a = some (.ins C dx fs) ∧ Cls K C ∧ NoAttr K C f ∧ fs.length < 1000 ∧
  D.nx σ (upd H2 a (.ins C dx (putF f y fs)))
/-- an augmented operator on two values -/
def InOp (X : Cx) (op : Operator) (rd : V → V → Hp → VK → Prop) : Prop :=
  ∀ (pins : List (Addr × Obj)) (s : Shared) (σ : St) (H : Hp) (x y : V) (u v : Value) (Q : VK), Inv X pins σ H s → RelV x u → RelV y v → rd x y H Q → wpAny (model X.prog X.w) X.A (inplaceOp op u v) (EP X pins σ Q) X.xe s
/-- e.f op= value -/
def sFldAug (K : PySem.W.Frag) (ta tv : TE) (rd : V → V → Hp → VK → Prop) (f : Str) : TS := fun D σ H => ta σ H fun x H1 => ∃ a C dx fs v, x = .ref a ∧ H1 a = some (.ins C dx fs) ∧ Cls K C ∧ NoAttr K C f ∧ fs.lookup f = some v ∧
  tv σ H1 fun y H2 => rd v y H2 fun z H3 => ∃ dx' fs', H3 a = some (.ins C dx' fs') ∧ fs'.length < 1000 ∧ D.nx σ (upd H3 a (.ins C dx' (putF f z fs')))

section
variable {X : Cx} {o e value : Expr} {f : Str} {pos pos' tpos : Pos} {ta tv : TE}
theorem pe_fld (he : PE X e ta) (hb : attributeBase e f X.env (eval e X.env) = eval e X.env) : PE X (.Attribute e f pos) (tFld X.K ta f) := by
  intro pins s σ H Q I h
  refine attr_of hb (thn (he pins s σ H _ I h) fun u s1 ⟨x, H1, I1, rx, a, C, dx, fs, v, ex, ea, c, n, l, q⟩ => ?_)
  subst ex
  obtain rfl : u = Value.ref a := rx
  exact getattr_ok I1 ea c n l fun u' s2 I2 ru => ⟨v, H1, I2, ru, q⟩
theorem pe_con (he : PE X e ta) (hb : attributeBase e f X.env (eval e X.env) = eval e X.env) : PE X (.Attribute e f pos) (tCon X.K ta f) := by
  intro pins s σ H Q I h
  refine attr_of hb (thn (he pins s σ H _ I h) fun u s1 ⟨x, H1, I1, rx, a, C, dx, fs, v, u0, ex, ea, c, k, l, q⟩ => ?_)
  subst ex
  obtain rfl : u = Value.ref a := rx
  exact getcon_ok I1 ea c k l fun s2 I2 => ⟨v, H1, I2, k.rel, q⟩
theorem ps_fld (ha : PE X o ta) (hv : PE X value tv) (hs : swapsWith value (some (.Attribute o f pos')) pos.line X.env = pure false) : PS X (.Assign [.Attribute o f pos'] value pos) (sFld X.K ta tv f) := by
  intro pins s σ H D I h
  refine plainObj_wpAny_Assign_Attribute (thn (hv pins s σ H _ I h) fun u s1 ⟨y, H1, I1, ry, q⟩ => thn (ha pins s1 σ H1 _ I1 q) fun ov s2 ⟨x, H2, I2, rx, a, C, dx, fs, ex, ea, c, n, l, q2⟩ => ?_) hs
  subst ex
  obtain rfl : ov = Value.ref a := rx
  exact setattr_ok I2 ea c n l ry fun s3 I3 => ⟨σ, _, I3, q2⟩
theorem ps_fldaug {op : Operator} {rd : V → V → Hp → VK → Prop} (ha : PE X o ta) (hv : PE X value tv) (hop : InOp X op rd) : PS X (.AugAssign (.Attribute o f tpos) op value pos) (sFldAug X.K ta tv rd f) := by
  intro pins s σ H D I h
  refine wpAny_AugAssign_AttributeAny (thn (ha pins s σ H _ I h) fun ov s1 ⟨x, H1, I1, rx, a, C, dx, fs, v, ex, ea, c, n, l, q⟩ => ?_)
  subst ex
  obtain rfl : ov = Value.ref a := rx
  refine getattr_ok I1 ea c n l fun u s2 I2 ru => thn (hv pins s2 σ H1 _ I2 q) fun w3 s3 ⟨y, H2, I3, ry, q3⟩ => thn (hop pins s3 σ H2 v y u w3 _ I3 ru ry q3) fun w4 s4 ⟨z, H3, I4, rz, dx', fs', ea', l', q4⟩ => ?_
  exact setattr_ok I4 ea' c n l' rz fun s5 I5 => ⟨σ, _, I5, q4⟩
def rAdd : V → V → Hp → VK → Prop := fun x y H Q => ∃ i j, x = .int i ∧ y = .int j ∧ Q (.int (i + j)) H
def rSub : V → V → Hp → VK → Prop := fun x y H Q => ∃ i j, x = .int i ∧ y = .int j ∧ Q (.int (i - j)) H
theorem in_add : InOp X .Add rAdd := by
  rintro pins s σ H x y u v Q I rx ry ⟨i, j, rfl, rfl, q⟩
  obtain ⟨t, rfl⟩ := (show ∃ t, u = Value.int i t from rx)
  obtain ⟨t', rfl⟩ := (show ∃ t', v = Value.int j t' from ry)
  exact PyProof.Rows.iadd_int ⟨.int (i + j), H, I.tok _, ⟨_, rfl⟩, q⟩
theorem in_sub : InOp X .Sub rSub := by
  rintro pins s σ H x y u v Q I rx ry ⟨i, j, rfl, rfl, q⟩
  obtain ⟨t, rfl⟩ := (show ∃ t, u = Value.int i t from rx)
  obtain ⟨t', rfl⟩ := (show ∃ t', v = Value.int j t' from ry)
  exact PyProof.Rows.isub_int ⟨.int (i - j), H, I.tok _, ⟨_, rfl⟩, q⟩

/-- what is between an instance and its method: the tree of a method call -/
theorem methcall_of {pl : Sem Bool} {m : Str} {apos : Pos} {args : List Expr} {pins : List (Addr × Obj)} {s : Shared} {σ : St} {H : Hp} {Q : Value → Shared → Prop} {te : TE} (he : PE X e te) (I : Inv X pins σ H s)
    (h : te σ H fun x H1 => ∃ a C dx fs g, x = .ref a ∧ H1 a = some (.ins C dx fs) ∧ Cls X.K C ∧ Meth X.K C m g ∧ fs.lookup m = none ∧
      ∀ s1, Inv X pins σ H1 s1 → wpAny (model X.prog X.w) X.A (callWith pos (.ref g) [.ref a] (backTo pos (starEach args X.env)) (backToKw pos (keywordEach [] X.env))) Q X.xe s1)
    (ht : eval (.Call (.Attribute e m apos) args [] pos) X.env = (do
      let ov ← eval e X.env
      standAt apos.atName
      let (f, first) ← holding [ov] (getMethod ov m pl)
      callWith pos f first (backTo pos (starEach args X.env)) (backToKw pos (keywordEach [] X.env)))) :
    wpAny (model X.prog X.w) X.A (eval (.Call (.Attribute e m apos) args [] pos) X.env) Q X.xe s := by
  refine PySem.W.methodCall_KW (pl := pl) (thn (he pins s σ H _ I h) fun u s1 ⟨x, H1, I1, rx, a, C, dx, fs, g, ex, ea, c, k, l, q⟩ => ?_) ht
  subst ex
  obtain rfl : u = Value.ref a := rx
  exact getmeth_ok I1 ea c k l (q s1 I1)
end

/-! ### isinstance -/
section
variable {X : Cx} {pins : List (Addr × Obj)} {σ : St} {H : Hp} {s : Shared} {A : Around} {E : Value → Shared → Prop} {Q : Value → Shared → Prop} {c : Value} {b : Bool}
/-- the type of a value, as the fragment's deciders take it; for an instance its class -/
inductive TyOf (K : PySem.W.Frag) (H : Hp) : V → Value → Prop where
  | non : TyOf K H .non (.type "NoneType")
  | bl (x : Bool) : TyOf K H (.bl x) (.type "bool")
  | int (i : Int) : TyOf K H (.int i) (.type "int")
  | str (x : Str) : TyOf K H (.str x) (.type "str")
  | flt (x : UInt64) : TyOf K H (.flt x) (.type "float")
  | lst {a : Addr} {xs : List V} (e : H a = some (.lst xs)) : TyOf K H (.ref a) (.type "list")
  | frz {a : Addr} {o : Obj} {xs : List V} (e : H a = some (.frz o (.lst xs))) : TyOf K H (.ref a) (.type "list")
  | tup {a : Addr} {xs : List V} (e : H a = some (.tup xs)) : TyOf K H (.ref a) (.type "tuple")
  | dK {a : Addr} {kvs : List (Key × V)} (e : H a = some (.dK kvs)) : TyOf K H (.ref a) (.type "dict")
  | dT {a : Addr} {kvs : List (List Key × V)} (e : H a = some (.dT kvs)) : TyOf K H (.ref a) (.type "dict")
  | ins {a C dx : Addr} {fs : List (Str × V)} (e : H a = some (.ins C dx fs)) (cl : Cls K C) (ha : PySem.W.findIn K (.ref C) "__class__" = some (some (.builtin "object.__class__")))
      (hn : PySem.W.specialIn K (.builtin "object.__class__") "__get__" = some (some (.builtin "getset_descriptor.__get__"))) (htk : PySem.W.takesIn K (.builtin "object.__class__") = some true)
      (hm : PySem.W.mroIn K C (.type "object") = some true) : TyOf K H (.ref a) (.ref C)
/-- isinstance(x, c) for one class c, a built-in or an own one: kitOne's answer -/
theorem isinst_ok {x : V} {u t : Value} (I : Inv X pins σ H s) (rx : RelV x u) (ty : TyOf X.K H x t) (e : PySem.W.kitOne X.K t c = some b) (h : ∀ tk, Q (.bool b) { s with toks := tk }) :
    wpAny (model X.prog X.w) A (call (.builtin "isinstance") [u, c]) Q E s := by
  cases ty with
  | non => cases (show u = Value.none from rx); exact PySem.W.kia_one PySem.W.kitx_none I.kIn True.intro e (fun z => nomatch z) h
  | bl y => cases (show u = Value.bool y from rx); exact PySem.W.kia_one PySem.W.kitx_bool I.kIn True.intro e (fun z => nomatch z) h
  | int i => obtain ⟨t, q⟩ := (show ∃ t, u = Value.int i t from rx); cases q; exact PySem.W.kia_one PySem.W.kitx_int I.kIn True.intro e (fun z => nomatch z) h
  | str y => obtain ⟨t, q⟩ := (show ∃ t, u = Value.str y t from rx); cases q; exact PySem.W.kia_one PySem.W.kitx_str I.kIn True.intro e (fun z => nomatch z) h
  | flt y => obtain ⟨t, q⟩ := (show ∃ t, u = Value.float y t from rx); cases q; exact PySem.W.kia_one PySem.W.kitx_float I.kIn True.intro e (fun z => nomatch z) h
  | @lst a xs ea =>
    cases (show u = Value.ref a from rx)
    obtain ⟨_, _, n, _, h1⟩ := (show ObjOk X.prog X.w H s.heap a (.lst xs) from I.hok a _ ea)
    exact PySem.W.kia_one PySem.W.kitx_list I.kIn ⟨_, h1, rfl⟩ e (fun z => nomatch z) h
  | @frz a ob xs ea =>
    cases (show u = Value.ref a from rx)
    obtain ⟨_, _, _, n, _, h1⟩ := (show ObjOk X.prog X.w H s.heap a (.frz ob (.lst xs)) from I.hok a _ ea)
    exact PySem.W.kia_one PySem.W.kitx_list I.kIn ⟨_, h1, rfl⟩ e (fun z => nomatch z) h
  | @tup a xs ea =>
    cases (show u = Value.ref a from rx)
    obtain ⟨_, _, _, p⟩ := (show ObjOk X.prog X.w H s.heap a (.tup xs) from I.hok a _ ea)
    obtain ⟨o, h1, h2, _⟩ := p
    exact PySem.W.kia_one PySem.W.kitx_tuple I.kIn ⟨o, h1, h2⟩ e (fun z => nomatch z) h
  | @dK a kvs ea =>
    cases (show u = Value.ref a from rx)
    obtain ⟨_, _, vs, _, p⟩ := (show ObjOk X.prog X.w H s.heap a (.dK kvs) from I.hok a _ ea)
    obtain ⟨o, es, ep, h1, h2, _⟩ := p
    exact PySem.W.kia_one PySem.W.kitx_dict I.kIn ⟨o, h1, h2.1⟩ e (fun z => nomatch z) h
  | @dT a kvs ea =>
    cases (show u = Value.ref a from rx)
    obtain ⟨_, _, xs, _, o, es, ep, h1, h2, _⟩ := (show ObjOk X.prog X.w H s.heap a (.dT kvs) from I.hok a _ ea)
    exact PySem.W.kia_one PySem.W.kitx_dict I.kIn ⟨o, h1, h2.1⟩ e (fun z => nomatch z) h
  | @ins a C dx fs ea cl ha hn htk hm =>
    cases (show u = Value.ref a from rx)
    obtain ⟨mA, O, _⟩ := ins_get I.hok ea
    obtain ⟨od, J, _⟩ := O.look
    exact PySem.W.kia_one (PySem.W.kitx_own (cl.get _) cl.hd ha hn htk hm) I.kIn J e (fun z => nomatch z) h
end
end L2

namespace L2
open PySem PySem.Spec PyProof.Rows

/-! ### room -/
structure Room (k : Nat) (A : Around) : Prop where
  hd : A.handled = none
  dp : A.depth + 3 * k + 5 < recursionLimit
  un : A.units + 16 * k + 200 < cLine
theorem Room.mono {j k : Nat} {A : Around} (r : Room k A) (h : j ≤ k) : Room j A := ⟨r.hd, by have := r.dp; omega, by have := r.un; omega⟩
theorem Room.deeper {k : Nat} {A : Around} (r : Room (k + 1) A) (env : Env) : Room k (A.deeper env) :=
  ⟨r.hd, by have := r.dp; show A.depth + 1 + 3 * k + 5 < _; omega, by have := r.un; show A.units + 3 + 16 * k + 200 < _; omega⟩
theorem Room.in1 {k : Nat} {A : Around} (r : Room (k + 1) A) : Room k A.in1 :=
  ⟨r.hd, by have := r.dp; show A.depth + 3 * k + 5 < _; omega, by have := r.un; show A.units + 1 + 16 * k + 200 < _; omega⟩
theorem make_depth {A : Around} {C : Addr} {us : List Value} {kw : List (Str × Value)} : (A.under (.builtin "type.__call__" ⟨.ref C :: us, kw⟩)).depth = A.depth + 1 := by
  first | rfl | simp [Around.under, Code.weight, Code.isCreation, Code.isGuard, Code.isCaller, Code.frames, Code.isFrame, guardIds]
theorem make_units {A : Around} {C : Addr} {us : List Value} {kw : List (Str × Value)} : (A.under (.builtin "type.__call__" ⟨.ref C :: us, kw⟩)).units = A.units + 1 := by
  first | rfl | simp [Around.under, Code.cUnits, Code.frames, Code.isFrame]
theorem Room.make {k : Nat} {A : Around} (r : Room (k + 1) A) (C : Addr) (us : List Value) (kw : List (Str × Value)) : Room k (A.under (.builtin "type.__call__" ⟨.ref C :: us, kw⟩)) :=
  ⟨r.hd, by have := r.dp; rw [make_depth]; omega, by have := r.un; rw [make_units]; omega⟩
theorem Room.depth {k : Nat} {A : Around} (r : Room k A) : A.depth < recursionLimit := by have := r.dp; omega
theorem Room.units {k : Nat} {A : Around} (r : Room k A) : A.units + 64 < cLine := by have := r.un; omega
theorem Room.units0 {k : Nat} {A : Around} (r : Room k A) : A.units < cLine := by have := r.un; omega

/-! ### argument lists and displays -/
def tNil : TA := fun _ H Q => Q [] H
def tCons (ta : TE) (tr : TA) : TA := fun σ H Q => ta σ H fun x H1 => tr σ H1 fun xs H2 => Q (x :: xs) H2
section
variable {X : Cx} {e : Expr} {es : List Expr} {te : TE} {t : TA} {pos : Pos}
theorem pa_nil : PA X [] tNil := fun _ _ _ _ H Q I h => Calls.spliced_nil ⟨[], H, I, .nil, h⟩
theorem pa_cons (ha : PE X e te) (hr : PA X es t) (hs : starEach (e :: es) X.env = (false, eval e X.env) :: starEach es X.env := by rfl) : PA X (e :: es) (tCons te t) := by
  intro pos pins s σ H Q I h
  rw [hs]
  show wpAny _ _ (spliced ((false, eval e X.env) :: backTo pos (starEach es X.env))) _ _ s
  refine Calls.spliced_cons (thn (ha pins s σ H _ I h) fun u s1 ⟨x, H1, I1, r1, q1⟩ => ?_)
  exact thn (hr pos pins s1 σ H1 _ I1 q1) fun us s2 ⟨xs, H2, I2, r2, q2⟩ => ⟨x :: xs, H2, I2, .cons r1 r2, q2⟩

/-- a tuple, a list of written items -/
def tTup (t : TA) : TE := fun σ H Q => t σ H fun xs H1 => xs.length ≤ sizeLine ∧ ∀ p, H1 p = none → Q (.ref p) (upd H1 p (.tup xs))
def tLst (t : TA) : TE := fun σ H Q => t σ H fun xs H1 => xs.length ≤ sizeLine ∧ ∀ p, H1 p = none → Q (.ref p) (upd H1 p (.lst xs))
theorem pe_tup {x1} (h : PA X es t) : PE X (.Tuple es x1 pos) (tTup t) := by
  intro pins s σ H Q I hq
  refine wpAny_Tuple_spliced (thn (h pos pins s σ H _ I hq) fun us s1 ⟨xs, H1, I1, r, z, q⟩ => ⟨by rw [← r.length]; exact z, ?_⟩)
  have hf : H1 s1.heap.objs.size = none := I1.hok.fresh (Nat.le_refl _)
  refine ⟨.ref s1.heap.objs.size, upd H1 s1.heap.objs.size (.tup xs), I1.laid (t' := s1.toks) (fun b u e => Heap.get?_push_of_some _ e) (Nat.le_refl _) ?_, rfl, q _ hf⟩
  exact ⟨z, us, r, ⟨_, Heap.get?_push_size _ rfl, rfl, _, rfl⟩⟩
theorem pe_lst (h : PA X es t) : PE X (.List es pos) (tLst t) := by
  intro pins s σ H Q I hq
  refine wpAny_List_spliced (thn (h pos pins s σ H _ I hq) fun us s1 ⟨xs, H1, I1, r, z, q⟩ => ⟨by rw [← r.length]; exact z, ?_⟩)
  have hf : H1 s1.heap.objs.size = none := I1.hok.fresh (Nat.le_refl _)
  refine ⟨.ref s1.heap.objs.size, upd H1 s1.heap.objs.size (.lst xs), I1.laid (t' := s1.toks) (fun b u e => Heap.get?_push_of_some _ e) (Nat.le_refl _) ?_, rfl, q _ hf⟩
  exact ⟨z, us, 0, r, Heap.get?_push_size _ rfl⟩
end

/-! ### what a def promises -/
/-- a def's promise: the bound arguments in the parameters' order, the heap, the wanted end, the wanted exception -/
abbrev Sp := List V → Hp → VK → XK → Prop
/-- how an exception lies behind a call (file 08 gives it): the callers' frames, abstract heap and state ahead of the call, the wish, the exception, the state -/
abbrev CXT := List Env → Hp → Shared → XK → Value → Shared → Prop

/-- the state at a call -/
structure Env0 (P : Program) (w : World) (K : PySem.W.Frag) (mg : Str → Option Value) (base : Heap) (A : Around) (outer : List Env) (s : Shared) (H : Hp) : Prop where
  frames : A.frames = some outer
  mod : Mod K mg base
  bs : ∀ b o, base.get? b = some o → s.heap.get? b = some o ∧ H b = none
  bsz : base.objs.size ≤ s.heap.objs.size
  funs : s.heap.FunFrames base outer
  frf : ∀ b ∈ frs outer, H b = none
  hok : HOk P w H s.heap
  bare : AllBare s.gens
/-- a call's end -/
def CE (outer : List Env) (P : Program) (w : World) (H : Hp) (s : Shared) (Q : VK) (u : Value) (s' : Shared) : Prop :=
  ∃ v H', s'.os = s.os ∧ AllBare s'.gens ∧ Un (frs outer) [] H H' s.heap s'.heap ∧ HOk P w H' s'.heap ∧ RelV v u ∧ Q v H'
def CR (CX : CXT) (outer : List Env) (P : Program) (w : World) (H : Hp) (s : Shared) (Q : VK) (E : XK) (r : Result) (s' : Shared) : Prop :=
  match r with
  | .ok (.ret u) => CE outer P w H s Q u s'
  | .ok _ => False
  | .error e => CX outer H s E e s'
structure FnOk (P : Program) (w : World) (K : PySem.W.Frag) (mg : Str → Option Value) (base : Heap) (CX : CXT) (k : Nat) (f : Addr) (fd : FuncData) (ps : List Str) (sp : Sp) : Prop where
  len : ∀ vs H Q E, sp vs H Q E → vs.length = ps.length
  run : ∀ (A : Around) (outer : List Env) (s : Shared) (H : Hp) (args : Args) (us : List Value) (vs : List V) (Q : VK) (E : XK), Room k A → Env0 P w K mg base A outer s H → BindsTo s fd args (ps.zip us) → Vals vs us → sp vs H Q E →
    codeAny (model P w) A (.call (.ref f) args) (CR CX outer P w H s Q E) s
theorem FnOk.mono {P : Program} {w : World} {K : PySem.W.Frag} {mg : Str → Option Value} {base : Heap} {CX : CXT} {j k : Nat} {f : Addr} {fd : FuncData} {ps : List Str} {sp : Sp} (F : FnOk P w K mg base CX j f fd ps sp) (h : j ≤ k) :
    FnOk P w K mg base CX k f fd ps sp := ⟨F.len, fun A outer s H args us vs Q E hr => F.run A outer s H args us vs Q E (hr.mono h)⟩
/-- a weaker promise -/
theorem FnOk.imp {P : Program} {w : World} {K : PySem.W.Frag} {mg : Str → Option Value} {base : Heap} {CX : CXT} {k : Nat} {f : Addr} {fd : FuncData} {ps : List Str} {sp sp' : Sp} (F : FnOk P w K mg base CX k f fd ps sp)
    (h : ∀ vs H Q E, sp' vs H Q E → sp vs H Q E) : FnOk P w K mg base CX k f fd ps sp' :=
  ⟨fun vs H Q E q => F.len vs H Q E (h _ _ _ _ q), fun A outer s H args us vs Q E hr he hb hv hs => F.run A outer s H args us vs Q E hr he hb hv (h _ _ _ _ hs)⟩

theorem Env0.make {P : Program} {w : World} {K : PySem.W.Frag} {mg : Str → Option Value} {base : Heap} {A : Around} {outer : List Env} {s : Shared} {H : Hp} (e : Env0 P w K mg base A outer s H) (C : Addr) (us : List Value) (kw : List (Str × Value)) :
    Env0 P w K mg base (A.under (.builtin "type.__call__" ⟨.ref C :: us, kw⟩)) outer s H := ⟨by first | exact e.frames | (simpa [Around.under, Code.envs, Code.isFrame, pushEnvs] using e.frames), e.mod, e.bs, e.bsz, e.funs, e.frf, e.hok, e.bare⟩
theorem Env0.in1 {P : Program} {w : World} {K : PySem.W.Frag} {mg : Str → Option Value} {base : Heap} {A : Around} {outer : List Env} {s : Shared} {H : Hp} (e : Env0 P w K mg base A outer s H) :
    Env0 P w K mg base A.in1 outer s H := ⟨e.frames, e.mod, e.bs, e.bsz, e.funs, e.frf, e.hok, e.bare⟩

section
variable {X : Cx} {pins : List (Addr × Obj)} {σ : St} {H : Hp} {s s' : Shared}
/-- from a body: what a callee wants -/
theorem Inv.env0 (I : Inv X pins σ H s) : Env0 X.prog X.w X.K X.mg X.base X.A X.stack s H :=
  ⟨I.ok.frames, I.ok.mod, I.bs, Nat.le_trans I.ok.bsz I.sz, I.stack, I.stkFree, I.hok, I.bare⟩
/-- behind a call -/
theorem Inv.after {Q : VK} {u : Value} (I : Inv X pins σ H s) (h : CE X.stack X.prog X.w H s Q u s') : EP X pins σ Q u s' := by
  obtain ⟨v, H', os, bare, un, hok, r, q⟩ := h
  obtain ⟨hh, g, d, t, os'⟩ := s'
  obtain rfl : os' = s.os := os
  exact ⟨v, H', I.call (h' := hh) (g' := g) (d' := d) (t' := t) (ch := []) un hok bare (fun b z => absurd z (by simp)), r, q⟩
end

/-! ### calls -/
/-- f(..): the written arguments, then the defaults dvs; E: what is wanted of an exception -/
def tCall (sp : Sp) (dvs : List V) (E : XK) (t : TA) : TE := fun σ H Q => t σ H fun vs H1 => sp (vs ++ dvs) H1 Q E
/-- o.m(..) of an instance of the class at C -/
def tMeth (C : Addr) (m : Str) (sp : Sp) (dvs : List V) (E : XK) (ta : TE) (t : TA) : TE := fun σ H Q => ta σ H fun x H1 => ∃ a dx fs, x = .ref a ∧ H1 a = some (.ins C dx fs) ∧ fs.lookup m = none ∧
  t σ H1 fun vs H2 => sp (x :: (vs ++ dvs)) H2 Q E
/-- C(..): a new instance and its dict, then __init__ -/
def tMake (C : Addr) (sp : Sp) (dvs : List V) (E : XK) (t : TA) : TE := fun σ H Q => t σ H fun vs H1 => ∀ x dx, H1 x = none → H1 dx = none → dx ≠ x →
  sp (.ref x :: (vs ++ dvs)) (upd (upd H1 dx (.own x)) x (.ins C dx [])) (fun v H2 => v = .non ∧ Q (.ref x) H2) E

/-- how the parameters are bound: us the positional arguments, kw the keywords' values by name, ds the defaults that fill up -/
def Binds (K : PySem.W.Frag) (fd : FuncData) (ps : List Str) (ds : List Value) : Prop :=
  ∀ (s : Shared) (us : List Value), K.In s.heap → (us ++ ds).length = ps.length → BindsTo s fd ⟨us, []⟩ (ps.zip (us ++ ds))
/-- every parameter is given -/
theorem Binds.all {K : PySem.W.Frag} {fd : FuncData} {ps : List Str} (h : ∀ us : List Value, us.length = ps.length → bindArgs fd ⟨us, []⟩ = pure (ps.zip us)) : Binds K fd ps [] := fun s us _ hl => by
  rw [List.append_nil] at hl ⊢
  exact .of_eq (h us hl)

/-- an exception of a callee reaches what this body wants of exceptions -/
def Passes (CX : CXT) (X : Cx) (E : XK) : Prop := ∀ (pins : List (Addr × Obj)) (σ : St) (H : Hp) (s : Shared) (e : Value) (s' : Shared), Inv X pins σ H s → CX X.stack H s E e s' → X.xe e s'

section
variable {X : Cx} {CX : CXT} {k : Nat} {f C : Addr} {fd : FuncData} {ps : List Str} {sp : Sp} {dvs : List V} {ds : List Value} {E : XK} {x m : Str} {p pos apos : Pos} {e o : Expr} {es : List Expr} {ta : TE} {t : TA}

/-- the callee runs -/
theorem run_fn {pins : List (Addr × Obj)} {σ : St} {H : Hp} {s : Shared} {Q : VK} {us : List Value} {vs : List V} (F : FnOk X.prog X.w X.K X.mg X.base CX k f fd ps sp) (hr : Room k X.A) (hb : Binds X.K fd ps ds) (hd : Vals dvs ds) (hx : Passes CX X E)
    (I : Inv X pins σ H s) (r : Vals vs us) (h : sp (vs ++ dvs) H Q E) : wpAny (model X.prog X.w) X.A (call (.ref f) us) (EP X pins σ Q) X.xe s := by
  have r2 : Vals (vs ++ dvs) (us ++ ds) := r.append hd
  have hl : (us ++ ds).length = ps.length := by rw [← r2.length]; exact F.len _ _ _ _ h
  refine wpAny_call (codeAny_mono (F.run X.A X.stack s H ⟨us, []⟩ (us ++ ds) (vs ++ dvs) Q E hr I.env0 (hb s us I.kIn hl) r2 h) fun r s' hq => ?_)
  cases r with
  | error e => exact hx pins σ H s e s' I hq
  | ok fl =>
    cases fl with
    | ret u => exact I.after hq
    | next => exact False.elim hq
    | brk => exact False.elim hq
    | cont => exact False.elim hq

theorem pe_call (F : FnOk X.prog X.w X.K X.mg X.base CX k f fd ps sp) (hr : Room k X.A) (hg : Gl X x) (hm : X.mg x = some (.ref f)) (hk : PySem.W.keepIn X.K (.ref f) = true) (hb : Binds X.K fd ps ds) (hd : Vals dvs ds) (hx : Passes CX X E)
    (ha : PA X (e :: es) t) (hdb : (x == ("__debug__" : Str)) = false := by decide) (he : starEach (e :: es) X.env = (false, eval e X.env) :: starEach es X.env := by rfl) (hpl : (backTo pos (starEach es X.env)).any (·.1) = false := by rfl) :
    PE X (.Call (.Name x p) (e :: es) [] pos) (tCall sp dvs E t) := by
  intro pins s σ H Q I h
  refine wpAny_Call_Name_kw (ld_glob I hg hm ?_ hdb)
  refine PySem.W.callWith_K (h₀ := X.base) I.ok.mod.kin hk (thn (ha pos pins s σ H _ I h) fun us s1 ⟨vs, H1, I1, r, q⟩ => ⟨I1.kIn, ?_⟩) he hpl
  exact run_fn F hr hb hd hx I1 r q
theorem pe_call0 (F : FnOk X.prog X.w X.K X.mg X.base CX k f fd ps sp) (hr : Room k X.A) (hg : Gl X x) (hm : X.mg x = some (.ref f)) (hk : PySem.W.keepIn X.K (.ref f) = true) (hb : Binds X.K fd ps ds) (hd : Vals dvs ds) (hx : Passes CX X E)
    (hdb : (x == ("__debug__" : Str)) = false := by decide) : PE X (.Call (.Name x p) [] [] pos) (tCall sp dvs E tNil) := by
  intro pins s σ H Q I h
  refine wpAny_Call_Name_kw (ld_glob I hg hm ?_ hdb)
  exact PySem.W.callWith_K0 I.kIn hk (run_fn (us := []) F hr hb hd hx I .nil h)

/-- o.m(e, ..) -/
theorem pe_meth {pl : Sem Bool} (he : PE X o ta) (c : Cls X.K C) (hm : Meth X.K C m f) (F : FnOk X.prog X.w X.K X.mg X.base CX k f fd ps sp) (hr : Room k X.A) (hb : Binds X.K fd ps ds) (hd : Vals dvs ds) (hx : Passes CX X E) (ha : PA X (e :: es) t)
    (hst : starEach (e :: es) X.env = (false, eval e X.env) :: starEach es X.env := by rfl) (hpl : (backTo pos (starEach es X.env)).any (·.1) = false := by rfl)
    (ht : eval (.Call (.Attribute o m apos) (e :: es) [] pos) X.env = (do
      let ov ← eval o X.env
      standAt apos.atName
      let (f, first) ← holding [ov] (getMethod ov m pl)
      callWith pos f first (backTo pos (starEach (e :: es) X.env)) (backToKw pos (keywordEach [] X.env))) := by rfl) :
    PE X (.Call (.Attribute o m apos) (e :: es) [] pos) (tMeth C m sp dvs E ta t) := by
  intro pins s σ H Q I h
  refine PySem.W.methodCall_KW (pl := pl) (thn (he pins s σ H _ I h) fun u s1 ⟨x, H1, I1, rx, a, dx, fs, ex, ea, l, q⟩ => ?_) ht
  subst ex
  obtain rfl : u = Value.ref a := rx
  refine getmeth_ok I1 ea c hm l ?_
  refine PySem.W.callWith_K (first := [.ref a]) (h₀ := X.base) I.ok.mod.kin hm.kp (thn (ha pos pins s1 σ H1 _ I1 q) fun us s2 ⟨vs, H2, I2, r, q2⟩ => ⟨I2.kIn, ?_⟩) hst hpl
  exact run_fn (us := .ref a :: us) (vs := .ref a :: vs) F hr hb hd hx I2 (.cons rfl r) q2
/-- o.m() -/
theorem pe_meth0 {pl : Sem Bool} (he : PE X o ta) (c : Cls X.K C) (hm : Meth X.K C m f) (F : FnOk X.prog X.w X.K X.mg X.base CX k f fd ps sp) (hr : Room k X.A) (hb : Binds X.K fd ps ds) (hd : Vals dvs ds) (hx : Passes CX X E)
    (ht : eval (.Call (.Attribute o m apos) [] [] pos) X.env = (do
      let ov ← eval o X.env
      standAt apos.atName
      let (f, first) ← holding [ov] (getMethod ov m pl)
      callWith pos f first (backTo pos (starEach [] X.env)) (backToKw pos (keywordEach [] X.env))) := by rfl) :
    PE X (.Call (.Attribute o m apos) [] [] pos) (tMeth C m sp dvs E ta tNil) := by
  intro pins s σ H Q I h
  refine PySem.W.methodCall_KW (pl := pl) (thn (he pins s σ H _ I h) fun u s1 ⟨x, H1, I1, rx, a, dx, fs, ex, ea, l, q⟩ => ?_) ht
  subst ex
  obtain rfl : u = Value.ref a := rx
  refine getmeth_ok I1 ea c hm l ?_
  exact PySem.W.callWith_K0 (first := [.ref a]) I1.kIn hm.kp (run_fn (us := [.ref a]) (vs := [.ref a]) F hr hb hd hx I1 (.cons rfl .nil) q)

/-- what a class must have to be made -/
structure Mk (K : PySem.W.Frag) (C f : Addr) : Prop where
  makes : PySem.W.makesIn K C = true
  init : PySem.W.findIn K (.ref C) "__init__" = some (some (.ref f))
  fn : PySem.W.isFn K (.ref f) = true
  kp : PySem.W.keepIn K (.ref C) = true

theorem run_make {pins : List (Addr × Obj)} {σ : St} {H : Hp} {s : Shared} {Q : VK} {us : List Value} {vs : List V} (M : Mk X.K C f) (F : FnOk X.prog X.w X.K X.mg X.base CX k f fd ps sp) (hr : Room (k + 1) X.A) (hb : Binds X.K fd ps ds) (hd : Vals dvs ds)
    (hx : Passes CX X E) (I : Inv X pins σ H s) (r : Vals vs us)
    (h : ∀ x dx, H x = none → H dx = none → dx ≠ x → sp (.ref x :: (vs ++ dvs)) (upd (upd H dx (.own x)) x (.ins C dx [])) (fun v H2 => v = .non ∧ Q (.ref x) H2) E) :
    wpAny (model X.prog X.w) X.A (call (.ref C) us) (EP X pins σ Q) X.xe s := by
  have hq := h (s.heap.objs.size + 1) s.heap.objs.size (I.hok.fresh (Nat.le_succ _)) (I.hok.fresh (Nat.le_refl _)) (Nat.ne_of_lt (Nat.lt_succ_self _))
  have I2 := Inv.made (C := C) I
  have r2 : Vals (V.ref (s.heap.objs.size + 1) :: (vs ++ dvs)) (Value.ref (s.heap.objs.size + 1) :: (us ++ ds)) := .cons rfl (r.append hd)
  have hl : (Value.ref (s.heap.objs.size + 1) :: us ++ ds).length = ps.length := by
    have e := r2.length
    rw [F.len _ _ _ _ hq] at e
    exact e.symm
  refine wpAny_call (make_map (f := f) I.kIn M.makes M.init (beq_iff_eq.mp M.fn) (codeAny_mono (F.run _ X.stack _ _ ⟨Value.ref (s.heap.objs.size + 1) :: us, []⟩ (Value.ref (s.heap.objs.size + 1) :: (us ++ ds)) _ _ E (hr.make C us [])
    (I2.env0.make C us []) (hb _ (Value.ref (s.heap.objs.size + 1) :: us) I2.kIn hl) r2 hq) fun r s' hq' => ?_))
  cases r with
  | error e => exact hx pins σ _ _ e s' I2 hq'
  | ok fl =>
    cases fl with
    | ret u =>
      obtain ⟨v, H', I3, rv, ev, q3⟩ := I2.after hq'
      subst ev
      exact ⟨rv, ⟨V.ref (s.heap.objs.size + 1), H', I3, rfl, q3⟩⟩
    | next => exact False.elim hq'
    | brk => exact False.elim hq'
    | cont => exact False.elim hq'
theorem pe_make (M : Mk X.K C f) (F : FnOk X.prog X.w X.K X.mg X.base CX k f fd ps sp) (hr : Room (k + 1) X.A) (hg : Gl X x) (hm : X.mg x = some (.ref C)) (hb : Binds X.K fd ps ds) (hd : Vals dvs ds) (hx : Passes CX X E)
    (ha : PA X (e :: es) t) (hdb : (x == ("__debug__" : Str)) = false := by decide) (he : starEach (e :: es) X.env = (false, eval e X.env) :: starEach es X.env := by rfl) (hpl : (backTo pos (starEach es X.env)).any (·.1) = false := by rfl) :
    PE X (.Call (.Name x p) (e :: es) [] pos) (tMake C sp dvs E t) := by
  intro pins s σ H Q I h
  refine wpAny_Call_Name_kw (ld_glob I hg hm ?_ hdb)
  refine PySem.W.callWith_K (h₀ := X.base) I.ok.mod.kin M.kp (thn (ha pos pins s σ H _ I h) fun us s1 ⟨vs, H1, I1, r, q⟩ => ⟨I1.kIn, ?_⟩) he hpl
  exact run_make M F hr hb hd hx I1 r q
theorem pe_make0 (M : Mk X.K C f) (F : FnOk X.prog X.w X.K X.mg X.base CX k f fd ps sp) (hr : Room (k + 1) X.A) (hg : Gl X x) (hm : X.mg x = some (.ref C)) (hb : Binds X.K fd ps ds) (hd : Vals dvs ds) (hx : Passes CX X E)
    (hdb : (x == ("__debug__" : Str)) = false := by decide) : PE X (.Call (.Name x p) [] [] pos) (tMake C sp dvs E tNil) := by
  intro pins s σ H Q I h
  refine wpAny_Call_Name_kw (ld_glob I hg hm ?_ hdb)
  exact PySem.W.callWith_K0 I.kIn M.kp (run_make (us := []) M F hr hb hd hx I .nil h)
end

/-! ### keywords -/
/-- the values of the keywords, from the left -/
def PK (X : Cx) (kws : List Keyword) (t : TA) : Prop :=
  ∀ (pos : Pos) (pins : List (Addr × Obj)) (s : Shared) (σ : St) (H : Hp) (Q : List V → Hp → Prop), Inv X pins σ H s → t σ H Q → wpAny (model X.prog X.w) X.A (evalAll ((backToKw pos (keywordEach kws X.env)).map (·.2))) (AP X pins σ Q) X.xe s
section
variable {X : Cx} {CX : CXT} {k : Nat} {f C : Addr} {fd : FuncData} {ps ks : List Str} {sp : Sp} {E : XK} {x m : Str} {p pos apos kpos : Pos} {e o : Expr} {es : List Expr} {kws : List Keyword} {te ta : TE} {t tk : TA} {nm : Option Str}
theorem pk_nil : PK X [] tNil := fun _ _ _ _ H Q I h => wpAny_evalAll_nil ⟨[], H, I, .nil, h⟩
theorem pk_cons (ha : PE X e te) (hr : PK X kws t) : PK X (⟨nm, e, kpos⟩ :: kws) (tCons te t) := by
  intro pos pins s σ H Q I h
  show wpAny _ _ (evalAll ((do let v ← eval e X.env; standAt pos; pure v) :: (backToKw pos (keywordEach kws X.env)).map (·.2))) _ _ s
  refine wpAny_evalAll_cons (wpAny_bind (thn (ha pins s σ H _ I h) fun u s1 ⟨x, H1, I1, r1, q1⟩ => wpAny_bind (wpAny_standAt (wpAny_pure ?_))))
  exact thn (hr pos pins s1 σ H1 _ I1 q1) fun us s2 ⟨xs, H2, I2, r2, q2⟩ => ⟨x :: xs, H2, I2, .cons r1 r2, q2⟩

/-- how a call with keywords binds: g puts the positional values us and the keywords' values ws (names ks) in the parameters' order, defaults among them -/
structure KBinds (K : PySem.W.Frag) (fd : FuncData) (ps ks : List Str) (g : List Value → List Value → List Value) (gV : List V → List V → List V) : Prop where
  to : ∀ (s : Shared) (us ws : List Value), K.In s.heap → (g us ws).length = ps.length → BindsTo s fd ⟨us, ks.zip ws⟩ (ps.zip (g us ws))
  rel : ∀ {vs : List V} {us : List Value} {zs : List V} {ws : List Value}, Vals vs us → Vals zs ws → Vals (gV vs zs) (g us ws)
def tCallK (sp : Sp) (gV : List V → List V → List V) (E : XK) (t tk : TA) : TE := fun σ H Q => t σ H fun vs H1 => tk σ H1 fun zs H2 => sp (gV vs zs) H2 Q E
variable {g : List Value → List Value → List Value} {gV : List V → List V → List V}
theorem run_fnk {pins : List (Addr × Obj)} {σ : St} {H : Hp} {s : Shared} {Q : VK} {us ws : List Value} {vs zs : List V} (F : FnOk X.prog X.w X.K X.mg X.base CX k f fd ps sp) (hr : Room k X.A) (hb : KBinds X.K fd ps ks g gV) (hx : Passes CX X E)
    (I : Inv X pins σ H s) (r : Vals vs us) (rz : Vals zs ws) (h : sp (gV vs zs) H Q E) : wpAny (model X.prog X.w) X.A (call (.ref f) us (ks.zip ws)) (EP X pins σ Q) X.xe s := by
  have r2 := hb.rel r rz
  have hl : (g us ws).length = ps.length := by rw [← r2.length]; exact F.len _ _ _ _ h
  refine wpAny_call (codeAny_mono (F.run X.A X.stack s H ⟨us, ks.zip ws⟩ (g us ws) (gV vs zs) Q E hr I.env0 (hb.to s us ws I.kIn hl) r2 h) fun r s' hq => ?_)
  cases r with
  | error e => exact hx pins σ H s e s' I hq
  | ok fl =>
    cases fl with
    | ret u => exact I.after hq
    | next => exact False.elim hq
    | brk => exact False.elim hq
    | cont => exact False.elim hq
/-- f(e, .., k = v, ..) -/
theorem pe_callK (F : FnOk X.prog X.w X.K X.mg X.base CX k f fd ps sp) (hr : Room k X.A) (hg : Gl X x) (hm : X.mg x = some (.ref f)) (hk : PySem.W.keepIn X.K (.ref f) = true) (hb : KBinds X.K fd ps ks g gV) (hx : Passes CX X E)
    (ha : PA X (e :: es) t) (hkw : PK X kws tk) (hall : (backToKw pos (keywordEach kws X.env)).all (·.1.isSome) = true := by rfl) (hks : (backToKw pos (keywordEach kws X.env)).filterMap (·.1) = ks := by rfl)
    (hdb : (x == ("__debug__" : Str)) = false := by decide) (he : starEach (e :: es) X.env = (false, eval e X.env) :: starEach es X.env := by rfl)
    (hpl : ((backTo pos (starEach (e :: es) X.env)).any (·.1) || (backToKw pos (keywordEach kws X.env)).any (·.1.isNone)) = false := by rfl) :
    PE X (.Call (.Name x p) (e :: es) kws pos) (tCallK sp gV E t tk) := by
  intro pins s σ H Q I h
  refine wpAny_Call_Name_kw (ld_glob I hg hm ?_ hdb)
  refine PySem.W.callWith_KW (h₀ := X.base) I.ok.mod.kin hk hall (thn (ha pos pins s σ H _ I h) fun us s1 ⟨vs, H1, I1, r, q⟩ => ?_) hpl he
  refine thn (hkw pos pins s1 σ H1 _ I1 q) fun ws s2 ⟨zs, H2, I2, rz, q2⟩ => ⟨I2.kIn, ?_⟩
  rw [hks]
  exact run_fnk F hr hb hx I2 r rz q2
end

/-! ### a def's body keeps its promise -/
/-- names: the parameters first -/
structure FnScope (N P : List Str) (sc : Scope) : Prop where
  kind : sc.kind = .function
  co : sc.isCoroutine = false
  gen : sc.isGenerator = false
  nd : N.Nodup
  pre : N.take P.length = P
  par : ∀ x ∈ P, sc.names.lookup x = some .local ∨ sc.names.lookup x = some .cell
  nofree : ∀ y ∈ sc.names, y.2 ≠ .free

theorem bindL_out {kindOf : Str → Option NameKind} {x : Str} : ∀ {binds : List (Str × Value)} {m : Str → Option Value}, (∀ v, (x, v) ∉ binds) → bindL kindOf binds m x = m x
  | [], _, _ => rfl
  | (n, v) :: r, m, h => by
    unfold bindL
    rw [bindL_out fun w hw => h w (List.mem_cons_of_mem _ hw)]
    split
    · have : x ≠ n := by rintro rfl; exact h v List.mem_cons_self
      simp [this]
    · rfl
theorem bindC_out {kindOf : Str → Option NameKind} {x : Str} : ∀ {binds : List (Str × Value)} {m : Str → Option Value}, (∀ v, (x, v) ∉ binds) → bindC kindOf binds m x = m x
  | [], _, _ => rfl
  | (n, v) :: r, m, h => by
    unfold bindC
    rw [bindC_out fun w hw => h w (List.mem_cons_of_mem _ hw)]
    split
    · rfl
    · have : x ≠ n := by rintro rfl; exact h v List.mem_cons_self
      simp [this]
theorem bindL_get {kindOf : Str → Option NameKind} {x : Str} {v : Value} : ∀ {P : List Str} {vs : List Value} {i : Nat} {m : Str → Option Value}, P.Nodup → P[i]? = some x → vs[i]? = some v → kindOf x = some .local →
    bindL kindOf (P.zip vs) m x = some v
  | [], _, _, _, _, h, _, _ => by simp at h
  | _ :: _, [], _, _, _, _, h, _ => by simp at h
  | p :: P, w :: vs, 0, m, nd, h1, h2, hk => by
    simp at h1 h2; subst h1; subst h2
    show bindL kindOf ((p, w) :: P.zip vs) m p = _
    unfold bindL
    rw [bindL_out fun v hv => (List.nodup_cons.mp nd).1 (List.of_mem_zip hv).1, if_pos hk]
    simp
  | p :: P, w :: vs, i + 1, m, nd, h1, h2, hk => by
    show bindL kindOf ((p, w) :: P.zip vs) m x = _
    unfold bindL
    exact bindL_get (i := i) (List.nodup_cons.mp nd).2 (by simpa using h1) (by simpa using h2) hk
theorem bindC_get {kindOf : Str → Option NameKind} {x : Str} {v : Value} : ∀ {P : List Str} {vs : List Value} {i : Nat} {m : Str → Option Value}, P.Nodup → P[i]? = some x → vs[i]? = some v → kindOf x ≠ some .local →
    bindC kindOf (P.zip vs) m x = some v
  | [], _, _, _, _, h, _, _ => by simp at h
  | _ :: _, [], _, _, _, _, h, _ => by simp at h
  | p :: P, w :: vs, 0, m, nd, h1, h2, hk => by
    simp at h1 h2; subst h1; subst h2
    show bindC kindOf ((p, w) :: P.zip vs) m p = _
    unfold bindC
    rw [bindC_out fun v hv => (List.nodup_cons.mp nd).1 (List.of_mem_zip hv).1, if_neg hk]
    simp
  | p :: P, w :: vs, i + 1, m, nd, h1, h2, hk => by
    show bindC kindOf ((p, w) :: P.zip vs) m x = _
    unfold bindC
    exact bindC_get (i := i) (List.nodup_cons.mp nd).2 (by simpa using h1) (by simpa using h2) hk

/-- the names' values at the entry -/
def start (N : List Str) (vs : List V) : St := vs.map some ++ List.replicate (N.length - vs.length) none

/-- the context of a def's body, at its entry; an exception leaves the frame, then lies as CX says -/
def cxOf (CX : CXT) (P : Program) (w : World) (K : PySem.W.Frag) (mg : Str → Option Value) (base : Heap) (N : List Str) (qual : Str) (scope : Scope) (f : Addr) (cd : Value) (A : Around) (outer : List Env) (s : Shared) (H : Hp) (E : XK) : Cx where
  prog := P
  w := w
  K := K
  mg := mg
  base := base
  A := A.deeper (envOfC qual scope s.heap.objs.size f cd)
  N := N
  s₀ := s
  H₀ := H
  env := envOfC qual scope s.heap.objs.size f cd
  outer := outer
  stack := envOfC qual scope s.heap.objs.size f cd :: outer
  ex := []
  calm := true
  fn := fun _ => true
  pn := []
  xe := fun e s' => wpAny (model P w) (A.deeper (envOfC qual scope s.heap.objs.size f cd)) (leaving (envOfC qual scope s.heap.objs.size f cd) e) (fun _ s'' => CX outer H s E e s'') (fun e' s'' => CX outer H s E e' s'') s'

theorem cell_has {sc : Scope} {n : Nat} {x : Str} (h : sc.names.lookup x = some .cell) : ∃ c, (cellsFrom n sc.names []).lookup x = some c := by
  have q := PySem.W.cellsFrom_some sc.names n [] (.inl h)
  exact Option.isSome_iff_exists.mp q

theorem inv_start {CX : CXT} {P : Program} {w : World} {K : PySem.W.Frag} {mg : Str → Option Value} {base : Heap} {N ps : List Str} {qual : Str} {scope : Scope} {f : Addr} {cd : Value} {A : Around} {outer : List Env} {s s1 : Shared} {H : Hp} {E : XK} {us : List Value} {vs : List V}
    (S : FnScope N ps scope) (hd : A.handled = none) (e0 : Env0 P w K mg base A outer s H) (hl : vs.length = ps.length) (r : Vals vs us)
    (x : InCallC s s.heap.objs.size (bindL (envOfC qual scope s.heap.objs.size f cd).kindOf (ps.zip us) fun _ => none) (cellsFrom (s.heap.objs.size + 1) scope.names []) (bindC (envOfC qual scope s.heap.objs.size f cd).kindOf (ps.zip us) fun _ => none) s1) :
    Inv (cxOf CX P w K mg base N qual scope f cd A outer s H E) [] (start N vs) H s1 := by
  have hpl : ps.length ≤ N.length := by have := congrArg List.length S.pre; rw [List.length_take] at this; omega
  obtain ⟨h1, tk, rfl, hk⟩ := x.done
  have noA : ∀ b : Addr, b ∉ (cxOf CX P w K mg base N qual scope f cd A outer s H E).ex := fun b z => absurd (show b ∈ ([] : List Addr) from z) (by simp)
  refine ⟨⟨e0.mod, S.kind, rfl, rfl, Nat.le_refl _, fun y z c h1 h2 => ?_, fun y hy => ?_, fun y c _ h => ?_, fun _ => hd, Around.frames_deeper e0.frames, .inr ⟨rfl, rfl⟩, fun b z => absurd z (noA b), e0.bs, e0.bsz, fun b _ _ => noA b, fun b z => absurd z (noA b), e0.funs, e0.frf⟩,
    rfl, e0.bare, Un.kept hk, ⟨_, x.toInCall.ns, fun i y v h1 h2 h3 => ?_⟩, fun y c h => ⟨_, x.cell y c h⟩, e0.hok.fresh (Nat.le_refl _), fun y c h => ?_, fun p hp => absurd (show p ∈ ([] : List (Addr × Obj)) from hp) (by simp), e0.hok.kept hk, ?_⟩
  · exact name_of_addr x.apart (PySem.mem_of_lookup h1) (PySem.mem_of_lookup h2)
  · have hy : scope.names.lookup y = some .cell ∨ scope.names.lookup y = some .free := hy
    rcases hy with hy | hy
    · exact cell_has hy
    · exact absurd rfl (S.nofree _ (PySem.mem_of_lookup hy))
  · exact Nat.le_of_lt (x.above y c (PySem.mem_of_lookup h))
  · have hi : i < vs.length := by
      unfold start at h2
      by_cases hi : i < vs.length
      · exact hi
      · rw [List.getElem?_append_right (by simpa using hi)] at h2
        rw [List.getElem?_replicate] at h2
        split at h2 <;> cases h2
    have ha : vs[i]? = some v := by
      unfold start at h2
      rw [List.getElem?_append_left (by simpa using hi), List.getElem?_map] at h2
      cases e : vs[i]? with
      | none => rw [e] at h2; cases h2
      | some a => rw [e] at h2; cases h2; rfl
    obtain ⟨u, hu, rv⟩ := r.get ha
    have hp : ps[i]? = some y := by
      rw [← S.pre, List.getElem?_take_of_lt (by omega)]; exact h1
    have ndP : ps.Nodup := by rw [← S.pre]; exact S.nd.sublist (List.take_sublist _ _)
    refine ⟨u, rv, ?_⟩
    rcases S.par y (List.mem_of_getElem? hp) with k | k
    · exact .inl ⟨k, bindL_get ndP hp hu k⟩
    · obtain ⟨c, e⟩ := cell_has (n := s.heap.objs.size + 1) k
      refine .inr ⟨.inl k, c, e, ?_⟩
      have q := x.cell y c e
      rw [bindC_get ndP hp hu (by show scope.names.lookup y ≠ _; rw [k]; decide)] at q
      exact q
  · exact e0.hok.fresh (Nat.le_of_lt (x.above y c (PySem.mem_of_lookup h)))
  · unfold start
    show _ = N.length
    rw [List.length_append, List.length_map, List.length_replicate]
    omega

/-- THE RULE: a def (or a method) of the text, by its body. The body's reading t is chosen for each entry; it is run at the parameters' values -/
theorem fn_of {CX : CXT} {P : Program} {w : World} {K : PySem.W.Frag} {mg : Str → Option Value} {base : Heap} {k : Nat} {f : Addr} {name qual : Str} {params : Arguments} {body : List Stmt} {scope : Scope} {dV kV doc pm cdv ct oc : Value} {an od : Option Addr}
    {osl : Array (Option Value)} {N ps : List Str} {sp : Sp} (lk : K.lookup f = some ⟨oc, od, .func (PySem.W.fnOf name qual params body scope dV kV doc pm an cdv ct), osl⟩) (hcd : PySem.W.codeIn K cdv qual = true) (S : FnScope N ps scope)
    (len : ∀ vs H Q E, sp vs H Q E → vs.length = ps.length)
    (hbody : ∀ (A : Around) (outer : List Env) (s : Shared) (H : Hp) (vs : List V) (Q : VK) (E : XK), Room k (A.deeper (envOfC qual scope s.heap.objs.size f cdv)) → sp vs H Q E →
      ∃ t, PSs (cxOf CX P w K mg base N qual scope f cdv A outer s H E) body t ∧ t { nx := fun _ H' => Q .non H', rt := Q } (start N vs) H) :
    FnOk P w K mg base CX (k + 1) f (PySem.W.fnOf name qual params body scope dV kV doc pm an cdv ct) ps sp := by
  refine ⟨len, fun A outer s H args us vs Q E hr e0 hb r hsp => ?_⟩
  have hl := len _ _ _ _ hsp
  have KX : K.In s.heap := e0.mod.kin.keeps fun b o e => (e0.bs b o e).1
  have lim : s.heap.NoLimit := e0.mod.nolimit.keeps fun b o e => (e0.bs b o e).1
  have hkind : ∀ y ∈ ps.zip us, scope.names.lookup y.1 = some .local ∨ (scope.names.lookup y.1 = some .cell ∧ ((cellsFrom (s.heap.objs.size + 1) scope.names []).lookup y.1).isSome = true) := fun ⟨n, v⟩ hy => by
    rcases S.par n (List.of_mem_zip hy).1 with q | q
    · exact .inl q
    · exact .inr ⟨q, PySem.W.cellsFrom_some _ _ _ (.inl q)⟩
  refine codeAny_call_function hr.depth (KX _ _ lk) rfl S.co S.gen rfl (PySem.W.codeRec_of KX hcd) (hb _ _ _ _ ?_)
  refine wpAny_newFunctionEnv_cells S.kind hkind fun env he s1 x => ?_
  subst he
  refine ⟨lim.keeps x.toInCall.keep, codeAny_func ?_⟩
  obtain ⟨t, ht, hq⟩ := hbody A outer s H vs Q E (hr.deeper _) hsp
  have I : Inv (cxOf CX P w K mg base N qual scope f cdv A outer s H E) [] (start N vs) H s1 := inv_start S hr.hd e0 hl r x
  refine wpAny_mono (ht [] s1 (start N vs) H _ I hq) (fun fl s' hs => ?_) fun e s' hs => hs
  have fin : ∀ {σ' : St} {H' : Hp} {v : V} {u : Value}, Inv (cxOf CX P w K mg base N qual scope f cdv A outer s H E) [] σ' H' s' → RelV v u → Q v H' → CE outer P w H s Q u s' :=
    fun {σ' H' v u} J rv q => ⟨v, H', J.os, J.bare, J.base, J.hok, rv, q⟩
  cases fl with
  | ret u =>
    obtain ⟨v, σ', H', J, rv, q⟩ := hs
    exact fin J rv q
  | next =>
    obtain ⟨σ', H', J, q⟩ := hs
    exact fin (v := V.non) (u := Value.none) J rfl q
  | brk =>
    obtain ⟨_, _, _, q⟩ := hs
    exact False.elim q
  | cont =>
    obtain ⟨_, _, _, q⟩ := hs
    exact False.elim q
end L2

namespace L2
open PySem PySem.Spec PyProof.Rows
section
variable {X : Cx} {x : Str} {p pos : Pos} {e : Expr} {es : List Expr} {t : TA} {id T : String} {r : List V → Hp → VK → Prop}

def tCB (r : List V → Hp → VK → Prop) (t : TA) : TE := fun σ H Q => t σ H fun vs H1 => r vs H1 Q
/-- f(e, ..), f a built-in function -/
theorem pe_callB (hc : CallR X (.builtin id) r) (hg : Gl X x) (hm : X.mg x = none) (hv : bootBuiltins x = some (.builtin id)) (ha : PA X (e :: es) t) (hn : x ≠ "__name__" := by decide) (hdb : (x == ("__debug__" : Str)) = false := by decide)
    (he : starEach (e :: es) X.env = (false, eval e X.env) :: starEach es X.env := by rfl) (hpl : (backTo pos (starEach es X.env)).any (·.1) = false := by rfl) : PE X (.Call (.Name x p) (e :: es) [] pos) (tCB r t) := by
  intro pins s σ H Q I h
  refine wpAny_Call_Name_kw (ld_blt I hg hm hv ?_ hn hdb)
  exact PyProof.Rows.callWith_builtin1 (thn (ha pos pins s σ H _ I h) fun us s1 ⟨vs, H1, I1, r1, q1⟩ => hc pins s1 σ H1 vs us Q I1 r1 q1) he hpl
/-- T(e, ..), T a built-in type -/
theorem pe_callTy (hc : CallR X (.type T) r) (hg : Gl X x) (hm : X.mg x = none) (hv : bootBuiltins x = some (.type T)) (ha : PA X (e :: es) t) (hn : x ≠ "__name__" := by decide) (hdb : (x == ("__debug__" : Str)) = false := by decide)
    (he : starEach (e :: es) X.env = (false, eval e X.env) :: starEach es X.env := by rfl) (hpl : (backTo pos (starEach es X.env)).any (·.1) = false := by rfl) : PE X (.Call (.Name x p) (e :: es) [] pos) (tCB r t) := by
  intro pins s σ H Q I h
  refine wpAny_Call_Name_kw (ld_blt I hg hm hv ?_ hn hdb)
  exact PyProof.Rows.callWith_type1 (thn (ha pos pins s σ H _ I h) fun us s1 ⟨vs, H1, I1, r1, q1⟩ => hc pins s1 σ H1 vs us Q I1 r1 q1) he hpl
/-- T() -/
theorem pe_callTy0 (hc : CallR X (.type T) r) (hg : Gl X x) (hm : X.mg x = none) (hv : bootBuiltins x = some (.type T)) (hn : x ≠ "__name__" := by decide) (hdb : (x == ("__debug__" : Str)) = false := by decide) :
    PE X (.Call (.Name x p) [] [] pos) (tCB r tNil) := by
  intro pins s σ H Q I h
  refine wpAny_Call_Name_kw (ld_blt I hg hm hv ?_ hn hdb)
  exact PyProof.Rows.callWith_type0 (hc pins s σ H [] [] Q I .nil h)
end
end L2

namespace HT
open PySem PyProof.Rows

/-- t < u of tuples of ints -/
def lexLt : List Int → List Int → Bool
  | [], [] => false
  | [], _ :: _ => true
  | _ :: _, [] => false
  | x :: xs, y :: ys => if x = y then lexLt xs ys else decide (x < y)
theorem lexLt_cons (x y : Int) (xs ys : List Int) : lexLt (x :: xs) (y :: ys) = if x = y then lexLt xs ys else decide (x < y) := rfl
theorem lexLt_nil_nil : lexLt [] [] = false := rfl
theorem lexLt_nil_cons (y : Int) (ys : List Int) : lexLt [] (y :: ys) = true := rfl
theorem lexLt_cons_nil (x : Int) (xs : List Int) : lexLt (x :: xs) [] = false := rfl

theorem eqAt_int (A : Around) (s : Shared) (a : Int) (t : Tok) (c : Int) (u : Tok) : ∃ e, SeqAt.EqAt A s (.int a t) (.int c u) e ∧ (e = true ↔ a = c) :=
  ⟨(a == c), SeqAt.EqAt.int_int a t c u, by simp⟩
theorem rcLt_int (A : Around) (s : Shared) (a : Int) (t : Tok) (c : Int) (u : Tok) (prog : Program) (w : World) (E : Value → Shared → Prop) (Q : Value → Shared → Prop) (h : Q (.bool (decide (a < c))) s) :
    wpAny (model prog w) A (richCompare .Lt (.int a t) (.int c u)) Q E s :=
  (PyProof.Rows.lt_int h : wpAny (model prog w) A (compareOp .Lt (.int a t) (.int c u)) Q E s)

section
open PySem.SeqAt
open PySem.AutoSeq1 (wpAny_loadPart')
open PySem.MeetsSeq PySem.MeetsSeq2 PySem.MeetsSeq3

theorem tuple_lt_ints (l b : Addr) (items items2 : Array Value) (n n2 : Nat) (dd dd2 : Option Addr) (sl sl2 : Array (Option Value)) (ns ms : List Int) (hi : IntsAre items.toList ns) (hj : IntsAre items2.toList ms) :
    Meets (Builtin.«tuple.__lt__» ⟨[.ref l, .ref b], []⟩)
      (fun _ R s => s.heap.get? l = some { cls := .type "tuple", dict := dd, data := .seq items n, slots := sl } ∧ s.heap.get? b = some { cls := .type "tuple", dict := dd2, data := .seq items2 n2, slots := sl2 } ∧
        R (.ok (.ret (.bool (lexLt ns ms)))) s) :=
  .of_wp fun prog w A R s h => by
    obtain ⟨hp, g, d, tk, os⟩ := s; obtain ⟨hl, hb, h⟩ := h
    have f2 := AutoSeq1.sub_tuple_tuple
    have z1 : items.size = ns.length := by rw [← hi.length]; simp
    have z2 : items2.size = ms.length := by rw [← hj.length]; simp
    wp_walk using wpAny_loadPart' hl, wpAny_loadPart' hb, wpAny_forIn_list _ (fun rest b s' => b.1 = none ∧ s' = ⟨hp, g, d, tk, os⟩ ∧ ∃ (vs ws : List Value) (ns' ms' : List Int), rest = vs.zip ws ∧
      IntsAre vs ns' ∧ IntsAre ws ms' ∧ ns'.length + items2.size = ms'.length + items.size ∧ R (.ok (.ret (.bool (lexLt ns' ms')))) ⟨hp, g, d, tk, os⟩) _
    case turn =>
      rintro ⟨y, x⟩ rest b s' ⟨hb', rfl, vs, ws, ns', ms', hz, hvi, hwi, hlen, hR⟩
      cases hvi with
      | nil => rw [List.zip_nil_left] at hz; cases hz
      | cons a t hvi' =>
        cases hwi with
        | nil => rw [List.zip_nil_right] at hz; cases hz
        | cons c u hwi' =>
          rw [List.zip_cons_cons] at hz
          injection hz with hyx hrest
          injection hyx with hy hx
          subst hy hx
          rw [lexLt_cons] at hR
          simp only [List.length_cons] at hlen
          obtain ⟨e, he, hiff⟩ := eqAt_int A.in1 ⟨hp, g, d, tk, os⟩ a t c u
          refine wpAny_bind (he prog w _ _ ?_)
          cases e with
          | true =>
            rw [if_pos (hiff.mp rfl)] at hR
            wp_walk
            exact ⟨rfl, rfl, _, _, _, _, hrest, hvi', hwi', by omega, hR⟩
          | false =>
            rw [if_neg (fun q => absurd (hiff.mpr q) Bool.false_ne_true)] at hR
            have hri := rcLt_int A.in1 ⟨hp, g, d, tk, os⟩ a t c u prog w
            wp_walk using hri
            exact ⟨_, rfl, by simpa using hR⟩
    case fin =>
      rintro ⟨b1, b2⟩ s' ⟨hb', rfl, vs, ws, ns', ms', hz, hvi, hwi, hlen, hR⟩
      simp only at hb'
      subst hb'
      have hv : lexLt ns' ms' = decide (items.size < items2.size) := by
        cases hvi with
        | nil =>
          cases hwi with
          | nil =>
            simp only [List.length_nil] at hlen
            rw [lexLt_nil_nil]
            exact (decide_eq_false (by omega)).symm
          | cons c u hw =>
            simp only [List.length_nil, List.length_cons] at hlen
            rw [lexLt_nil_cons]
            exact (decide_eq_true (by omega)).symm
        | cons a t hv =>
          cases hwi with
          | nil =>
            simp only [List.length_nil, List.length_cons] at hlen
            rw [lexLt_cons_nil]
            exact (decide_eq_false (by omega)).symm
          | cons c u hw =>
            rw [List.zip_cons_cons] at hz
            cases hz
      rw [hv] at hR
      wp_walk
      exact ⟨_, rfl, by simpa [Builtin.Tuple.tupleCompareSizes] using hR⟩
    case h =>
      exact ⟨rfl, rfl, items.toList, items2.toList, ns, ms, rfl, hi, hj, by omega, h⟩
end

section
variable {prog : Program} {w : World} {A : Around} {E : Value → Shared → Prop} {s : Shared}

theorem lt_tupInts {l b : Addr} {items items2 : Array Value} {ns ms : List Int} {Q : Value → Shared → Prop} (hl : IsTup s.heap l items) (hb : IsTup s.heap b items2) (hi : IntsAre items.toList ns) (hj : IntsAre items2.toList ms)
    (hu : A.units < cLine) (h : Q (.bool (lexLt ns ms)) s) : wpAny (model prog w) A (compareOp .Lt (.ref l) (.ref b)) Q E s := by
  obtain ⟨⟨cls, dd, data, sl⟩, ho, hc, n, hd⟩ := id hl
  obtain ⟨⟨cls2, dd2, data2, sl2⟩, ho2, hc2, n2, hd2⟩ := id hb
  simp only at hc hd hc2 hd2
  subst hc hd hc2 hd2
  exact richCompare_meets_room (op := .Lt) ⟨_, ho, rfl⟩ ⟨_, ho2, rfl⟩ PySem.F.slot_tuple_lt PySem.F.entry_tuple_lt (PySem.F.args_tuple_lt_2 _ _) (tuple_lt_ints l b items items2 n n2 dd dd2 sl sl2 ns ms hi hj)
    ⟨ho, ho2, show Value.bool (lexLt ns ms) ≠ Value.notImplemented ∧ Q (.bool (lexLt ns ms)) s from ⟨(fun x => nomatch x), h⟩⟩ hu

/-- t + u, t not empty -/
theorem cat_tup {t b : Addr} {vs ws : List Value} {Q : Value → Shared → Prop} (ht : IsTup s.heap t vs.toArray) (hb : IsTup s.heap b ws.toArray) (hv : vs ≠ [])
    (h1 : ws = [] → Q (.ref t) s) (h2 : ws ≠ [] → Q (.ref s.heap.objs.size) { s with heap := s.heap.push { cls := .type "tuple", data := .seq (vs ++ ws).toArray } })
    (hsz : vs.length + ws.length ≤ sizeLine) : wpAny (model prog w) A (binaryOp .Add (.ref t) (.ref b)) Q E s := by
  obtain ⟨⟨cls, dd, data, sl⟩, ho, hc, n, hd⟩ := id ht
  obtain ⟨⟨cls2, dd2, data2, sl2⟩, ho2, hc2, n2, hd2⟩ := id hb
  simp only at hc hd hc2 hd2
  subst hc hd hc2 hd2
  have e : vs.toArray ++ ws.toArray = (vs ++ ws).toArray := by simp
  by_cases hw : ws = []
  · exact concat_meets ⟨_, ho, rfl⟩ ⟨_, ho2, rfl⟩ noFill_tuple_add seq_tuple_add PySem.F.slot_tuple_add PySem.F.entry_tuple_add (PySem.F.args_tuple_add_2 _ _)
      (tuple_addW1 t b vs.toArray ws.toArray n n2 dd dd2 sl sl2 (by simpa using hv) (by simp [hw])) ⟨ho, ho2, h1 hw⟩
  · refine concat_meets ⟨_, ho, rfl⟩ ⟨_, ho2, rfl⟩ noFill_tuple_add seq_tuple_add PySem.F.slot_tuple_add PySem.F.entry_tuple_add (PySem.F.args_tuple_add_2 _ _)
      (tuple_addW2 t b vs.toArray ws.toArray n n2 dd dd2 sl sl2 (by simpa using hv) (by simpa using hw) (by rw [List.size_toArray, List.size_toArray]; exact hsz)) ⟨ho, ho2, ?_⟩
    rw [e]
    exact h2 hw

/-! ### t[a:b], not the whole -/
/-- a slice's bound as a place among n (d where it is left out) -/
def sIx (n d : Nat) : Option Int → Nat
  | none => d
  | some v => if v < 0 then (v + (n : Int)).toNat else min v.toNat n
theorem sIx_none (n d : Nat) : sIx n d none = d := rfl
theorem sIx_nat (n d k : Nat) : sIx n d (some (k : Int)) = min k n := by
  show (if (k : Int) < 0 then ((k : Int) + (n : Int)).toNat else min (k : Int).toNat n) = min k n
  rw [if_neg (by omega), Int.toNat_natCast]
theorem sIx_le (n d : Nat) (hd : d ≤ n) (o : Option Int) : sIx n d o ≤ n := by
  cases o with
  | none => exact hd
  | some v =>
    show (if v < 0 then (v + (n : Int)).toNat else min v.toNat n) ≤ n
    by_cases hv : v < 0
    · rw [if_pos hv]; omega
    · rw [if_neg hv]; exact Nat.min_le_right _ _
theorem clip_eq (v : Int) (n d : Nat) : (if v < 0 then max (v + (n : Int)) 0 else min v (n : Int)) = ((sIx n d (some v) : Nat) : Int) := by
  show (if v < 0 then max (v + (n : Int)) 0 else min v (n : Int)) = (((if v < 0 then (v + (n : Int)).toNat else min v.toNat n) : Nat) : Int)
  by_cases hv : v < 0
  · simp only [if_pos hv]; omega
  · simp only [if_neg hv]; omega
theorem adjust_gen (lo hi : Option Int) (n : Nat) : Builtin.Slice.sliceAdjust lo hi 1 (n : Int) = (((sIx n 0 lo : Nat) : Int), ((sIx n n hi : Nat) : Int)) := by
  have h1 : ¬ ((1 : Int) < 0) := by omega
  unfold Builtin.Slice.sliceAdjust
  simp only [h1, if_false]
  refine Prod.ext ?_ ?_
  · cases lo with
    | none => rfl
    | some v => exact clip_eq v n 0
  · cases hi with
    | none => rfl
    | some v => exact clip_eq v n n
theorem places_gen (i j : Nat) : Builtin.Slice.slicePlaces (i : Int) (j : Int) 1 = j - i := by
  unfold Builtin.Slice.slicePlaces
  have h1 : (1 : Int) > 0 := by omega
  simp only [h1, if_true, Int.ediv_one]
  split <;> omega
theorem slicePart_ {v : Value} {o : Option Int} {Q : Option Int → Shared → Prop} (p : IsPart v o) (h : Q o s) : wpAny (model prog w) A (Builtin.Slice.slicePartIndex v) Q E s := by
  cases p with
  | none => exact slicePart_none h
  | int i t => exact slicePart_int h
theorem sliceApplied_gen {sl : Addr} {vl vu : Value} {lo hi : Option Int} {n : Nat} {Q : Int × Int × Nat → Shared → Prop} (hs : s.heap.IsSliceOf sl vl vu .none) (pl : IsPart vl lo) (pu : IsPart vu hi)
    (h : Q (((sIx n 0 lo : Nat) : Int), 1, sIx n n hi - sIx n 0 lo) s) : wpAny (model prog w) A (Builtin.Slice.sliceApplied (.ref sl) (pure (n : Int))) Q E s := by
  obtain ⟨os, hos, hcs, hds⟩ := id hs
  unfold Builtin.Slice.sliceApplied Builtin.Slice.sliceFields
  refine wpAny_bind (wpAny_bind (wpAny_field hos hds (x := vl) rfl (wpAny_bind (wpAny_field hos hds (x := vu) rfl (wpAny_bind (wpAny_field hos hds (x := .none) rfl (wpAny_pure ?_)))))))
  refine wpAny_bind (slicePart_none ?_)
  show wpAny _ _ (if ((1 : Int) == 0) = true then _ else _) _ _ s
  rw [if_neg (by decide)]
  refine wpAny_bind (slicePart_ pl (wpAny_bind (slicePart_ pu (wpAny_bind (wpAny_pure ?_)))))
  show wpAny _ _ (match Builtin.Slice.sliceAdjust lo hi 1 (n : Int) with | (lo, hi) => pure (lo, (1 : Int), Builtin.Slice.slicePlaces lo hi 1)) _ _ s
  rw [adjust_gen lo hi n]
  show wpAny _ _ (pure (((sIx n 0 lo : Nat) : Int), (1 : Int), Builtin.Slice.slicePlaces ((sIx n 0 lo : Nat) : Int) ((sIx n n hi : Nat) : Int) 1)) _ _ s
  rw [places_gen]
  exact wpAny_pure h
theorem pick_gen (xs : Array Value) (i k : Nat) : ((List.range k).filterMap fun (m : Nat) => xs[((i : Int) + (m : Int) * 1).toNat]?).toArray = ((xs.toList.drop i).take k).toArray := by
  have e : (fun (m : Nat) => xs[((i : Int) + (m : Int) * 1).toNat]?) = fun m => xs[i + m]? := by
    funext m
    have : ((i : Int) + (m : Int) * 1).toNat = i + m := by omega
    rw [this]
  rw [e]
  have := pick_run xs i k
  rw [List.filterMap_map] at this
  have e2 : ((fun x => xs[x]?) ∘ fun x => i + x) = fun m => xs[i + m]? := rfl
  rw [e2] at this
  rw [this]

theorem getItem_tuple_cut {t sl : Addr} {items : Array Value} {vl vu : Value} {lo hi : Option Int} {Q : Value → Shared → Prop} (ht : IsTup s.heap t items) (hs : s.heap.IsSliceOf sl vl vu .none) (pl : IsPart vl lo) (pu : IsPart vu hi)
    (hw : ¬ (sIx items.size 0 lo = 0 ∧ sIx items.size items.size hi = items.size))
    (h : Q (.ref s.heap.objs.size) { s with heap := s.heap.push { cls := .type "tuple", data := .seq ((items.toList.drop (sIx items.size 0 lo)).take (sIx items.size items.size hi - sIx items.size 0 lo)).toArray } })
    (hsz : items.size ≤ sizeLine) : wpAny (model prog w) A (getItem (.ref t) (.ref sl)) Q E s := by
  have htake : sizeOk (.seq ((items.toList.drop (sIx items.size 0 lo)).take (sIx items.size items.size hi - sIx items.size 0 lo)).toArray) := by
    show ((items.toList.drop (sIx items.size 0 lo)).take (sIx items.size items.size hi - sIx items.size 0 lo)).toArray.size ≤ sizeLine
    rw [List.size_toArray, List.length_take, List.length_drop, Array.length_toList]
    omega
  have hj : sIx items.size items.size hi ≤ items.size := sIx_le _ _ (Nat.le_refl _) hi
  obtain ⟨os, hos, hcs, hds⟩ := id hs
  have hTs : s.TypeIs (.ref sl) "slice" := ⟨os, hos, hcs⟩
  unfold getItem
  try with_reducible refine wpAny_holding ?_
  first | refine wpAny_bind (wpAny_pure ?_) | skip
  refine wpAny_bind (wpAny_sequenceKey ht.typeIs (by decide) ?_)
  refine wpAny_bind (wpAny_callSpecial?_slot (name := Str.ofString "__getitem__") ht.typeIs PyProof.Rows.slot_tuple_getitem
    (wpAny_call_entry PyProof.Rows.slot_tuple_getitem ht.typeIs entry_tuple_getitem ?_ (args_tuple_getitem _ _)))
  show wpAny _ _ (Builtin.Tuple.tupleItemsOf (.ref t) >>= _) _ _ s
  refine wpAny_bind (tupleItemsOf_ ht ?_)
  refine wpAny_bind (wpAny_typeOf hTs ?_)
  rw [if_pos (by decide)]
  refine wpAny_bind (sliceApplied_gen hs pl pu ?_)
  have hno : ¬ ((((sIx items.size 0 lo : Nat) : Int) == 0 && (1 : Int) == 1 && (sIx items.size items.size hi - sIx items.size 0 lo) == items.size) = true) := by
    intro q
    rw [Bool.and_eq_true, Bool.and_eq_true] at q
    have q1 : ((sIx items.size 0 lo : Nat) : Int) = 0 := eq_of_beq q.1.1
    have q2 : sIx items.size items.size hi - sIx items.size 0 lo = items.size := eq_of_beq q.2
    exact hw ⟨by omega, by omega⟩
  show wpAny _ _ (if (((sIx items.size 0 lo : Nat) : Int) == 0 && (1 : Int) == 1 && (sIx items.size items.size hi - sIx items.size 0 lo) == items.size) = true then _ else _) _ _ s
  rw [if_neg hno, pick_gen]
  first
    | exact wpAny_bind (m := Builtin.Tuple.tupleExact _) (wpAny_newObj_type (wpAny_pure ⟨_, rfl, wpAny_pure h⟩) htake)
    | exact wpAny_bind (m := Builtin.Tuple.tupleExact _) (wpAny_newObj_type (wpAny_bind (wpAny_pure (wpAny_pure ⟨_, rfl, wpAny_pure h⟩))) htake)
    | exact wpAny_bind (wpAny_bind (m := Builtin.Tuple.tupleExact _) (wpAny_newObj_type (wpAny_pure (wpAny_pure ⟨_, rfl, wpAny_pure h⟩)) htake))
    | exact wpAny_bind (wpAny_bind (m := Builtin.Tuple.tupleExact _) (wpAny_newObj_type (wpAny_pure ⟨_, rfl, wpAny_pure h⟩) htake))
end
end HT

namespace L2
open PySem PySem.Spec PyProof.Rows

/-! ### the parts of a slice -/
abbrev TO := St → Hp → (Option Int → Hp → Prop) → Prop
/-- a slice's part (left out, or an int) -/
def PO (X : Cx) (e : Option Expr) (t : TO) : Prop :=
  ∀ (pins : List (Addr × Obj)) (s : Shared) (σ : St) (H : Hp) (Q : Option Int → Hp → Prop), Inv X pins σ H s → t σ H Q →
    wpAny (model X.prog X.w) X.A (evalPart e X.env) (fun u s' => ∃ o H', Inv X pins σ H' s' ∧ IsPart u o ∧ Q o H') X.xe s
def tNoPart : TO := fun _ H Q => Q none H
def tPart (t : TE) : TO := fun σ H Q => t σ H fun x H1 => ∃ i, x = .int i ∧ Q (some i) H1

theorem intsAre_of {ns : List Int} : ∀ {us : List Value}, Vals (ns.map V.int) us → IntsAre us ns := by
  induction ns with
  | nil => intro us r; rw [List.map_nil] at r; cases r; exact .nil
  | cons n ns ih =>
    intro us r
    rw [List.map_cons] at r
    cases r with
    | cons r1 r2 =>
      obtain ⟨t, e⟩ := r1
      subst e
      exact .cons n t (ih r2)

section
variable {X : Cx} {e : Expr} {te : TE} {lo hi : Option Expr} {tl th : TO} {pos p2 : Pos}

theorem po_none : PO X none tNoPart := by
  intro pins s σ H Q I h
  rw [evalPart_none]
  exact wpAny_pure ⟨none, H, I, .none, h⟩
theorem po_some (h : PE X e te) : PO X (some e) (tPart te) := by
  intro pins s σ H Q I hw
  rw [evalPart_some]
  refine thn (h pins s σ H _ I hw) fun u s1 ⟨x, H1, I1, r1, q1⟩ => ?_
  obtain ⟨i, rfl, q⟩ := q1
  obtain ⟨t, rfl⟩ := r1
  exact ⟨some i, H1, I1, .int i t, q⟩

/-- what a slice of a value is, by values: the slice object stands at sl -/
def SlR (X : Cx) (r : V → Option Int → Option Int → Hp → VK → Prop) : Prop :=
  ∀ (pins : List (Addr × Obj)) (s : Shared) (σ : St) (H : Hp) (x : V) (v vl vu : Value) (lo hi : Option Int) (sl : Addr) (Q : VK), Inv X pins σ H s → RelV x v → s.heap.IsSliceOf sl vl vu .none → IsPart vl lo → IsPart vu hi → r x lo hi H Q →
    ∃ T id, typeLookup (.type T) "__getitem__" = pure (some (.builtin id)) ∧ s.TypeIs v T ∧ wpAny (model X.prog X.w) X.A (getItem v (.ref sl)) (EP X pins σ Q) X.xe s
theorem SlR.or {r r' : V → Option Int → Option Int → Hp → VK → Prop} (h : SlR X r) (h' : SlR X r') : SlR X (fun x lo hi H Q => r x lo hi H Q ∨ r' x lo hi H Q) := by
  intro pins s σ H x v vl vu lo hi sl Q I rx hs pl pu q
  rcases q with q | q
  · exact h pins s σ H x v vl vu lo hi sl Q I rx hs pl pu q
  · exact h' pins s σ H x v vl vu lo hi sl Q I rx hs pl pu q
def tSl (r : V → Option Int → Option Int → Hp → VK → Prop) (te : TE) (tl th : TO) : TE := fun σ H Q => te σ H fun x H1 => tl σ H1 fun l H2 => th σ H2 fun u H3 => r x l u H3 Q
/-- a[lo:hi], any a -/
theorem pe_slice {r : V → Option Int → Option Int → Hp → VK → Prop} (hr : SlR X r) (he : PE X e te) (hl : PO X lo tl) (hu : PO X hi th) : PE X (.Subscript e (.Slice lo hi none p2) pos) (tSl r te tl th) := by
  intro pins s σ H Q I h
  refine Subscript_ (thn (he pins s σ H _ I h) fun v s1 ⟨x, H1, I1, r1, q1⟩ => ?_)
  refine wpAny_Slice (thn (hl pins s1 σ H1 _ I1 q1) fun vl s2 ⟨l, H2, I2, pl, q2⟩ => thn (hu pins s2 σ H2 _ I2 q2) fun vu s3 ⟨u, H3, I3, pu, q3⟩ => ?_)
  rw [evalPart_none]
  refine wpAny_pure ?_
  have I4 : Inv X pins σ H3 { s3 with heap := s3.heap.push { cls := .type "slice", data := .fields #[vl, vu, .none] } } := I3.kept (t' := s3.toks) fun b ob q => Heap.get?_push_of_some _ q
  obtain ⟨T, id, hT, ht, hg⟩ := hr pins { s3 with heap := s3.heap.push { cls := .type "slice", data := .fields #[vl, vu, .none] } } σ H3 x v vl vu l u s3.heap.objs.size Q I4 r1 (Heap.IsSliceOf.new ..) pl pu q3
  show wpAny (model X.prog X.w) X.A (subscriptTail e (.Slice lo hi none p2) v (.ref s3.heap.objs.size)) (EP X pins σ Q) X.xe { s3 with heap := s3.heap.push { cls := .type "slice", data := .fields #[vl, vu, .none] } }
  exact tail_any (ops := [.ref s3.heap.objs.size, v]) ht hT hg (by with_unfolding_all rfl)

/-- the items of xs[lo:hi] -/
def cutV (xs : List V) (lo hi : Option Int) : List V := (xs.drop (HT.sIx xs.length 0 lo)).take (HT.sIx xs.length xs.length hi - HT.sIx xs.length 0 lo)
theorem cutV_length (xs : List V) (lo hi : Option Int) : (cutV xs lo hi).length ≤ xs.length := by
  unfold cutV
  rw [List.length_take, List.length_drop]
  omega
/-- t[lo:hi], not the whole of it (the whole would be t itself) -/
def rSlT (K : PySem.W.Frag) : V → Option Int → Option Int → Hp → VK → Prop := fun x lo hi H Q => ∃ a xs, x = .ref a ∧ SqT K H a xs ∧
  ¬ (HT.sIx xs.length 0 lo = 0 ∧ HT.sIx xs.length xs.length hi = xs.length) ∧ ∀ p, H p = none → Q (.ref p) (upd H p (.tup (cutV xs lo hi)))
theorem sl_tup : SlR X (rSlT X.K) := by
  intro pins s σ H x v vl vu lo hi sl Q I rx hs pl pu h
  obtain ⟨a, xs, rfl, hx, hw, q⟩ := h
  cases rx
  obtain ⟨its, r, ht, hz⟩ := I.tuple hx
  have hlen : its.toArray.size = xs.length := by rw [List.size_toArray]; exact r.length.symm
  refine ⟨"tuple", _, PyProof.Rows.slot_tuple_getitem.lookup, ht.typeIs, ?_⟩
  refine HT.getItem_tuple_cut ht hs pl pu (by rw [hlen]; exact hw) ?_ (by rw [hlen]; exact hz)
  rw [hlen]
  refine ⟨.ref s.heap.objs.size, _, I.laid (t' := s.toks) (o := .tup (cutV xs lo hi)) (fun b ob q => Heap.get?_push_of_some _ q) (Nat.le_refl _) ?_, rfl, q _ (I.hok.fresh (Nat.le_refl _))⟩
  exact ⟨Nat.le_trans (cutV_length xs lo hi) hz, _, (r.drop (HT.sIx xs.length 0 lo)).take (HT.sIx xs.length xs.length hi - HT.sIx xs.length 0 lo), IsTup.new _ _⟩

/-! ### t < u, t + u -/
def rLtT (K : PySem.W.Frag) : R2 := fun x y H Q => ∃ a b ns ms, x = .ref a ∧ y = .ref b ∧ SqT K H a (ns.map V.int) ∧ SqT K H b (ms.map V.int) ∧ Q (.bl (HT.lexLt ns ms)) H
theorem op_ltT (hu : X.A.units < cLine) : OpR X (compareOp .Lt) (rLtT X.K) := by
  intro pins s σ H x y v u Q I rx ry h
  obtain ⟨a, b, ns, ms, rfl, rfl, ha, hb, q⟩ := h
  cases rx
  cases ry
  obtain ⟨its, r1, p1, _⟩ := I.tuple ha
  obtain ⟨its2, r2, p2, _⟩ := I.tuple hb
  have i1 : IntsAre its.toArray.toList ns := intsAre_of r1
  have i2 : IntsAre its2.toArray.toList ms := intsAre_of r2
  exact HT.lt_tupInts p1 p2 i1 i2 hu ⟨.bl (HT.lexLt ns ms), H, I, rfl, q⟩
/-- t + u, t not empty: u empty gives t itself -/
def rCatT (K : PySem.W.Frag) : R2 := fun x y H Q => ∃ a b xs ys, x = .ref a ∧ y = .ref b ∧ SqT K H a xs ∧ SqT K H b ys ∧ xs ≠ [] ∧ xs.length + ys.length ≤ sizeLine ∧
  (ys = [] → Q (.ref a) H) ∧ (ys ≠ [] → ∀ p, H p = none → Q (.ref p) (upd H p (.tup (xs ++ ys))))
theorem Vals.nil_iff {xs : List V} {us : List Value} (r : Vals xs us) : us = [] ↔ xs = [] := by
  cases r with
  | nil => simp
  | cons _ _ => simp
theorem op_catT : OpR X (binaryOp .Add) (rCatT X.K) := by
  intro pins s σ H x y v u Q I rx ry h
  obtain ⟨a, b, xs, ys, rfl, rfl, ha, hb, hx, hz, q1, q2⟩ := h
  cases rx
  cases ry
  obtain ⟨its, r1, p1, _⟩ := I.tuple ha
  obtain ⟨its2, r2, p2, _⟩ := I.tuple hb
  refine HT.cat_tup p1 p2 (fun z => hx (r1.nil_iff.mp z)) (fun z => ⟨.ref a, H, I, rfl, q1 (r2.nil_iff.mp z)⟩) (fun z => ?_) (by rw [← r1.length, ← r2.length]; exact hz)
  refine ⟨.ref s.heap.objs.size, _, I.laid (t' := s.toks) (o := .tup (xs ++ ys)) (fun b ob q => Heap.get?_push_of_some _ q) (Nat.le_refl _) ?_, rfl, q2 (fun w => z (r2.nil_iff.mpr w)) _ (I.hok.fresh (Nat.le_refl _))⟩
  exact ⟨by rw [List.length_append]; exact hz, _, r1.append r2, IsTup.new _ _⟩
/-- tuple(t) -/
theorem call_tupleT : CallR X (.type "tuple") (fun xs H Q => ∃ a ys, xs = [.ref a] ∧ SqT X.K H a ys ∧ Q (.ref a) H) := by
  intro pins s σ H xs us Q I r h
  obtain ⟨a, ys, rfl, ha, q⟩ := h
  obtain ⟨u, rfl, ru⟩ := vals1 r
  cases ru
  obtain ⟨its, _, p1, _⟩ := I.tuple ha
  exact call_tuple_same (items := its.toArray) p1 ⟨.ref a, H, I, rfl, q⟩
end
end L2

namespace L2
open PySem PySem.Spec PyProof.Rows

/-! ### places -/
/-- the place that an index of any sign means -/
def ixN (n : Nat) (i : Int) : Option Nat := if 0 ≤ i then (if i < n then some i.toNat else none) else if -(n : Int) ≤ i then some (i + n).toNat else none
def atI {α : Type} (xs : List α) (i : Int) : Option α := (ixN xs.length i).bind fun j => xs[j]?
theorem ixN_seq {n : Nat} {i : Int} {j : Nat} (h : ixN n i = some j) : seqIndex? i n = some j ∧ j < n ∧ -(n : Int) ≤ i ∧ i < n := by
  unfold ixN at h
  by_cases h0 : 0 ≤ i
  · rw [if_pos h0] at h
    by_cases h1 : i < n
    · rw [if_pos h1] at h
      have e : i.toNat = j := Option.some.inj h
      exact ⟨by rw [seqIndex_of h0 h1, e], by omega, by omega, h1⟩
    · rw [if_neg h1] at h; cases h
  · rw [if_neg h0] at h
    by_cases h1 : -(n : Int) ≤ i
    · rw [if_pos h1] at h
      have e : (i + n).toNat = j := Option.some.inj h
      exact ⟨by rw [seqIndex_neg (by omega) h1, e], by omega, h1, by omega⟩
    · rw [if_neg h1] at h; cases h
theorem atI_get {α : Type} {xs : List α} {i : Int} {v : α} (h : atI xs i = some v) : ∃ j, seqIndex? i xs.length = some j ∧ xs[j]? = some v ∧ j < xs.length ∧ -(xs.length : Int) ≤ i ∧ i < xs.length := by
  unfold atI at h
  cases e : ixN xs.length i with
  | none => rw [e] at h; cases h
  | some j =>
    rw [e] at h
    obtain ⟨h1, h2, h3, h4⟩ := ixN_seq e
    exact ⟨j, h1, h, h2, h3, h4⟩
theorem atI_nat {α : Type} {xs : List α} {j : Nat} {v : α} (h : xs[j]? = some v) : atI xs (j : Int) = some v := by
  have hj : j < xs.length := (List.getElem?_eq_some_iff.mp h).1
  have e : ixN xs.length (j : Int) = some j := by
    unfold ixN
    rw [if_pos (by omega), if_pos (by omega)]; simp
  unfold atI; rw [e]; exact h
theorem atI_last {α : Type} (xs : List α) (v : α) : atI (xs ++ [v]) (-1) = some v := by
  have hl : (xs ++ [v]).length = xs.length + 1 := by simp
  have e : ixN (xs ++ [v]).length (-1) = some xs.length := by
    unfold ixN
    rw [hl, if_neg (by decide), if_pos (by omega)]
    congr 1
    omega
  unfold atI
  rw [e]
  show (xs ++ [v])[xs.length]? = some v
  simp

/-! ### what may be subscripted -/
/-- what stands as an index of a plain subscript -/
def PlainIx (b : Expr) : Prop := ∀ o i, subscripted b false o i = operate [o, i] (getItem o i)
/-- a subscript by values -/
def IxR (X : Cx) (r : R2) : Prop :=
  ∀ (value slice : Expr) (pins : List (Addr × Obj)) (s : Shared) (σ : St) (H : Hp) (x y : V) (v u : Value) (Q : VK), Inv X pins σ H s → RelV x v → RelV y u → r x y H Q →
    subscripted slice false v u = operate [v, u] (getItem v u) → wpAny (model X.prog X.w) X.A (subscriptTail value slice v u) (EP X pins σ Q) X.xe s
/-- a call of a builtin's method by values: the receiver, the arguments -/
def MtR (X : Cx) (id : String) (r : V → List V → Hp → VK → Prop) : Prop :=
  ∀ (pins : List (Addr × Obj)) (s : Shared) (σ : St) (H : Hp) (x : V) (xs : List V) (v : Value) (us : List Value) (Q : VK), Inv X pins σ H s → RelV x v → Vals xs us → r x xs H Q →
    wpAny (model X.prog X.w) X.A (call (.builtin id) (v :: us)) (EP X pins σ Q) X.xe s
section
variable {X : Cx} {a b : Expr} {ta tb : TE} {pos : Pos}
theorem IxR.or {r r' : R2} (h : IxR X r) (h' : IxR X r') : IxR X (fun x y H Q => r x y H Q ∨ r' x y H Q) := by
  intro value slice pins s σ H x y v u Q I rx ry q hs
  rcases q with q | q
  · exact h value slice pins s σ H x y v u Q I rx ry q hs
  · exact h' value slice pins s σ H x y v u Q I rx ry q hs
theorem MtR.or {id : String} {r r' : V → List V → Hp → VK → Prop} (h : MtR X id r) (h' : MtR X id r') : MtR X id (fun x xs H Q => r x xs H Q ∨ r' x xs H Q) := by
  intro pins s σ H x xs v us Q I rx rs q
  rcases q with q | q
  · exact h pins s σ H x xs v us Q I rx rs q
  · exact h' pins s σ H x xs v us Q I rx rs q
/-- a[b] -/
theorem pe_ix {r : R2} (hr : IxR X r) (ha : PE X a ta) (hb : PE X b tb) (hs : PlainIx b) : PE X (.Subscript a b pos) (tOp r ta tb) := by
  intro pins s σ H Q I h
  exact Subscript_ (binT ha hb I h fun v u s2 x y H2 I2 rx ry q => hr a b pins s2 σ H2 x y v u Q I2 rx ry q (hs _ _))

def rIxL (K : PySem.W.Frag) : R2 := fun x y H Q => ∃ p xs i v, x = .ref p ∧ y = .int i ∧ SqL K H p xs ∧ atI xs i = some v ∧ Q v H
def rIxT (K : PySem.W.Frag) : R2 := fun x y H Q => ∃ p xs i v, x = .ref p ∧ y = .int i ∧ SqT K H p xs ∧ atI xs i = some v ∧ Q v H
def rIxS : R2 := fun x y H Q => ∃ z i c, x = .str z ∧ y = .int i ∧ z.length ≤ sizeLine ∧ atI z.cps.toList i = some c ∧ Q (.str ⟨#[c]⟩) H
theorem ix_list : IxR X (rIxL X.K) := by
  intro value slice pins s σ H x y v u Q I rx ry h hs
  obtain ⟨p, xs, i, z, rfl, rfl, hq, he, q⟩ := h
  cases rx
  obtain ⟨t, rfl⟩ := ry
  obtain ⟨its, r, pl, hz⟩ := I.list hq
  obtain ⟨j, h1, h2, h3, h4, h5⟩ := atI_get he
  obtain ⟨w, ew, rw'⟩ := r.get h2
  have hl := r.length
  have hn := line63
  have fin : EP X pins σ Q w s := ⟨z, H, I, rw', q⟩
  by_cases h0 : 0 ≤ i
  · have hj : i.toNat = j := by
      rw [seqIndex_of h0 h5] at h1
      exact Option.some.inj h1
    exact item_listR pl.isList h0 (by omega) (by rw [hj]; simpa using ew) fin hs
  · have hj : (i + (its.toArray.size : Int)).toNat = j := by
      rw [seqIndex_neg (by omega) h4] at h1
      rw [List.size_toArray, ← hl]
      exact Option.some.inj h1
    exact subscriptTail_builtinR (x := w) pl.isList.typeIs slot_list_getitem.lookup
      (wpAny_getItem_list_neg (Q := fun r s' => r = w ∧ EP X pins σ Q r s') pl.isList (by omega) (by rw [List.size_toArray] <;> omega) (by omega) (by rw [hj]; simpa using ew) ⟨rfl, fin⟩) hs
theorem ix_tup : IxR X (rIxT X.K) := by
  intro value slice pins s σ H x y v u Q I rx ry h hs
  obtain ⟨p, xs, i, z, rfl, rfl, hq, he, q⟩ := h
  cases rx
  obtain ⟨t, rfl⟩ := ry
  obtain ⟨its, r, pl, hz⟩ := I.tuple hq
  obtain ⟨j, h1, h2, h3, h4, h5⟩ := atI_get he
  obtain ⟨w, ew, rw'⟩ := r.get h2
  have hl := r.length
  have hn := line63
  have fin : EP X pins σ Q w s := ⟨z, H, I, rw', q⟩
  exact subscriptTail_builtinR (x := w) pl.typeIs slot_tuple_getitem.lookup
    (getItem_tuple (j := j) (Q := fun r s' => r = w ∧ EP X pins σ Q r s') pl (by omega) (by omega) (by rw [List.size_toArray, ← hl]; exact h1) (by simpa using ew) ⟨rfl, fin⟩) hs
theorem ix_str : IxR X rIxS := by
  intro value slice pins s σ H x y v u Q I rx ry h hs
  obtain ⟨z, i, c, rfl, rfl, hz, he, q⟩ := h
  obtain ⟨t, rfl⟩ := rx
  obtain ⟨t', rfl⟩ := ry
  obtain ⟨j, h1, h2, h3, h4, h5⟩ := atI_get he
  have hl : z.cps.toList.length = z.length := by simp [Str.length]
  rw [hl] at h1 h4 h5
  have hn := line63
  exact tail_any (typeIs_str s z t) slot_str_getitem.lookup (getItem_str (c := c) (by
    have e1 : decide (i < -(2 ^ 63 : Int)) = false := decide_eq_false (by omega)
    have e2 : decide (i ≥ 2 ^ 63) = false := decide_eq_false (by omega)
    rw [e1, e2, Bool.or_false]) (by rw [h1]; simpa using h2) ⟨.str ⟨#[c]⟩, H, I.tok _, ⟨_, rfl⟩, q⟩) hs
/-- list, tuple or str -/
def rIx (K : PySem.W.Frag) : R2 := fun x y H Q => rIxL K x y H Q ∨ rIxT K x y H Q ∨ rIxS x y H Q
theorem ix_seq : IxR X (rIx X.K) := ix_list.or (ix_tup.or ix_str)

/-! ### xs[i] = v, any sign -/
/-- the list's object behind a store -/
theorem mapSeq_set (its : List Value) (n j : Nat) (u : Value) : Obj.mapSeq (·.setIfInBounds j u) { cls := .type "list", data := .seq its.toArray n } = { cls := .type "list", data := .seq (its.set j u).toArray n } := by
  simp [Obj.mapSeq]
theorem Inv.lst {pins : List (Addr × Obj)} {σ : St} {H : Hp} {s : Shared} {p : Addr} {xs : List V} (I : Inv X pins σ H s) (h : H p = some (.lst xs)) :
    ∃ (its : List Value) (n : Nat), Vals xs its ∧ s.heap.get? p = some { cls := .type "list", data := .seq its.toArray n } ∧ xs.length ≤ sizeLine := by
  obtain ⟨z, its, n, r, e⟩ := I.hok p _ h
  exact ⟨its, n, r, e, z⟩
/-- the list at p is written by an update of its object -/
theorem Inv.lstUpd {pins : List (Addr × Obj)} {σ : St} {H : Hp} {s : Shared} {p : Addr} {xs ys : List V} {its its' : List Value} {n n' : Nat} {f : Obj → Obj} (I : Inv X pins σ H s) (h : H p = some (.lst xs))
    (ho : s.heap.get? p = some { cls := .type "list", data := .seq its.toArray n }) (hf : f { cls := .type "list", data := .seq its.toArray n } = { cls := .type "list", data := .seq its'.toArray n' }) (r : Vals ys its') (hz : ys.length ≤ sizeLine) (t : Nat) :
    Inv X pins σ (upd H p (.lst ys)) { s with heap := s.heap.update p f, toks := t } := by
  have e : (s.heap.update p f).get? p = some { cls := .type "list", data := .seq its'.toArray n' } := by
    rw [Heap.get?_update_self f ho (by rw [hf] <;> rfl), hf]
  refine I.write (x := p) (e := p) (by rw [h]; trivial) (.inl rfl) (fun b u hb q => (Heap.get?_update_other _ _ (Ne.symm hb)).trans q) ⟨_, e⟩ ?_
  exact ⟨hz, its', n', r, e⟩
def rSetL : V → V → V → Hp → (Hp → Prop) → Prop := fun o i v H Q => ∃ p xs k j, o = .ref p ∧ i = .int k ∧ H p = some (.lst xs) ∧ ixN xs.length k = some j ∧ Q (upd H p (.lst (xs.set j v)))
theorem set_list : PSet X rSetL := by
  intro pins s σ H o i v ov iv u Q I ro ri rv h
  obtain ⟨p, xs, k, j, rfl, rfl, hp, hj, q⟩ := h
  cases ro
  obtain ⟨t, rfl⟩ := ri
  obtain ⟨its, n, r, ho, hz⟩ := I.lst hp
  obtain ⟨h1, h2, h3, h4⟩ := ixN_seq hj
  have hl := r.length
  have hn := line63
  have I' : Inv X pins σ (upd H p (.lst (xs.set j v))) { s with heap := s.heap.update p (Obj.mapSeq (·.setIfInBounds j u)) } :=
    I.lstUpd hp ho (mapSeq_set its n j u) (r.set rv j) (by rw [List.length_set]; exact hz) s.toks
  by_cases h0 : 0 ≤ k
  · have hk : k.toNat = j := by
      rw [seqIndex_of h0 h4] at h1
      exact Option.some.inj h1
    exact PySem.W.ki_setAt ho h0 (by omega) (by rw [List.size_toArray, ← hl]; exact h4) (by rw [hk]; exact ⟨_, I', q⟩)
  · have hk : (k + (its.toArray.size : Int)).toNat = j := by
      rw [seqIndex_neg (by omega) h3] at h1
      rw [List.size_toArray, ← hl]
      exact Option.some.inj h1
    exact PySem.W.ki_setBack ho (by omega) (by rw [List.size_toArray, ← hl]; exact h3) (by omega) (by rw [hk]; exact ⟨_, I', q⟩)

/-! ### slices -/
theorem slice_bounds (lo hi : Option Int) (n : Nat) : (sliceBounds lo hi none n).1 = ((HT.sIx n 0 lo : Nat) : Int) ∧ (sliceBounds lo hi none n).2.1 = ((HT.sIx n n hi : Nat) : Int) ∧ (sliceBounds lo hi none n).2.2 = 1 := by
  refine ⟨?_, ?_, rfl⟩
  · cases lo with
    | none => simp [sliceBounds, HT.sIx]
    | some i =>
      simp only [sliceBounds, HT.sIx, Option.getD_none, show (1 : Int) > 0 by decide, if_true]
      by_cases h : i < 0
      · simp only [h, if_true] <;> omega
      · simp only [h, if_false] <;> omega
  · cases hi with
    | none => simp [sliceBounds, HT.sIx]
    | some i =>
      simp only [sliceBounds, HT.sIx, Option.getD_none, show (1 : Int) > 0 by decide, if_true]
      by_cases h : i < 0
      · simp only [h, if_true] <;> omega
      · simp only [h, if_false] <;> omega
theorem slicePick_cut (its : List Value) (lo hi : Option Int) : slicePick its.toArray lo hi none = ((its.drop (HT.sIx its.length 0 lo)).take (HT.sIx its.length its.length hi - HT.sIx its.length 0 lo)).toArray := by
  obtain ⟨h1, h2, h3⟩ := slice_bounds lo hi its.toArray.size
  unfold slicePick
  rw [h1, h2, h3]
  simp only [sliceRange_one, pick_run, List.size_toArray] <;> rfl
/-- xs[lo:hi] of a list: a new list -/
def rSlL (K : PySem.W.Frag) : V → Option Int → Option Int → Hp → VK → Prop := fun x lo hi H Q => ∃ a xs, x = .ref a ∧ SqL K H a xs ∧ ∀ p, H p = none → Q (.ref p) (upd H p (.lst (cutV xs lo hi)))
theorem sl_list : SlR X (rSlL X.K) := by
  intro pins s σ H x v vl vu lo hi sl Q I rx hs pl pu h
  obtain ⟨a, xs, rfl, hx, q⟩ := h
  cases rx
  obtain ⟨its, r, ht, hz⟩ := I.list hx
  have hlen := r.length
  refine ⟨"list", _, slot_list_getitem.lookup, ht.isList.typeIs, ?_⟩
  refine wpAny_getItem_list_slice ht.isList hs pl pu .none (by simp) ?_ (by rw [List.size_toArray] <;> omega)
  rw [slicePick_cut, ← hlen]
  refine ⟨.ref s.heap.objs.size, _, I.laid (t' := s.toks) (o := .lst (cutV xs lo hi)) (fun b ob q => Heap.get?_push_of_some _ q) (Nat.le_refl _) ?_, rfl, q _ (I.hok.fresh (Nat.le_refl _))⟩
  exact ⟨Nat.le_trans (cutV_length xs lo hi) hz, _, 0, (r.drop (HT.sIx xs.length 0 lo)).take (HT.sIx xs.length xs.length hi - HT.sIx xs.length 0 lo), Heap.get?_push_size _ rfl⟩

/-! ### in, not in: flat items -/
def flatV : V → Bool
  | .non => true
  | .bl _ => true
  | .int _ => true
  | .str _ => true
  | _ => false
/-- == of flat values -/
def eqV : V → V → Bool
  | .non, .non => true
  | .bl a, .bl b => a == b
  | .bl a, .int b => (if a then 1 else 0) == b
  | .int a, .bl b => a == (if b then 1 else 0)
  | .int a, .int b => a == b
  | .str a, .str b => a == b
  | _, _ => false
theorem eqAt_V {A : Around} {s : Shared} {y x : V} {u v : Value} (ry : RelV y u) (rx : RelV x v) (fy : flatV y = true) (fx : flatV x = true) : SeqAt.EqAt A s u v (eqV y x) := by
  cases y with
  | non =>
    cases ry
    cases x with
    | non => cases rx; exact SeqAt.EqAt.same _
    | bl b => cases rx; exact SeqAt.EqAt.none_bool b
    | int b => obtain ⟨t, rfl⟩ := rx; exact SeqAt.EqAt.none_int b t
    | str b => obtain ⟨t, rfl⟩ := rx; exact SeqAt.EqAt.none_str b t
    | _ => exact absurd (show false = true from fx) Bool.false_ne_true
  | bl a =>
    cases ry
    cases x with
    | non => cases rx; exact SeqAt.EqAt.bool_none a
    | bl b => cases rx; exact SeqAt.EqAt.bool_bool a b
    | int b => obtain ⟨t, rfl⟩ := rx; exact SeqAt.EqAt.bool_int a b t
    | str b => obtain ⟨t, rfl⟩ := rx; exact SeqAt.EqAt.bool_str a b t
    | _ => exact absurd (show false = true from fx) Bool.false_ne_true
  | int a =>
    obtain ⟨t', rfl⟩ := ry
    cases x with
    | non => cases rx; exact SeqAt.EqAt.int_none a t'
    | bl b => cases rx; exact SeqAt.EqAt.int_bool a t' b
    | int b => obtain ⟨t, rfl⟩ := rx; exact SeqAt.EqAt.int_int a t' b t
    | str b => obtain ⟨t, rfl⟩ := rx; exact SeqAt.EqAt.int_str a t' b t
    | _ => exact absurd (show false = true from fx) Bool.false_ne_true
  | str a =>
    obtain ⟨t', rfl⟩ := ry
    cases x with
    | non => cases rx; exact SeqAt.EqAt.str_none a t'
    | bl b => cases rx; exact SeqAt.EqAt.str_bool a t' b
    | int b => obtain ⟨t, rfl⟩ := rx; exact SeqAt.EqAt.str_int a t' b t
    | str b => obtain ⟨t, rfl⟩ := rx; exact SeqAt.EqAt.str_str a t' b t
    | _ => exact absurd (show false = true from fx) Bool.false_ne_true
  | _ => exact absurd (show false = true from fy) Bool.false_ne_true
/-- the items' answers, read off the values (a value's own answer does not lean on its token) -/
def eqU (x : V) (u : Value) : Bool := match u with
  | .none => eqV .non x
  | .bool b => eqV (.bl b) x
  | .int i _ => eqV (.int i) x
  | .str z _ => eqV (.str z) x
  | _ => false
theorem eqU_of {x y : V} {u : Value} (r : RelV y u) (f : flatV y = true) : eqU x u = eqV y x := by
  cases y with
  | non => cases r; rfl
  | bl b => cases r; rfl
  | int i => obtain ⟨t, rfl⟩ := r; rfl
  | str z => obtain ⟨t, rfl⟩ := r; rfl
  | _ => exact absurd (show false = true from f) Bool.false_ne_true
theorem any_eqU {x : V} : ∀ {xs : List V} {us : List Value}, Vals xs us → xs.all flatV = true → us.any (eqU x) = xs.any fun y => eqV y x
  | _, _, .nil, _ => rfl
  | y :: xs, u :: us, .cons r t, f => by
    rw [List.all_cons, Bool.and_eq_true] at f
    rw [List.any_cons, List.any_cons, eqU_of r f.1, any_eqU t f.2]
theorem mem_eqAt {A : Around} {s : Shared} {x : V} {v : Value} (rx : RelV x v) (fx : flatV x = true) : ∀ {xs : List V} {us : List Value}, Vals xs us → xs.all flatV = true → ∀ u ∈ us, SeqAt.EqAt A s u v (eqU x u)
  | _, _, .nil, _ => fun u hu => by cases hu
  | y :: xs, u :: us, .cons r t, f => fun u' hu => by
    rw [List.all_cons, Bool.and_eq_true] at f
    rcases List.mem_cons.mp hu with rfl | hu
    · rw [eqU_of r f.1]; exact eqAt_V r rx f.1 fx
    · exact mem_eqAt rx fx t f.2 u' hu
def inV (x : V) (xs : List V) : Bool := xs.any fun y => eqV y x
/-- x in a list or tuple of flat items -/
def rIn (K : PySem.W.Frag) (neg : Bool) : R2 := fun x y H Q => ∃ p xs, y = .ref p ∧ (SqL K H p xs ∨ SqT K H p xs) ∧ flatV x = true ∧ xs.all flatV = true ∧ Q (.bl (if neg then !inV x xs else inV x xs)) H
theorem op_in_seq : OpR X (compareOp .In) (rIn X.K false) := by
  intro pins s σ H x y v u Q I rx ry h
  obtain ⟨p, xs, rfl, hq, fx, fs, q⟩ := h
  cases ry
  rcases hq with hq | hq
  · obtain ⟨its, r, pl, hz⟩ := I.list hq
    refine SeqAt.in_listAt (eqU x) pl.isList (fun w hw => mem_eqAt rx fx r fs w (by simpa using hw)) ⟨.bl _, H, I, rfl, ?_⟩
    rw [show its.toArray.any (eqU x) = its.any (eqU x) by simp, any_eqU r fs]
    exact q
  · obtain ⟨its, r, pl, hz⟩ := I.tuple hq
    refine SeqAt.in_tupleAt (eqU x) pl (fun w hw => mem_eqAt rx fx r fs w (by simpa using hw)) ⟨.bl _, H, I, rfl, ?_⟩
    rw [show its.toArray.any (eqU x) = its.any (eqU x) by simp, any_eqU r fs]
    exact q
theorem op_notIn_seq : OpR X (compareOp .NotIn) (rIn X.K true) := by
  intro pins s σ H x y v u Q I rx ry h
  obtain ⟨p, xs, rfl, hq, fx, fs, q⟩ := h
  cases ry
  rcases hq with hq | hq
  · obtain ⟨its, r, pl, hz⟩ := I.list hq
    refine SeqAt.notIn_listAt (eqU x) pl.isList (fun w hw => mem_eqAt rx fx r fs w (by simpa using hw)) ⟨.bl _, H, I, rfl, ?_⟩
    rw [show its.toArray.any (eqU x) = its.any (eqU x) by simp, any_eqU r fs]
    exact q
  · obtain ⟨its, r, pl, hz⟩ := I.tuple hq
    refine SeqAt.notIn_tupleAt (eqU x) pl (fun w hw => mem_eqAt rx fx r fs w (by simpa using hw)) ⟨.bl _, H, I, rfl, ?_⟩
    rw [show its.toArray.any (eqU x) = its.any (eqU x) by simp, any_eqU r fs]
    exact q
theorem op_notIn_str : OpR X (compareOp .NotIn) (fun x y H Q => ∃ i j, x = .str i ∧ y = .str j ∧ Q (.bl (!(!(Builtin.Str.occurrences j i 0 j.length 1).isEmpty))) H) := by
  intro pins s σ H x y v u Q I rx ry h
  obtain ⟨i, j, rfl, rfl, q⟩ := h
  obtain ⟨t, rfl⟩ := rx
  obtain ⟨t', rfl⟩ := ry
  exact notIn_str ⟨.bl _, H, I, rfl, q⟩

/-! ### len, list(x), tuple(x) of any list or tuple that is read -/
theorem call_len_seq : CallR X (.builtin "len") (fun xs H Q => ∃ p ys, xs = [.ref p] ∧ (SqL X.K H p ys ∨ SqT X.K H p ys) ∧ Q (.int ys.length) H) := by
  intro pins s σ H xs us Q I r h
  obtain ⟨p, ys, rfl, hq, q⟩ := h
  obtain ⟨u, rfl, rx⟩ := vals1 r
  cases rx
  have hn := line63
  rcases hq with hq | hq
  · obtain ⟨its, r', pl, hz⟩ := I.list hq
    have hlen := r'.length
    exact Calls.call_len_list pl.isList (by simp only [List.size_toArray] <;> omega) ⟨.int ys.length, H, I.tok _, ⟨s.toks + 1, by rw [List.size_toArray, hlen]⟩, q⟩
  · obtain ⟨its, r', pl, hz⟩ := I.tuple hq
    have hlen := r'.length
    exact len_tuple pl (by simp only [List.size_toArray] <;> omega) ⟨.int ys.length, H, I.tok _, ⟨s.toks + 1, by rw [List.size_toArray, hlen]⟩, q⟩
theorem call_len_str : CallR X (.builtin "len") (fun xs H Q => ∃ z, xs = [.str z] ∧ z.length ≤ sizeLine ∧ Q (.int z.length) H) := by
  intro pins s σ H xs us Q I r h
  obtain ⟨z, rfl, hz, q⟩ := h
  obtain ⟨u, rfl, t, rfl⟩ := vals1 r
  have hn := line63
  exact len_str (by omega) ⟨.int z.length, H, I.tok _, ⟨_, rfl⟩, q⟩
theorem CallR.or {f : Value} {r r' : List V → Hp → VK → Prop} (h : CallR X f r) (h' : CallR X f r') : CallR X f (fun xs H Q => r xs H Q ∨ r' xs H Q) := by
  intro pins s σ H xs us Q I rs q
  rcases q with q | q
  · exact h pins s σ H xs us Q I rs q
  · exact h' pins s σ H xs us Q I rs q
theorem call_list_of : CallR X (.type "list") (fun xs H Q => ∃ p ys, xs = [.ref p] ∧ (SqL X.K H p ys ∨ SqT X.K H p ys) ∧ ∀ l, H l = none → Q (.ref l) (upd H l (.lst ys))) := by
  intro pins s σ H xs us Q I r h
  obtain ⟨p, ys, rfl, hq, q⟩ := h
  obtain ⟨u, rfl, rx⟩ := vals1 r
  cases rx
  have fin : ∀ (its : List Value), Vals ys its → ys.length ≤ sizeLine → ∀ (h' : Heap) (c' : Nat), (∀ b o', s.heap.get? b = some o' → h'.get? b = some o') →
      h'.get? s.heap.objs.size = some { cls := .type "list", dict := none, data := .seq its.toArray c', slots := #[] } → EP X pins σ Q (.ref s.heap.objs.size) { s with heap := h' } := fun its r' hz h' c' kp e =>
    ⟨.ref s.heap.objs.size, _, I.laid (t' := s.toks) kp (Nat.le_refl _) (show ObjOk X.prog X.w _ h' _ (.lst ys) from ⟨hz, its, c', r', e⟩), rfl, q _ (I.hok.fresh (Nat.le_refl _))⟩
  rcases hq with hq | hq
  · obtain ⟨its, r', pl, hz⟩ := I.list hq
    have hlen := r'.length
    obtain ⟨o, ho, hc, n, hd⟩ := pl.isList
    exact call_list_seq p (.inl rfl) ho hc hd (fun h' c' kp e => fin its r' hz h' c' kp e) (by simp only [List.size_toArray] <;> omega)
  · obtain ⟨its, r', pl, hz⟩ := I.tuple hq
    have hlen := r'.length
    obtain ⟨o, ho, hc, n, hd⟩ := pl
    exact call_list_seq p (.inr rfl) ho hc hd (fun h' c' kp e => fin its r' hz h' c' kp e) (by simp only [List.size_toArray] <;> omega)
theorem call_tuple_of : CallR X (.type "tuple") (fun xs H Q => ∃ p ys, xs = [.ref p] ∧ ((SqL X.K H p ys ∧ ∀ l, H l = none → Q (.ref l) (upd H l (.tup ys))) ∨ (SqT X.K H p ys ∧ Q (.ref p) H))) := by
  intro pins s σ H xs us Q I r h
  obtain ⟨p, ys, rfl, h⟩ := h
  obtain ⟨u, rfl, rx⟩ := vals1 r
  cases rx
  rcases h with ⟨hq, q⟩ | ⟨hq, q⟩
  · obtain ⟨its, r', pl, hz⟩ := I.list hq
    have hlen := r'.length
    refine call_tuple_list pl.isList (fun h' kp => ?_) (by simp only [List.size_toArray] <;> omega)
    have I1 : Inv X pins σ H { s with heap := h' } := I.kept (t' := s.toks) kp
    have I2 : Inv X pins σ (upd H h'.objs.size (.tup ys)) { s with heap := h'.push { cls := .type "tuple", data := .seq its.toArray } } :=
      I1.laid (t' := s.toks) (fun b o e => Heap.get?_push_of_some _ e) (Nat.le_refl _) (show ObjOk X.prog X.w _ _ _ (.tup ys) from ⟨hz, its, r', IsTup.new _ _⟩)
    exact ⟨.ref h'.objs.size, _, I2, rfl, q _ (I1.hok.fresh (Nat.le_refl _))⟩
  · obtain ⟨its, r', pl, hz⟩ := I.tuple hq
    exact call_tuple_same pl ⟨.ref p, H, I, rfl, q⟩

/-! ### the call of a builtin's method: o.m(..) -/
/-- the value is of that builtin type -/
def tyV (K : PySem.W.Frag) (T : String) (x : V) (H : Hp) : Prop := match x with
  | .str _ => T = "str"
  | .int _ => T = "int"
  | .ref p => (T = "list" ∧ ∃ xs, SqL K H p xs) ∨ (T = "tuple" ∧ ∃ o, K.lookup p = some o ∧ o.cls = .type "tuple" ∧ o.dict = none) ∨
      (T = "dict" ∧ ((∃ kvs, H p = some (.dK kvs)) ∨ ∃ kvs, H p = some (.dT kvs))) ∨ (T = "set" ∧ ∃ S n, H p = some (.set S n))
  | _ => False
theorem tyV_is {pins : List (Addr × Obj)} {σ : St} {H : Hp} {s : Shared} {T : String} {x : V} {v : Value} (I : Inv X pins σ H s) (r : RelV x v) (ty : tyV X.K T x H) :
    s.TypeIs v T ∧ ∀ a, v = .ref a → ∃ ob, s.heap.get? a = some ob ∧ ob.dict = none := by
  cases x with
  | str z =>
    obtain ⟨t, rfl⟩ := r
    cases (show T = "str" from ty)
    exact ⟨typeIs_str s z t, fun _ e => nomatch e⟩
  | int i =>
    obtain ⟨t, rfl⟩ := r
    cases (show T = "int" from ty)
    exact ⟨typeIs_int s i t, fun _ e => nomatch e⟩
  | ref p =>
    cases r
    rcases ty with ⟨rfl, xs, hq⟩ | ⟨rfl, o, hk, hc, hd⟩ | ⟨rfl, hk⟩ | ⟨rfl, S, n, hk⟩
    · obtain ⟨its, _, pl, _⟩ := I.list hq
      refine ⟨pl.isList.typeIs, fun a e => ?_⟩
      cases e
      obtain ⟨o, n, e, c, hd, _⟩ := pl
      exact ⟨o, e, hd⟩
    · refine ⟨⟨o, I.kIn p o hk, hc⟩, fun a e => ?_⟩
      cases e
      exact ⟨o, I.kIn _ o hk, hd⟩
    · have z : ∃ o, s.heap.get? p = some o ∧ o.ExactDict := by
        rcases hk with ⟨kvs, hk⟩ | ⟨kvs, hk⟩
        · obtain ⟨_, _, _, _, o, _, _, e, ex, _⟩ := I.hok p _ hk
          exact ⟨o, e, ex⟩
        · obtain ⟨_, _, _, _, o, _, _, e, ex, _⟩ := I.hok p _ hk
          exact ⟨o, e, ex⟩
      obtain ⟨o, e, ex⟩ := z
      refine ⟨⟨o, e, ex.1⟩, fun a e2 => ?_⟩
      cases e2
      exact ⟨o, e, ex.2.1⟩
    · obtain ⟨o, _, _, _, e, ex, _⟩ := I.hok p _ hk
      refine ⟨⟨o, e, ex.1⟩, fun a e2 => ?_⟩
      cases e2
      exact ⟨o, e, ex.2.1⟩
  | _ => exact False.elim ty
def tBM0 (K : PySem.W.Frag) (T : String) (r : V → List V → Hp → VK → Prop) (to : TE) : TE := fun σ H Q => to σ H fun x H1 => tyV K T x H1 ∧ r x [] H1 Q
def tBM (K : PySem.W.Frag) (T : String) (r : V → List V → Hp → VK → Prop) (to : TE) (t : TA) : TE := fun σ H Q => to σ H fun x H1 => tyV K T x H1 ∧ t σ H1 fun xs H2 => r x xs H2 Q
variable {o e : Expr} {es : List Expr} {to : TE} {t : TA} {name : Str} {apos cpos : Pos} {T id : String} {r : V → List V → Hp → VK → Prop}
theorem pe_bm0 (pa : PlainAttrs T) (slot : Slot T name id) (hty : typeOf (.builtin id) = pure (.type "method_descriptor")) (hm : MtR X id r) (ho : PE X o to)
    (hbase : attributeBase o name X.env (eval o X.env) = eval o X.env := by rfl) (hline : (apos.endLine == cpos.line) = true := by rfl) : PE X (.Call (.Attribute o name apos) [] [] cpos) (tBM0 X.K T r to) := by
  intro pins s σ H Q I h
  refine wpAny_Call_method0_late hbase hline (thn (ho pins s σ H _ I h) fun v s1 ⟨x, H1, I1, r1, ty, q1⟩ => ?_)
  obtain ⟨h1, h2⟩ := tyV_is I1 r1 ty
  exact ⟨T, id, pa, slot, hty, h1, h2, Calls.callWith_builtin rfl (PySem.evalArgs_none (hm pins s1 σ H1 x [] v [] Q I1 r1 .nil q1))⟩
theorem pe_bm (pa : PlainAttrs T) (slot : Slot T name id) (hty : typeOf (.builtin id) = pure (.type "method_descriptor")) (hm : MtR X id r) (ho : PE X o to) (ha : PA X (e :: es) t)
    (hbase : attributeBase o name X.env (eval o X.env) = eval o X.env := by rfl)
    (hfew : ((backTo cpos (starEach (e :: es) X.env)).all (fun x => !x.1) && (backToKw cpos (keywordEach [] X.env)).all (fun x => x.1.isSome)
      && decide ((e :: es).length + ([] : List Keyword).length + (if ([] : List Keyword).isEmpty then 0 else 1) < 30)) = true := by rfl)
    (hline : (apos.endLine == cpos.line) = true := by rfl) (hs : starEach (e :: es) X.env = (false, eval e X.env) :: starEach es X.env := by rfl) (hplain : (backTo cpos (starEach es X.env)).any (·.1) = false := by rfl) :
    PE X (.Call (.Attribute o name apos) (e :: es) [] cpos) (tBM X.K T r to t) := by
  intro pins s σ H Q I h
  refine wpAny_Call_method_late hbase hfew hline rfl (thn (ho pins s σ H _ I h) fun v s1 ⟨x, H1, I1, r1, ty, q1⟩ => ?_)
  obtain ⟨h1, h2⟩ := tyV_is I1 r1 ty
  refine ⟨T, id, pa, slot, hty, h1, h2, ?_⟩
  have hA := ha cpos pins s1 σ H1 _ I1 q1
  rw [hs] at hA ⊢
  refine Calls.callWith_builtin (by show (false || (backTo cpos (starEach es X.env)).any (·.1)) = false; rw [hplain] <;> rfl) (Calls.evalArgs_plain ?_)
  exact thn hA fun us s2 ⟨vs, H2, I2, r2, q2⟩ => hm pins s2 σ H2 x vs v us Q I2 r1 r2 q2
/- xs.append(e), list.index on a module's tuple .. are MtR facts of 06m -/
end
end L2

namespace L2
open PySem PySem.Spec PyProof.Rows

def MtM (X : Cx) (id : String) (r : V → List V → Hp → VK → Prop) : Prop :=
  ∀ (pins : List (Addr × Obj)) (s : Shared) (σ : St) (H : Hp) (x : V) (xs : List V) (v : Value) (us : List Value) (Q : VK), Inv X pins σ H s → RelV x v → Vals xs us → r x xs H Q →
    wpAny (model X.prog X.w) X.A (call (.builtin id) (v :: us)) (EP X pins σ Q) X.xe s

/-! ### lists of values -/
theorem Vals.one : ∀ {x : V} {us : List Value}, Vals [x] us → ∃ u, us = [u] ∧ RelV x u
  | _, _, .cons r .nil => ⟨_, rfl, r⟩
theorem Vals.two : ∀ {x y : V} {us : List Value}, Vals [x, y] us → ∃ u v, us = [u, v] ∧ RelV x u ∧ RelV y v
  | _, _, _, .cons r (.cons q .nil) => ⟨_, _, rfl, r, q⟩
theorem Vals.zero : ∀ {us : List Value}, Vals [] us → us = []
  | _, .nil => rfl
theorem Vals.dropLast {xs : List V} {us : List Value} (h : Vals xs us) : Vals xs.dropLast us.dropLast := by
  induction h with
  | nil => exact .nil
  | cons r t ih =>
    cases t with
    | nil => exact .nil
    | cons q t' => exact .cons r ih
theorem Vals.eraseIdx : ∀ {xs : List V} {us : List Value} (i : Nat), Vals xs us → Vals (xs.eraseIdx i) (us.eraseIdx i)
  | _, _, _, .nil => .nil
  | _, _, 0, .cons _ t => t
  | _, _, i + 1, .cons r t => .cons r (Vals.eraseIdx i t)
theorem Vals.reverse {xs : List V} {us : List Value} (h : Vals xs us) : Vals xs.reverse us.reverse := by
  induction h with
  | nil => exact .nil
  | cons r t ih => rw [List.reverse_cons, List.reverse_cons]; exact Vals.append ih (.cons r .nil)
theorem Vals.rep {xs : List V} {us : List Value} (h : Vals xs us) : ∀ k : Nat, Vals (List.replicate k xs).flatten (List.replicate k us).flatten
  | 0 => .nil
  | k + 1 => by
    rw [List.replicate_succ, List.replicate_succ, List.flatten_cons, List.flatten_cons]
    exact Vals.append h (Vals.rep h k)
theorem erase_last {α : Type} (l : List α) : l.eraseIdx (l.length - 1) = l.dropLast := by
  induction l with
  | nil => rfl
  | cons a r ih =>
    cases r with
    | nil => rfl
    | cons b r =>
      have e : (a :: b :: r).length - 1 = ((b :: r).length - 1) + 1 := by
        have h1 : (a :: b :: r).length = r.length + 2 := rfl
        have h2 : (b :: r).length = r.length + 1 := rfl
        omega
      rw [e, List.eraseIdx_cons_succ, ih]
      all_goals rfl
theorem len_erase {α : Type} : ∀ (l : List α) (i : Nat), (l.eraseIdx i).length ≤ l.length
  | [], _ => Nat.le_refl _
  | _ :: _, 0 => Nat.le_succ _
  | _ :: r, i + 1 => Nat.succ_le_succ (len_erase r i)
theorem foldl_rep (its : List Value) : ∀ (k : Nat) (acc : List Value),
    List.foldl (fun x1 x2 => x1 ++ x2) acc.toArray (List.replicate k its.toArray) = (acc ++ (List.replicate k its).flatten).toArray
  | 0, acc => by simp
  | k + 1, acc => by
    have e : acc.toArray ++ its.toArray = (acc ++ its).toArray := by simp
    have e2 : (acc ++ its) ++ (List.replicate k its).flatten = acc ++ (List.replicate (k + 1) its).flatten := by
      rw [List.replicate_succ, List.flatten_cons, List.append_assoc]
    rw [← e2, ← foldl_rep its k (acc ++ its), ← e, List.replicate_succ, List.foldl_cons]

section
variable {X : Cx} {pins : List (Addr × Obj)} {σ : St} {H : Hp} {s : Shared} {l b : Addr} {xs ys zs : List V}

/-! ### the two steps: a tracked list is rewritten, a new list is laid -/
theorem Inv.lset {its its' : List Value} {n : Nat} {f : Array Value → Array Value} {t' : Nat} (I : Inv X pins σ H s) (hH : H l = some (.lst xs))
    (e : s.heap.get? l = some { cls := .type "list", data := .seq its.toArray n }) (hf : f its.toArray = its'.toArray) (hv : Vals ys its') (hz : ys.length ≤ sizeLine) :
    Inv X pins σ (upd H l (.lst ys)) { s with heap := s.heap.update l (Obj.mapSeq f), toks := t' } := by
  have q := PySem.IsL.update e f
  rw [hf] at q
  refine I.write (x := l) (e := l) (by rw [hH]; exact trivial) (.inl rfl) (fun b' u hb hu => (Heap.get?_update_other s.heap (Obj.mapSeq f) (Ne.symm hb)).trans hu) ⟨_, q⟩ ?_
  exact ⟨hz, its', _, hv, q⟩
theorem Inv.lnew {its : List Value} {t' : Nat} (I : Inv X pins σ H s) (hv : Vals ys its) (hz : ys.length ≤ sizeLine) :
    Inv X pins σ (upd H s.heap.objs.size (.lst ys)) { s with heap := s.heap.push { cls := .type "list", data := .seq its.toArray }, toks := t' } :=
  I.laid (fun _ _ q => Heap.get?_push_of_some _ q) (Nat.le_refl _) ⟨hz, its, 0, hv, Heap.get?_push_size _ rfl⟩
theorem Inv.fresh (I : Inv X pins σ H s) : H s.heap.objs.size = none := I.hok.fresh (Nat.le_refl _)
theorem Inv.lstM (I : Inv X pins σ H s) (hH : H l = some (.lst xs)) : xs.length ≤ sizeLine ∧ ∃ (its : List Value) (n : Nat), Vals xs its ∧ xs.length = its.length ∧ s.heap.get? l = some { cls := .type "list", data := .seq its.toArray n } := by
  obtain ⟨z, its, n, r, e⟩ := I.hok l _ hH
  exact ⟨z, its, n, r, r.length, e⟩

theorem notLongL {n : Nat} (h : n ≤ sizeLine) : Builtin.List.listTooLong n = false := by
  unfold Builtin.List.listTooLong
  exact decide_eq_false (by omega)
end

section
variable {X : Cx}

/-! ### methods -/
def rAppend : V → List V → Hp → VK → Prop := fun x vs H Q => ∃ l xs y, x = .ref l ∧ vs = [y] ∧ H l = some (.lst xs) ∧ xs.length < sizeLine ∧ Q .non (upd H l (.lst (xs ++ [y])))
theorem mt_append : MtM X "list.append" rAppend := by
  intro pins s σ H x vs v us Q I rx rv h
  obtain ⟨l, xs, y, rfl, rfl, hH, hz, q⟩ := h
  cases rx
  obtain ⟨u, rfl, ru⟩ := rv.one
  obtain ⟨z, its, n, r, hl, e⟩ := I.lstM hH
  refine call_meets F.slot_list_append ⟨_, e, rfl⟩ F.entry_list_append (F.args_list_append_2 _ _) (PySem.list_append l its.toArray n u (by rw [List.size_toArray]; omega)) ⟨e, ?_⟩
  refine ⟨.non, _, I.lset (its' := its ++ [u]) hH e (by simp) (r.append (.cons ru .nil)) ?_, rfl, q⟩
  rw [List.length_append, List.length_singleton]
  omega

def rExtend : V → List V → Hp → VK → Prop := fun x vs H Q => ∃ l b xs zs, x = .ref l ∧ vs = [.ref b] ∧ H l = some (.lst xs) ∧ H b = some (.lst zs) ∧ xs.length + zs.length ≤ sizeLine ∧ Q .non (upd H l (.lst (xs ++ zs)))
theorem mt_extend : MtM X "list.extend" rExtend := by
  intro pins s σ H x vs v us Q I rx rv h
  obtain ⟨l, b, xs, zs, rfl, rfl, hH, hB, hz, q⟩ := h
  cases rx
  obtain ⟨u, rfl, ru⟩ := rv.one
  cases ru
  obtain ⟨z, its, n, r, hl, e⟩ := I.lstM hH
  obtain ⟨z2, its2, n2, r2, hl2, e2⟩ := I.lstM hB
  have hsz : its.toArray.size + its2.toArray.size ≤ sizeLine := by rw [List.size_toArray, List.size_toArray]; omega
  have hlong : ¬ (!its.toArray.isEmpty && Builtin.List.listTooLong (its.toArray.size + its2.toArray.size)) = true := by
    rw [notLongL hsz, Bool.and_false]
    exact Bool.false_ne_true
  refine call_meets F.slot_list_extend ⟨_, e, rfl⟩ F.entry_list_extend (F.args_list_extend_2 _ _)
    (AutoSeq1.list_extend_list_list_0 l its.toArray n b its2.toArray n2 hlong (by rw [List.size_toArray]; omega) (by omega)) ⟨e, e2, ?_⟩
  refine ⟨.non, _, I.lset (its' := its ++ its2) hH e (by simp) (r.append r2) ?_, rfl, q⟩
  rw [List.length_append]
  omega

def rPop : V → List V → Hp → VK → Prop := fun x vs H Q => ∃ l xs y, x = .ref l ∧ vs = [] ∧ H l = some (.lst xs) ∧ xs[xs.length - 1]? = some y ∧ Q y (upd H l (.lst xs.dropLast))
theorem mt_pop : MtM X "list.pop" rPop := by
  intro pins s σ H x vs v us Q I rx rv h
  obtain ⟨l, xs, y, rfl, rfl, hH, hy, q⟩ := h
  cases rx
  have hus := rv.zero
  subst hus
  obtain ⟨z, its, n, r, hl, e⟩ := I.lstM hH
  obtain ⟨u, hu, ru⟩ := r.get hy
  have hy' : its.toArray[its.toArray.size - 1]? = some u := by
    show its.toArray[its.length - 1]? = some u
    rw [← Array.getElem?_toList, ← hl]
    exact hu
  refine call_meets F.slot_list_pop ⟨_, e, rfl⟩ F.entry_list_pop (F.args_list_pop_1 _) (MeetsSeq.list_pop_last l its.toArray n u hy' (by rw [List.size_toArray]; omega)) ⟨e, ?_⟩
  refine ⟨y, _, I.lset (its' := its.dropLast) hH e ?_ r.dropLast ?_, ru, q⟩
  · show its.toArray.eraseIdxIfInBounds (its.toArray.size - 1) = its.dropLast.toArray
    rw [List.size_toArray, List.eraseIdxIfInBounds_toArray, erase_last]
  · rw [List.length_dropLast]
    omega

def rPopAt : V → List V → Hp → VK → Prop := fun x vs H Q => ∃ l xs i k y, x = .ref l ∧ vs = [.int i] ∧ H l = some (.lst xs) ∧ -(2 ^ 63) ≤ i ∧ i < 2 ^ 63 ∧ seqIndex? i xs.length = some k ∧ xs[k]? = some y ∧ Q y (upd H l (.lst (xs.eraseIdx k)))
theorem mt_popAt : MtM X "list.pop" rPopAt := by
  intro pins s σ H x vs v us Q I rx rv h
  obtain ⟨l, xs, i, k, y, rfl, rfl, hH, h1, h2, hk, hy, q⟩ := h
  cases rx
  obtain ⟨u, rfl, ru⟩ := rv.one
  obtain ⟨t, rfl⟩ := ru
  obtain ⟨z, its, n, r, hl, e⟩ := I.lstM hH
  obtain ⟨w, hw, rw'⟩ := r.get hy
  refine call_meets F.slot_list_pop ⟨_, e, rfl⟩ F.entry_list_pop (F.args_list_pop_2 _ _)
    (MeetsSeq.list_pop_at l its.toArray n i t k w (fitsIndex_both h1 h2) (by rw [List.size_toArray, ← hl]; exact hk) (by rw [← Array.getElem?_toList]; exact hw) (by rw [List.size_toArray]; omega)) ⟨e, ?_⟩
  refine ⟨y, _, I.lset (its' := its.eraseIdx k) hH e ?_ (r.eraseIdx k) ?_, rw', q⟩
  · show its.toArray.eraseIdxIfInBounds k = (its.eraseIdx k).toArray
    rw [List.eraseIdxIfInBounds_toArray]
  · have := len_erase xs k
    omega

def rReverse : V → List V → Hp → VK → Prop := fun x vs H Q => ∃ l xs, x = .ref l ∧ vs = [] ∧ H l = some (.lst xs) ∧ Q .non (upd H l (.lst xs.reverse))
theorem mt_reverse : MtM X "list.reverse" rReverse := by
  intro pins s σ H x vs v us Q I rx rv h
  obtain ⟨l, xs, rfl, rfl, hH, q⟩ := h
  cases rx
  have hus := rv.zero
  subst hus
  obtain ⟨z, its, n, r, hl, e⟩ := I.lstM hH
  refine call_meets F.slot_list_reverse ⟨_, e, rfl⟩ F.entry_list_reverse (F.args_list_reverse_1 _) (AutoSeq1.list_reverse_list_0 l its.toArray n (by rw [List.size_toArray]; omega)) ⟨e, ?_⟩
  refine ⟨.non, _, I.lset (its' := its.reverse) hH e (by simp) r.reverse ?_, rfl, q⟩
  rw [List.length_reverse]
  omega

def rClear : V → List V → Hp → VK → Prop := fun x vs H Q => ∃ l xs, x = .ref l ∧ vs = [] ∧ H l = some (.lst xs) ∧ Q .non (upd H l (.lst []))
theorem mt_clear : MtM X "list.clear" rClear := by
  intro pins s σ H x vs v us Q I rx rv h
  obtain ⟨l, xs, rfl, rfl, hH, q⟩ := h
  cases rx
  have hus := rv.zero
  subst hus
  obtain ⟨z, its, n, r, hl, e⟩ := I.lstM hH
  refine call_meets F.slot_list_clear ⟨_, e, rfl⟩ F.entry_list_clear (F.args_list_clear_1 _) (AutoSeq1.list_clear_list_0 l its.toArray n (by rw [List.size_toArray]; omega)) ⟨e, ?_⟩
  exact ⟨.non, _, I.lset (its' := []) (ys := []) hH e rfl .nil (Nat.zero_le _), rfl, q⟩

/-! ### list + list, list += list, list * int -/
def rCat : R2 := fun x y H Q => ∃ l b xs zs, x = .ref l ∧ y = .ref b ∧ H l = some (.lst xs) ∧ H b = some (.lst zs) ∧ xs.length + zs.length ≤ sizeLine ∧ ∀ p, H p = none → Q (.ref p) (upd H p (.lst (xs ++ zs)))
theorem op_cat : OpR X (binaryOp .Add) rCat := by
  intro pins s σ H x y v u Q I rx ry h
  obtain ⟨l, b, xs, zs, rfl, rfl, hH, hB, hz, q⟩ := h
  cases rx
  cases ry
  obtain ⟨z, its, n, r, hl, e⟩ := I.lstM hH
  obtain ⟨z2, its2, n2, r2, hl2, e2⟩ := I.lstM hB
  refine PySem.P.add_list e e2 ?_ (by rw [List.size_toArray, List.size_toArray]; omega)
  have ea : its.toArray ++ its2.toArray = (its ++ its2).toArray := by simp
  rw [ea]
  exact ⟨.ref _, _, I.lnew (t' := s.toks) (r.append r2) (by rw [List.length_append]; omega), rfl, q _ I.fresh⟩
/-- a list times an int (a negative one is nothing) -/
def rRep : R2 := fun x y H Q => ∃ l k xs, x = .ref l ∧ y = .int k ∧ H l = some (.lst xs) ∧ -(2 ^ 63) ≤ k ∧ k < 2 ^ 63 ∧ xs.length * k.toNat ≤ sizeLine ∧
  ∀ p, H p = none → Q (.ref p) (upd H p (.lst (List.replicate k.toNat xs).flatten))
theorem len_rep {α : Type} (xs : List α) (k : Nat) : (List.replicate k xs).flatten.length = k * xs.length := by
  induction k with
  | zero => simp
  | succ k ih => rw [List.replicate_succ, List.flatten_cons, List.length_append, ih, Nat.succ_mul, Nat.add_comm]
theorem op_rep : OpR X (binaryOp .Mult) rRep := by
  intro pins s σ H x y v u Q I rx ry h
  obtain ⟨l, k, xs, rfl, rfl, hH, h1, h2, hz, q⟩ := h
  cases rx
  obtain ⟨t, rfl⟩ := ry
  obtain ⟨z, its, n, r, hl, e⟩ := I.lstM hH
  have hlen : its.toArray.size * k.toNat ≤ sizeLine := by rw [List.size_toArray, ← hl]; exact hz
  have hcap : ¬ its.toArray.size * k.toNat > (2 ^ 63 - 1) / 8 := by
    have : (sizeLine : Nat) ≤ (2 ^ 63 - 1) / 8 := by decide
    omega
  have hfit : ¬ (!Builtin.List.listFitsIndex k) = true := by
    rw [fitsIndex_both h1 h2]
    exact Bool.false_ne_true
  have hlong : ¬ Builtin.List.listTooLong (its.toArray.size * k.toNat) = true := by
    rw [notLongL hlen]
    exact Bool.false_ne_true
  have hnew : List.foldl (fun x1 x2 => x1 ++ x2) #[] (List.replicate (if its.toArray.isEmpty = true then 0 else k.toNat) its.toArray) = (List.replicate k.toNat its).flatten.toArray := by
    have f0 : ∀ m : Nat, List.foldl (fun x1 x2 => x1 ++ x2) #[] (List.replicate m its.toArray) = (List.replicate m its).flatten.toArray := fun m => by
      have := foldl_rep its m []
      rw [List.nil_append] at this
      exact this
    rw [f0]
    cases its with
    | nil => simp
    | cons a r' => rw [if_neg (by simp)]
  refine wpAny_binaryOp_repeat_ref (T := "list") (U := "int") (by decide) ⟨_, e, rfl⟩ (fun s' => typeIs_int s' k t) noFill_list_mul F.fills_int_mul F.slot_int_rmul repeat_list F.slot_int_index.lookup
    (call_meets F.slot_int_rmul (typeIs_int s k t) F.entry_int_rmul (F.args_int_rmul_2 _ _) (int___rmul___int_list k t l its.toArray n)
      ⟨e, rfl, ⟨_, e, rfl⟩, call_meets F.slot_list_mul ⟨_, e, rfl⟩ F.entry_list_mul (F.args_list_mul_2 _ _) (AutoListH.list___mul___list_int_3 l its.toArray n k t hfit hcap hlong) ⟨e, ?_⟩⟩)
  rw [hnew]
  exact ⟨.ref _, _, I.lnew (t' := s.toks) (r.rep k.toNat) (by rw [len_rep, Nat.mul_comm]; exact hz), rfl, q _ I.fresh⟩

/-! ### del xs[i] -/
theorem del_list {pins : List (Addr × Obj)} {s : Shared} {σ : St} {H : Hp} {l : Addr} {xs : List V} {i : Int} {t : Tok} {k : Nat} {Q : Unit → Shared → Prop} (I : Inv X pins σ H s) (hH : H l = some (.lst xs))
    (h1 : -(2 ^ 63) ≤ i) (h2 : i < 2 ^ 63) (hk : seqIndex? i xs.length = some k) (h : ∀ s', Inv X pins σ (upd H l (.lst (xs.eraseIdx k))) s' → Q () s') :
    wpAny (model X.prog X.w) X.A (delItem (.ref l) (.int i t)) Q X.xe s := by
  obtain ⟨z, its, n, r, hl, e⟩ := I.lstM hH
  refine PySem.P.delItem_list (k := k) e (fitsIndex_both h1 h2) (by rw [List.size_toArray, ← hl]; exact hk) (h _ ?_) (by rw [List.size_toArray]; omega)
  refine I.lset (its' := its.eraseIdx k) (t' := s.toks) hH e ?_ (r.eraseIdx k) ?_
  · show its.toArray.eraseIdxIfInBounds k = (its.eraseIdx k).toArray
    rw [List.eraseIdxIfInBounds_toArray]
  · have := len_erase xs k
    omega
end

/-! ### xs[a:b] = ys -/
section
variable {prog : Program} {w : World} {A : Around} {E : Value → Shared → Prop} {s : Shared}
theorem splice_eq (its its2 : List Value) (a c : Nat) : its.toArray.extract 0 a ++ its2.toArray ++ its.toArray.extract c its.toArray.size = (its.take a ++ its2 ++ its.drop c).toArray := by
  apply Array.toList_inj.mp
  first
    | (simp
       exact List.take_of_length_le (by simp))
    | simp [List.take_of_length_le]
    | simp
theorem bounds_run {a c n : Nat} (hac : a ≤ c) (hc : c ≤ n) : sliceBounds (some (a : Int)) (some (c : Int)) none n = ((a : Int), (c : Int), 1) := by
  simp only [sliceBounds, Option.getD_none]
  have h1 : ¬ ((a : Int) < 0) := by omega
  have h2 : ¬ ((c : Int) < 0) := by omega
  simp only [h1, h2, if_false, show (1 : Int) > 0 by decide, if_true]
  congr 1
  · omega
  · congr 1; omega
set_option maxRecDepth 100000 in
/-- list.__setitem__ with a slice of step one and another list -/
theorem setItem_slice {l b sl : Addr} {items new : Array Value} {n n2 : Nat} {vl vu : Value} {a c : Nat} {Q : Unit → Shared → Prop}
    (e : s.heap.get? l = some { cls := .type "list", data := .seq items n }) (e2 : s.heap.get? b = some { cls := .type "list", data := .seq new n2 }) (hne : l ≠ b)
    (hs : s.heap.IsSliceOf sl vl vu .none) (pl : IsPart vl (some (a : Int))) (pu : IsPart vu (some (c : Int))) (hac : a ≤ c) (hc : c ≤ items.size)
    (hsz : items.size + new.size ≤ sizeLine) (h : Q () { s with heap := s.heap.update l (Obj.mapSeq fun xs => xs.extract 0 a ++ new ++ xs.extract c xs.size) }) :
    wpAny (model prog w) A (setItem (.ref l) (.ref sl) (.ref b)) Q E s := by
  have hl : s.heap.IsList l items := PySem.IsL.isList e
  have hb : s.heap.IsList b new := PySem.IsL.isList e2
  obtain ⟨os, hos, hcs, hds⟩ := id hs
  have hTs : s.TypeIs (.ref sl) "slice" := ⟨os, hos, hcs⟩
  have hstep : ¬ ((rawPart none == rawInt 0) = true) := Bool.false_ne_true
  have hsame : Builtin.List.listSameRef (.ref l) (.ref b) = false := by
    unfold Builtin.List.listSameRef
    exact beq_eq_false_iff_ne.mpr hne
  have hmax : (max (a : Int) (c : Int)).toNat = c := by omega
  have hz' : ((fun xs : Array Value => xs.extract 0 a ++ new ++ xs.extract c xs.size) items).size ≤ sizeLine + 1 := by
    simp only [Array.size_append, Array.size_extract]
    omega
  unfold setItem
  try with_reducible refine wpAny_holding ?_
  first | refine wpAny_bind (wpAny_pure ?_) | skip
  refine wpAny_bind (wpAny_sequenceKey hl.typeIs (by decide) ?_)
  refine wpAny_bind (wpAny_callSpecial?_slot (name := Str.ofString "__setitem__") hl.typeIs slot_list_setitem
    (wpAny_call_entry slot_list_setitem hl.typeIs entry_list_setitem ?_ (args_list_setitem _ _ _)))
  show wpAny _ _ (Builtin.List.listSubscript? (.ref sl) >>= _) _ _ s
  refine wpAny_bind ?_
  unfold Builtin.List.listSubscript?
  refine wpAny_bind (wpAny_specialOf hTs slice_no_index ?_)
  simp only [Option.isNone_none, if_true]
  refine wpAny_pure ?_
  show wpAny _ _ (typeOf (.ref sl) >>= _) _ _ s
  refine wpAny_bind (wpAny_typeOf hTs ?_)
  first
    | rw [if_neg (by decide)]
    | refine PySem.W.KFB.if_not (by decide) ?_
  rw [listSliceParts_eq]
  refine wpAny_bind (wpAny_bind (wpAny_field hos hds (x := .none) rfl (wpAny_bind (wpAny_listPart .none ?_))))
  rw [if_neg hstep]
  refine wpAny_bind (wpAny_field hos hds (x := vl) rfl (wpAny_bind (wpAny_listPart pl ?_)))
  refine wpAny_bind (wpAny_field hos hds (x := vu) rfl (wpAny_bind (wpAny_listPart pu (wpAny_pure ?_))))
  first
    | simp only [hsame, Bool.false_eq_true, if_false]
    | refine PySem.W.KFB.if_not hsame ?_
    | (dsimp only
       rw [if_neg (by rw [hsame]; exact Bool.false_ne_true)])
  refine wpAny_bind (m := Builtin.List.listAllItems (.ref b) "must assign iterable to extended slice") ?_
  unfold Builtin.List.listAllItems
  refine wpAny_bind (wpAny_typeOf hb.typeIs ?_)
  first
    | refine PySem.W.KFB.if_so (by decide) ?_
    | rw [if_pos (by decide)]
    | simp only [beq_self_eq_true, Bool.true_or, if_true]
  unfold Builtin.List.listItems
  refine wpAny_bind (wpAny_seqItems e2 rfl (wpAny_pure ?_))
  refine wpAny_bind (wpAny_bind (wpAny_seqItems e rfl (wpAny_pure ?_)))
  refine wpAny_bind (wpAny_of_eq ((sliceIndices_raw (some (a : Int)) (some (c : Int)) none items.size (by simp)).trans (congrArg (pure : Int × Int × Int → Sem (Int × Int × Int)) (bounds_run hac hc))) ?_)
  show wpAny _ _ (if ((1 : Int) == 1) = true then _ else _) _ _ s
  rw [if_pos (by decide)]
  refine wpAny_bind (wpAny_rule ?_)
  first
    | simp only [notLongL hsz, Bool.false_eq_true, if_false]
    | refine PySem.W.KFB.if_not (notLongL hsz) ?_
  first | refine wpAny_bind (wpAny_pure ?_) | skip
  show wpAny _ _ (updateSeq l (fun xs => xs.extract 0 ((a : Int)).toNat ++ new ++ xs.extract (max (a : Int) (c : Int)).toNat xs.size) >>= _) _ _ s
  rw [hmax, Int.toNat_natCast]
  refine wpAny_bind (wpAny_updateSeq (hz := Nat.le_trans (Nat.le_add_right _ _) hsz) (_hz' := hz') e rfl ?_)
  refine wpAny_bind (wpAny_letGo ?_)
  first
    | exact wpAny_bind (wpAny_pure (wpAny_pure ⟨.none, rfl, wpAny_pure h⟩))
    | exact wpAny_pure ⟨.none, rfl, wpAny_pure h⟩
end

section
variable {X : Cx}
/-- xs[a:c] = ys of another list, at the value level: sl is the slice object that was just made -/
theorem set_slice {pins : List (Addr × Obj)} {s : Shared} {σ : St} {H : Hp} {l b sl : Addr} {xs ys : List V} {a c : Int} {vl vu : Value} {Q : Unit → Shared → Prop} (I : Inv X pins σ H s)
    (hH : H l = some (.lst xs)) (hB : H b = some (.lst ys)) (hne : l ≠ b) (hs : s.heap.IsSliceOf sl vl vu .none) (ra : RelV (.int a) vl) (rc : RelV (.int c) vu) (h0 : 0 ≤ a) (hac : a ≤ c) (hc : c ≤ xs.length)
    (hz : xs.length + ys.length ≤ sizeLine) (h : ∀ s', Inv X pins σ (upd H l (.lst (xs.take a.toNat ++ ys ++ xs.drop c.toNat))) s' → Q () s') :
    wpAny (model X.prog X.w) X.A (setItem (.ref l) (.ref sl) (.ref b)) Q X.xe s := by
  obtain ⟨ta, rfl⟩ := ra
  obtain ⟨tc, rfl⟩ := rc
  obtain ⟨z, its, n, r, hl, e⟩ := I.lstM hH
  obtain ⟨z2, its2, n2, r2, hl2, e2⟩ := I.lstM hB
  obtain ⟨a', rfl⟩ := Int.eq_ofNat_of_zero_le h0
  obtain ⟨c', rfl⟩ := Int.eq_ofNat_of_zero_le (Int.le_trans h0 hac)
  simp only [Int.toNat_natCast] at h
  refine setItem_slice (a := a') (c := c') e e2 hne hs (.int _ _) (.int _ _) (by omega) (by rw [List.size_toArray]; omega) (by rw [List.size_toArray, List.size_toArray]; omega) (h _ ?_)
  refine I.lset (its' := its.take a' ++ its2 ++ its.drop c') (t' := s.toks) hH e ?_ (Vals.append (Vals.append (r.take _) r2) (r.drop _)) ?_
  · exact splice_eq its its2 a' c'
  · rw [List.length_append, List.length_append, List.length_take, List.length_drop]
    omega
end
end L2

namespace L2
open PySem PySem.Spec PyProof.Rows

/-! ### lists of pairs as tables -/
section
variable {κ : Type} [DecidableEq κ]
def valV (kvs : List (κ × V)) (k : κ) : Option V := (kvs.find? fun kv => decide (kv.1 = k)).map (·.2)
/-- in its place, or at the end -/
def putK (kvs : List (κ × V)) (k : κ) (v : V) : List (κ × V) :=
  if (kvs.any fun kv => decide (kv.1 = k)) = true then kvs.map (fun kv => if kv.1 = k then (kv.1, v) else kv) else kvs ++ [(k, v)]
def dropK (kvs : List (κ × V)) (k : κ) : List (κ × V) := kvs.filter fun kv => decide (kv.1 ≠ k)

theorem valV_nil {k : κ} : valV ([] : List (κ × V)) k = none := rfl
theorem valV_pos {p : κ × V} {r : List (κ × V)} {k : κ} (e : p.1 = k) : valV (p :: r) k = some p.2 := by simp [valV, List.find?_cons, e]
theorem valV_neg {p : κ × V} {r : List (κ × V)} {k : κ} (e : ¬ p.1 = k) : valV (p :: r) k = valV r k := by simp [valV, List.find?_cons, e]
theorem valV_any (k : κ) : ∀ kvs : List (κ × V), (kvs.any fun kv => decide (kv.1 = k)) = (valV kvs k).isSome
  | [] => rfl
  | p :: r => by
    rw [List.any_cons]
    by_cases e : p.1 = k
    · simp only [valV_pos e, decide_eq_true e, Bool.true_or, Option.isSome_some]
    · rw [valV_neg e, decide_eq_false e, Bool.false_or]; exact valV_any k r
theorem valV_map (k j : κ) (y : V) : ∀ kvs : List (κ × V), valV (kvs.map fun kv => if kv.1 = k then (kv.1, y) else kv) j = (valV kvs j).map fun x => if j = k then y else x
  | [] => rfl
  | p :: r => by
    have ih := valV_map k j y r
    rw [List.map_cons]
    by_cases h : p.1 = k
    · rw [if_pos h]
      by_cases e : p.1 = j
      · rw [valV_pos (p := (p.1, y)) e, valV_pos e, Option.map_some, if_pos (e.symm.trans h)]
      · rw [valV_neg (p := (p.1, y)) e, valV_neg e, ih]
    · rw [if_neg h]
      by_cases e : p.1 = j
      · rw [valV_pos (p := p) e, valV_pos e, Option.map_some, if_neg (fun z => h (e.trans z))]
      · rw [valV_neg (p := p) e, valV_neg e, ih]
theorem valV_snoc (k j : κ) (y : V) : ∀ kvs : List (κ × V), valV kvs k = none → valV (kvs ++ [(k, y)]) j = if j = k then some y else valV kvs j
  | [], _ => by
    by_cases e : k = j
    · rw [if_pos e.symm]; exact valV_pos (p := (k, y)) e
    · rw [if_neg (fun z => e z.symm)]; exact valV_neg (p := (k, y)) e
  | p :: r, hn => by
    rw [List.cons_append]
    have hk : ¬ p.1 = k := fun z => by rw [valV_pos z] at hn; cases hn
    rw [valV_neg hk] at hn
    have ih := valV_snoc k j y r hn
    by_cases e : p.1 = j
    · rw [valV_pos e, valV_pos e, if_neg (fun z => hk (e.trans z))]
    · rw [valV_neg e, valV_neg e, ih]
theorem valV_put (kvs : List (κ × V)) (k j : κ) (y : V) : valV (putK kvs k y) j = if j = k then some y else valV kvs j := by
  unfold putK
  by_cases a : (kvs.any fun kv => decide (kv.1 = k)) = true
  · rw [if_pos a, valV_map]
    rw [valV_any] at a
    by_cases e : j = k
    · obtain ⟨x, hx⟩ := Option.isSome_iff_exists.mp a
      rw [if_pos e, e, hx, Option.map_some, if_pos rfl]
    · rw [if_neg e]
      cases valV kvs j with
      | none => rfl
      | some x => rw [Option.map_some, if_neg e]
  · rw [if_neg a]
    refine valV_snoc k j y kvs ?_
    rw [valV_any] at a
    cases q : valV kvs k with
    | none => rfl
    | some x => rw [q] at a; exact (a rfl).elim
theorem length_putK (kvs : List (κ × V)) (k : κ) (v : V) : (putK kvs k v).length ≤ kvs.length + 1 := by
  unfold putK
  split
  · rw [List.length_map]; omega
  · rw [List.length_append, List.length_cons, List.length_nil]; omega
theorem putK_new {kvs : List (κ × V)} {k : κ} (v : V) (h : valV kvs k = none) : putK kvs k v = kvs ++ [(k, v)] := by
  unfold putK
  rw [valV_any, h]
  exact if_neg (by decide)

theorem RelO.isSome_eq {o : Option V} {u : Option Value} (r : RelO o u) : o.isSome = u.isSome := by
  cases o with
  | none => cases u with
    | none => rfl
    | some _ => exact (show False from r).elim
  | some _ => cases u with
    | none => exact (show False from r).elim
    | some _ => rfl
theorem RelO.getD {o : Option V} {u : Option Value} {d : V} {d' : Value} (r : RelO o u) (rd : RelV d d') : RelV (o.getD d) (u.getD d') := by
  cases o with
  | none => cases u with
    | none => exact rd
    | some _ => exact (show False from r).elim
  | some _ => cases u with
    | none => exact (show False from r).elim
    | some _ => exact r

/-- raw tables of the same keys -/
theorem KV.val {kvs : List (κ × V)} {vs : List (κ × Value)} (r : KV kvs vs) (k : κ) : RelO (valV kvs k) (valueAt vs k) := by
  unfold KV at r
  induction r with
  | nil => exact True.intro
  | @cons p q ps qs h t ih =>
    obtain ⟨h1, h2⟩ := h
    by_cases e : p.1 = k
    · have e' : q.1 = k := h1.symm.trans e
      have b : valueAt (q :: qs) k = some q.2 := by simp [valueAt, List.find?_cons, e']
      rw [valV_pos e, b]; exact h2
    · have e' : ¬ q.1 = k := fun z => e (h1.trans z)
      have b : valueAt (q :: qs) k = valueAt qs k := by simp [valueAt, List.find?_cons, e']
      rw [valV_neg e, b]; exact ih
theorem KV.any {kvs : List (κ × V)} {vs : List (κ × Value)} (r : KV kvs vs) (k : κ) : (kvs.any fun kv => decide (kv.1 = k)) = vs.any fun kv => decide (kv.1 = k) := by
  unfold KV at r
  induction r with
  | nil => rfl
  | cons h t ih => rw [List.any_cons, List.any_cons, ih, h.1]
theorem KV.repl {kvs : List (κ × V)} {vs : List (κ × Value)} (r : KV kvs vs) (k : κ) {y : V} {u : Value} (ry : RelV y u) :
    KV (kvs.map fun kv => if kv.1 = k then (kv.1, y) else kv) (vs.map fun kv => if kv.1 = k then (kv.1, u) else kv) := by
  unfold KV at r ⊢
  induction r with
  | nil => exact .nil
  | @cons p q ps qs h t ih =>
    rw [List.map_cons, List.map_cons]
    refine .cons ?_ ih
    obtain ⟨h1, h2⟩ := h
    by_cases e : p.1 = k
    · rw [if_pos e, if_pos (h1.symm.trans e)]; exact ⟨h1, ry⟩
    · rw [if_neg e, if_neg (fun z => e (h1.trans z))]; exact ⟨h1, h2⟩
theorem KV.put {kvs : List (κ × V)} {vs : List (κ × Value)} (r : KV kvs vs) (k : κ) {y : V} {u : Value} (ry : RelV y u) : KV (putK kvs k y) (stored vs k u) := by
  unfold putK stored
  rw [r.any k]
  by_cases e : (vs.any fun kv => decide (kv.1 = k)) = true
  · rw [if_pos e, if_pos e]; exact r.repl k ry
  · rw [if_neg e, if_neg e]; exact Paired.snoc r ⟨rfl, ry⟩
theorem KV.drop {kvs : List (κ × V)} {vs : List (κ × Value)} (r : KV kvs vs) (k : κ) : KV (dropK kvs k) (without vs k) := by
  unfold KV at r ⊢
  unfold dropK without
  induction r with
  | nil => exact .nil
  | @cons p q ps qs h t ih =>
    obtain ⟨h1, h2⟩ := h
    rw [List.filter_cons, List.filter_cons]
    by_cases e : p.1 = k
    · have a : ¬ decide (p.1 ≠ k) = true := by simp [e]
      have b : ¬ decide (q.1 ≠ k) = true := by simp [h1.symm.trans e]
      rw [if_neg a, if_neg b]; exact ih
    · have e' : ¬ q.1 = k := fun z => e (h1.trans z)
      have a : decide (p.1 ≠ k) = true := by simp [e]
      have b : decide (q.1 ≠ k) = true := by simp [e']
      rw [if_pos a, if_pos b]; exact .cons ⟨h1, h2⟩ ih
theorem KV.keys {kvs : List (κ × V)} {vs : List (κ × Value)} (r : KV kvs vs) : kvs.map (·.1) = vs.map (·.1) := by
  unfold KV at r
  induction r with
  | nil => rfl
  | cons h t ih => rw [List.map_cons, List.map_cons, ih, h.1]
theorem KV.length {kvs : List (κ × V)} {vs : List (κ × Value)} (r : KV kvs vs) : kvs.length = vs.length := Paired.length r
theorem dropK_le (kvs : List (κ × V)) (k : κ) : (dropK kvs k).length ≤ kvs.length := List.length_filter_le _ _
end


/-! ### a tracked dict, its keys ints and texts or tuples of these -/
theorem kV_is {P : Program} {w : World} {k : Key} {u : Value} (r : RelV (kV k) u) : (mixKind P w).is k u = true := by
  cases k with
  | inl i => obtain ⟨t, e⟩ := (show ∃ t, u = Value.int i t from r); subst e; exact mixKind_int P w i t
  | inr x => obtain ⟨t, e⟩ := (show ∃ t, u = Value.str x t from r); subst e; exact mixKind_str P w x t
theorem kV_inj {a b : Key} (e : kV a = kV b) : a = b := by
  cases a with
  | inl i => cases b with
    | inl j => have e' : V.int i = V.int j := e; injection e' with e'; rw [e']
    | inr y => exact nomatch (show V.int i = V.str y from e)
  | inr x => cases b with
    | inl j => exact nomatch (show V.str x = V.int j from e)
    | inr y => have e' : V.str x = V.str y := e; injection e' with e'; rw [e']
theorem kVs_inj : ∀ {a b : List Key}, a.map kV = b.map kV → a = b
  | [], [], _ => rfl
  | [], _ :: _, e => by simp at e
  | _ :: _, [], e => by simp at e
  | x :: xs, y :: ys, e => by
    rw [List.map_cons, List.map_cons] at e
    injection e with e1 e2
    rw [kV_inj e1, kVs_inj e2]
theorem items_are {P : Program} {w : World} : ∀ {ks : List Key} {us : List Value}, Vals (ks.map kV) us → ItemsAre (mixKind P w) ks us
  | [], _, r => by rw [List.map_nil] at r; cases r; exact .nil
  | k :: ks, _, r => by
    rw [List.map_cons] at r
    cases r with
    | cons h t => exact .cons (kV_is h) (items_are t)

/-- raw entries of a dict with tuple keys -/
abbrev KT (H : Hp) : List (List Key × V) → List (List Key × Addr × Value) → Prop := Paired fun p q => p.1 = q.1 ∧ H q.2.1 = some (.tup (p.1.map kV)) ∧ RelV p.2 q.2.2
theorem KT.val {H : Hp} {kvs : List (List Key × V)} {xs : List (List Key × Addr × Value)} (r : KT H kvs xs) (k : List Key) : RelO (valV kvs k) ((atKey xs k).map (·.2)) := by
  induction r with
  | nil => exact True.intro
  | @cons p q ps qs h t ih =>
    obtain ⟨h1, _, h2⟩ := h
    by_cases e : p.1 = k
    · have e' : q.1 = k := h1.symm.trans e
      have b : atKey (q :: qs) k = some q.2 := by simp [atKey, List.find?_cons, e']
      rw [valV_pos e, b]; exact h2
    · have e' : ¬ q.1 = k := fun z => e (h1.trans z)
      have b : atKey (q :: qs) k = atKey qs k := by simp [atKey, List.find?_cons, e']
      rw [valV_neg e, b]; exact ih
theorem KT.repl {H : Hp} {kvs : List (List Key × V)} {xs : List (List Key × Addr × Value)} (r : KT H kvs xs) (k : List Key) {y : V} {u : Value} (ry : RelV y u) :
    KT H (kvs.map fun kv => if kv.1 = k then (kv.1, y) else kv) (xs.map (putAt k u)) := by
  induction r with
  | nil => exact .nil
  | @cons p q ps qs h t ih =>
    rw [List.map_cons, List.map_cons]
    refine .cons ?_ ih
    obtain ⟨h1, h2, h3⟩ := h
    unfold putAt
    by_cases e : p.1 = k
    · rw [if_pos e, if_pos (h1.symm.trans e)]; exact ⟨h1, h2, ry⟩
    · rw [if_neg e, if_neg (fun z => e (h1.trans z))]; exact ⟨h1, h2, h3⟩
theorem KT.put {H : Hp} {kvs : List (List Key × V)} {xs : List (List Key × Addr × Value)} (r : KT H kvs xs) (k : List Key) {b : Addr} {y : V} {u : Value} (hb : H b = some (.tup (k.map kV))) (ry : RelV y u) :
    KT H (putK kvs k y) (storedH xs k b u) := by
  have e : (kvs.any fun kv => decide (kv.1 = k)) = (atKey xs k).isSome := by
    rw [valV_any, (r.val k).isSome_eq, Option.isSome_map]
  unfold putK storedH
  rw [e]
  by_cases q : (atKey xs k).isSome = true
  · rw [if_pos q, if_pos q]; exact r.repl k ry
  · rw [if_neg q, if_neg q]; exact Paired.snoc r ⟨rfl, hb, ry⟩
theorem KT.keeps {H H' : Hp} {kvs : List (List Key × V)} {xs : List (List Key × Addr × Value)} (r : KT H kvs xs) (ht : ∀ b ys, H b = some (.tup ys) → H' b = some (.tup ys)) : KT H' kvs xs :=
  Paired.mapP r fun _ _ z => ⟨z.1, ht _ _ z.2.1, z.2.2⟩

section
variable {P : Program} {w : World} {H : Hp} {h : Heap} {a : Addr}
theorem rd_of {u : HO} (ok : HOk P w H h) (e : Rd H a u) : ObjOk P w H h a u := e.ok ok
theorem dk_rd {kvs : List (Key × V)} (ok : HOk P w H h) (e : Rd H a (.dK kvs)) : kvs.length ≤ sizeLine ∧ (a == sysModules) = false ∧ ∃ vs, KV kvs vs ∧ h.DictOf (mixKind P w) a vs :=
  show ObjOk P w H h a (.dK kvs) from rd_of ok e
theorem dk_of {kvs : List (Key × V)} (ok : HOk P w H h) (e : H a = some (.dK kvs)) : kvs.length ≤ sizeLine ∧ (a == sysModules) = false ∧ ∃ vs, KV kvs vs ∧ h.DictOf (mixKind P w) a vs := dk_rd ok (.inl e)
/-- a tracked tuple of ints and texts is a key -/
theorem key_of {ks : List Key} (ok : HOk P w H h) (e : H a = some (.tup (ks.map kV))) : (tupleKind (mixKind P w)).is h ks a := by
  obtain ⟨_, its, r, o, h1, h2, n, h3⟩ := (show ObjOk P w H h a (.tup (ks.map kV)) from ok a _ e)
  exact ⟨o, its.toArray, n, h1, h2, h3, by simpa using items_are r⟩
theorem dt_rd {kvs : List (List Key × V)} (ok : HOk P w H h) (e : Rd H a (.dT kvs)) : kvs.length ≤ sizeLine ∧ (a == sysModules) = false ∧
    ∃ xs, KT H kvs xs ∧ h.DictOfH (tupleKind (mixKind P w)) a xs := by
  obtain ⟨z, y, xs, r, o, es, ep, h1, h2, h3, h4, h5⟩ := (show ObjOk P w H h a (.dT kvs) from rd_of ok e)
  refine ⟨z, y, xs, r, o, es, ep, h1, h2, h3, h4, fun x hx => ?_, h5⟩
  have all : ∀ {l : List (List Key × V)} {m : List (List Key × Addr × Value)}, KT H l m → ∀ x ∈ m, (tupleKind (mixKind P w)).is h x.1 x.2.1 := by
    intro l m q
    induction q with
    | nil => intro x hx; exact nomatch hx
    | @cons p q ps qs hq t ih =>
      intro x hx
      rcases List.mem_cons.mp hx with e | hx
      · subst e
        exact key_of ok (by rw [← hq.1]; exact hq.2.1)
      · exact ih x hx
  exact all r x hx
theorem dt_of {kvs : List (List Key × V)} (ok : HOk P w H h) (e : H a = some (.dT kvs)) : kvs.length ≤ sizeLine ∧ (a == sysModules) = false ∧
    ∃ xs, KT H kvs xs ∧ h.DictOfH (tupleKind (mixKind P w)) a xs := dt_rd ok (.inl e)
end

/-- what the dict at a holds at the key y -/
def DGet (H : Hp) (a : Addr) (y : V) (r : Option V) : Prop :=
  (∃ kvs k, Rd H a (.dK kvs) ∧ y = kV k ∧ r = valV kvs k) ∨ ∃ kvs k b, Rd H a (.dT kvs) ∧ y = .ref b ∧ H b = some (.tup (k.map kV)) ∧ r = valV kvs k
/-- the heap behind a[y] = v -/
def DPut (H : Hp) (a : Addr) (y v : V) (H' : Hp) : Prop :=
  (∃ kvs k, H a = some (.dK kvs) ∧ y = kV k ∧ kvs.length < sizeLine ∧ H' = upd H a (.dK (putK kvs k v))) ∨
  ∃ kvs k b, H a = some (.dT kvs) ∧ y = .ref b ∧ H b = some (.tup (k.map kV)) ∧ kvs.length < sizeLine ∧ H' = upd H a (.dT (putK kvs k v))
theorem DGet.k {H : Hp} {a : Addr} {kvs : List (Key × V)} {k : Key} (e : H a = some (.dK kvs)) : DGet H a (kV k) (valV kvs k) := .inl ⟨kvs, k, .inl e, rfl, rfl⟩
theorem DGet.t {H : Hp} {a b : Addr} {kvs : List (List Key × V)} {k : List Key} (e : H a = some (.dT kvs)) (eb : H b = some (.tup (k.map kV))) : DGet H a (.ref b) (valV kvs k) := .inr ⟨kvs, k, b, .inl e, rfl, eb, rfl⟩
theorem DPut.k {H : Hp} {a : Addr} {kvs : List (Key × V)} {k : Key} {v : V} (e : H a = some (.dK kvs)) (hl : kvs.length < sizeLine) : DPut H a (kV k) v (upd H a (.dK (putK kvs k v))) := .inl ⟨kvs, k, e, rfl, hl, rfl⟩
theorem DPut.t {H : Hp} {a b : Addr} {kvs : List (List Key × V)} {k : List Key} {v : V} (e : H a = some (.dT kvs)) (eb : H b = some (.tup (k.map kV))) (hl : kvs.length < sizeLine) :
    DPut H a (.ref b) v (upd H a (.dT (putK kvs k v))) := .inr ⟨kvs, k, b, e, rfl, eb, hl, rfl⟩


section
variable {X : Cx} {pins : List (Addr × Obj)} {σ : St} {H : Hp} {s : Shared} {a : Addr} {y v : V} {u r : Value} {o : Option V} {A : Around} {E : Value → Shared → Prop}

theorem Inv.big (I : Inv X pins σ H s) : sysModules < s.heap.objs.size := by
  have h : mainGlobals < s.heap.objs.size := (I.mod.glob.keeps I.bk).lt
  exact Nat.lt_trans (by decide) h

/-- d[y], there -/
theorem d_getItem {Q : Value → Shared → Prop} (hu : A.units + 1 < cLine) (I : Inv X pins σ H s) (g : DGet H a y (some v)) (ry : RelV y u) (h : ∀ w' s', Inv X pins σ H s' → RelV v w' → Q w' s') :
    wpAny (model X.prog X.w) A (getItem (.ref a) u) Q E s := by
  rcases g with ⟨kvs, k, e, ey, l⟩ | ⟨kvs, k, b, e, ey, eb, l⟩
  · subst ey
    obtain ⟨z, hd, vs, rel, dd⟩ := dk_rd I.hok e
    obtain ⟨w', hw, rw'⟩ := RelO.some_of (v := v) (o := valueAt vs k) (by rw [l]; exact rel.val k)
    exact wpAny_getItem_of (kV_is ry) dd.mapOf hw (h w' _ (I.tok _) rw')
  · subst ey
    cases (show u = Value.ref b from ry)
    obtain ⟨z, hd, xs, rel, dd⟩ := dt_rd I.hok e
    obtain ⟨w', hw, rw'⟩ := RelO.some_of (v := v) (o := (atKey xs k).map (·.2)) (by rw [l]; exact rel.val k)
    obtain ⟨p, hp, hp2⟩ := Option.map_eq_some_iff.mp hw
    refine wpAny_getItem_heap (tupleKind_room_in1 hu) (key_of I.hok eb) dd hp ?_
    rw [hp2]
    exact h w' _ (I.tok _) rw'
/-- y in d -/
theorem d_in {Q : Value → Shared → Prop} (hu : A.units + 1 < cLine) (I : Inv X pins σ H s) (g : DGet H a y o) (ry : RelV y u) (h : ∀ s', Inv X pins σ H s' → Q (.bool o.isSome) s') :
    wpAny (model X.prog X.w) A (compareOp .In u (.ref a)) Q E s := by
  rcases g with ⟨kvs, k, e, ey, l⟩ | ⟨kvs, k, b, e, ey, eb, l⟩
  · subst ey
    obtain ⟨z, hd, vs, rel, dd⟩ := dk_rd I.hok e
    refine wpAny_in_of (kV_is ry) hd dd.mapOf ?_
    rw [← (rel.val k).isSome_eq, ← l]
    exact h _ (I.tok _)
  · subst ey
    cases (show u = Value.ref b from ry)
    obtain ⟨z, hd, xs, rel, dd⟩ := dt_rd I.hok e
    refine wpAny_in_heap (tupleKind_room_in1 hu) (key_of I.hok eb) hd dd ?_
    have q := (rel.val k).isSome_eq
    rw [Option.isSome_map] at q
    rw [← q, ← l]
    exact h _ (I.tok _)
theorem d_notIn {Q : Value → Shared → Prop} (hu : A.units + 1 < cLine) (I : Inv X pins σ H s) (g : DGet H a y o) (ry : RelV y u) (h : ∀ s', Inv X pins σ H s' → Q (.bool (!o.isSome)) s') :
    wpAny (model X.prog X.w) A (compareOp .NotIn u (.ref a)) Q E s := by
  rcases g with ⟨kvs, k, e, ey, l⟩ | ⟨kvs, k, b, e, ey, eb, l⟩
  · subst ey
    obtain ⟨z, hd, vs, rel, dd⟩ := dk_rd I.hok e
    refine wpAny_notIn_of (kV_is ry) hd dd.mapOf ?_
    rw [← (rel.val k).isSome_eq, ← l]
    exact h _ (I.tok _)
  · subst ey
    cases (show u = Value.ref b from ry)
    obtain ⟨z, hd, xs, rel, dd⟩ := dt_rd I.hok e
    refine wpAny_notIn_heap (tupleKind_room_in1 hu) (key_of I.hok eb) hd dd ?_
    have q := (rel.val k).isSome_eq
    rw [Option.isSome_map] at q
    rw [← q, ← l]
    exact h _ (I.tok _)
/-- a dict's object is replaced -/
theorem d_write {h' : Heap} {t' : Nat} {ob : HO} (I : Inv X pins σ H s) (mu : Mut (H a)) (hs : Heap.SameBut a s.heap h') (he : ∃ q, h'.get? a = some q) (new : ObjOk X.prog X.w (upd H a ob) h' a ob) :
    Inv X pins σ (upd H a ob) { s with heap := h', toks := t' } :=
  I.write (x := a) (e := a) mu (.inl rfl) (fun b q hb z => (hs.2 b hb).trans z) he new
theorem dk_new {P : Program} {w : World} {H' : Hp} {h' : Heap} {kvs : List (Key × V)} {vs : List (Key × Value)} (z : kvs.length ≤ sizeLine) (hd : (a == sysModules) = false) (rel : KV kvs vs) (dd : h'.DictOf (mixKind P w) a vs) :
    ObjOk P w H' h' a (.dK kvs) := ⟨z, hd, vs, rel, dd⟩
/-- d[y] = v -/
theorem d_setItem {H' : Hp} {Q : Unit → Shared → Prop} (hu : A.units + 1 < cLine) (I : Inv X pins σ H s) (g : DPut H a y v H') (ry : RelV y u) (rv : RelV v r) (h : ∀ s', Inv X pins σ H' s' → Q () s') :
    wpAny (model X.prog X.w) A (setItem (.ref a) u r) Q E s := by
  rcases g with ⟨kvs, k, e, ey, l, eH⟩ | ⟨kvs, k, b, e, ey, eb, l, eH⟩
  · subst ey eH
    obtain ⟨z, hd, vs, rel, dd⟩ := dk_of I.hok e
    have hz : vs.length ≤ sizeLine := by rw [← rel.length]; exact z
    have hl : (putK kvs k v).length ≤ sizeLine := by have := length_putK kvs k v; omega
    refine wpAny_setItem_pairs (hsz := hz) (kV_is ry) dd fun h' dd' hs => h _ ?_
    have he : ∃ q, h'.get? a = some q := let ⟨q, _, _, hq, _⟩ := dd'; ⟨q, hq⟩
    exact d_write I (by rw [e]; exact True.intro) hs he (dk_new hl hd (rel.put k rv) dd')
  · subst ey eH
    cases (show u = Value.ref b from ry)
    obtain ⟨z, hd, xs, rel, dd⟩ := dt_of I.hok e
    have hz : xs.length ≤ sizeLine := by rw [← Paired.length rel]; exact z
    have hl : (putK kvs k v).length ≤ sizeLine := by have := length_putK kvs k v; omega
    refine wpAny_setItem_heap (hsz := hz) (tupleKind_room_in1 hu) (key_of I.hok eb) dd fun h' dd' hs => h _ ?_
    obtain ⟨q, es, ep, hq, h2, h3, h4, _, h5⟩ := dd'
    refine d_write I (by rw [e]; exact True.intro) hs ⟨q, hq⟩ ⟨hl, hd, _, (rel.put k eb rv).keeps fun c ys ec => ?_, q, es, ep, hq, h2, h3, h4, h5⟩
    rw [upd_ne (ne_of ec e (fun z => nomatch z))]
    exact ec
end

section
variable {X : Cx} {pins : List (Addr × Obj)} {σ : St} {H : Hp} {s : Shared} {a : Addr} {kvs : List (Key × V)} {k : Key} {u : Value} {A : Around} {E : Value → Shared → Prop}
/-- del d[k] -/
theorem d_delItem {Q : Unit → Shared → Prop} (I : Inv X pins σ H s) (e : H a = some (.dK kvs)) (ry : RelV (kV k) u) (l : (valV kvs k).isSome = true) (h : ∀ s', Inv X pins σ (upd H a (.dK (dropK kvs k))) s' → Q () s') :
    wpAny (model X.prog X.w) A (delItem (.ref a) u) Q E s := by
  obtain ⟨z, hd, vs, rel, dd⟩ := dk_of I.hok e
  refine wpAny_delItem_slot dd.typeIs (by decide) PySem.F.slot_dict_delitem
    (call_meetsIn PySem.F.slot_dict_delitem dd.typeIs PySem.F.entry_dict_delitem (PySem.F.args_dict_delitem_2 _ _) (meets_dict_delitem_pairs (mixKind X.prog X.w) a (kV_is ry)) ⟨vs, dd, by rw [← rel.length]; exact z, by rw [← (rel.val k).isSome_eq]; exact l, fun h' dd' hs => h _ ?_⟩)
  have he : ∃ q, h'.get? a = some q := let ⟨q, _, _, hq, _⟩ := dd'; ⟨q, hq⟩
  exact d_write I (by rw [e]; exact True.intro) hs he (dk_new (Nat.le_trans (dropK_le kvs k) z) hd (rel.drop k) dd')
/-- d.pop(k[, x]), there -/
theorem d_pop {v : V} {more : List Value} {Q : Value → Shared → Prop} (I : Inv X pins σ H s) (e : H a = some (.dK kvs)) (ry : RelV (kV k) u) (l : valV kvs k = some v) (hm : more = [] ∨ ∃ x, more = [x])
    (h : ∀ w' s', Inv X pins σ (upd H a (.dK (dropK kvs k))) s' → RelV v w' → Q w' s') : wpAny (model X.prog X.w) A (call (.builtin "dict.pop") (.ref a :: u :: more)) Q E s := by
  obtain ⟨z, hd, vs, rel, dd⟩ := dk_of I.hok e
  obtain ⟨w', hw, rw'⟩ := RelO.some_of (v := v) (o := valueAt vs k) (by rw [← l]; exact rel.val k)
  have hp : (keyPart u).isSome = true := by
    cases k with
    | inl i => obtain ⟨t, q⟩ := (show ∃ t, u = Value.int i t from ry); subst q; rfl
    | inr x => obtain ⟨t, q⟩ := (show ∃ t, u = Value.str x t from ry); subst q; rfl
  have ha : argsOk "dict.pop" ⟨.ref a :: u :: more, []⟩ := by
    rcases hm with q | ⟨x, q⟩
    · subst q; exact PySem.F.args_dict_pop_2 _ _
    · subst q; exact PySem.F.args_dict_pop_3 _ _ _
  refine call_meetsIn PySem.F.slot_dict_pop dd.typeIs PySem.F.entry_dict_pop ha (meets_dict_pop_there (mixKind X.prog X.w) a (kV_is ry) more hm hp)
    ⟨vs, w', dd, by rw [← rel.length]; exact z, hw, fun h' dd' hs => h w' _ ?_ rw'⟩
  have he : ∃ q, h'.get? a = some q := let ⟨q, _, _, hq, _⟩ := dd'; ⟨q, hq⟩
  exact d_write I (by rw [e]; exact True.intro) hs he (dk_new (Nat.le_trans (dropK_le kvs k) z) hd (rel.drop k) dd')
/-- d.pop(k, x), not there -/
theorem d_popD {r : Value} {Q : Value → Shared → Prop} (I : Inv X pins σ H s) (e : H a = some (.dK kvs)) (ry : RelV (kV k) u) (l : valV kvs k = none) (h : ∀ s', Inv X pins σ H s' → Q r s') :
    wpAny (model X.prog X.w) A (call (.builtin "dict.pop") [.ref a, u, r]) Q E s := by
  obtain ⟨z, hd, vs, rel, dd⟩ := dk_of I.hok e
  have hn : valueAt vs k = none := RelO.none_of (by rw [← l]; exact rel.val k)
  have hp : (keyPart u).isSome = true := by
    cases k with
    | inl i => obtain ⟨t, q⟩ := (show ∃ t, u = Value.int i t from ry); subst q; rfl
    | inr x => obtain ⟨t, q⟩ := (show ∃ t, u = Value.str x t from ry); subst q; rfl
  exact call_meetsIn PySem.F.slot_dict_pop dd.typeIs PySem.F.entry_dict_pop (PySem.F.args_dict_pop_3 _ _ _) (meets_dict_pop_default (mixKind X.prog X.w) a (kV_is ry) hd hp r) ⟨vs, dd, hn, h _ (I.tok _)⟩
/-- d.clear() -/
theorem d_clear {Q : Value → Shared → Prop} (I : Inv X pins σ H s) (e : H a = some (.dK kvs)) (h : ∀ s', Inv X pins σ (upd H a (.dK [])) s' → Q .none s') : wpAny (model X.prog X.w) A (call (.builtin "dict.clear") [.ref a]) Q E s := by
  obtain ⟨z, hd, vs, rel, dd⟩ := dk_of I.hok e
  refine call_meetsIn PySem.F.slot_dict_clear dd.typeIs PySem.F.entry_dict_clear (PySem.F.args_dict_clear_1 _) (meets_dict_clear (mixKind X.prog X.w) a) ⟨vs, dd, by rw [← rel.length]; exact z, fun h' dd' hs => h _ ?_⟩
  have he : ∃ q, h'.get? a = some q := let ⟨q, _, _, hq, _⟩ := dd'; ⟨q, hq⟩
  exact d_write (t' := s.toks) I (by rw [e]; exact True.intro) hs he (dk_new (Nat.zero_le _) hd .nil dd')
/-- len(d) -/
theorem d_len {Q : Value → Shared → Prop} (I : Inv X pins σ H s) (e : Rd H a (.dK kvs)) (h : ∀ t s', Inv X pins σ H s' → Q (.int kvs.length t) s') : wpAny (model X.prog X.w) A (call (.builtin "len") [.ref a]) Q E s := by
  obtain ⟨z, hd, vs, rel, dd⟩ := dk_rd I.hok e
  refine call_len_dict hd dd (by rw [← rel.length]; rw [sizeLine_eq] at z; omega) ?_
  rw [← rel.length]
  exact h _ _ (I.tok _)
/-- if d -/
theorem d_truth {Q : Bool → Shared → Prop} (I : Inv X pins σ H s) (e : Rd H a (.dK kvs)) (h : ∀ s', Inv X pins σ H s' → Q (!kvs.isEmpty) s') : wpAny (model X.prog X.w) A (truthy (.ref a)) Q E s := by
  obtain ⟨z, hd, vs, rel, dd⟩ := dk_rd I.hok e
  refine wpAny_truthy_dict hd dd (by rw [← rel.length]; rw [sizeLine_eq] at z; omega) ?_
  have q : kvs.isEmpty = vs.isEmpty := by cases rel <;> rfl
  rw [← q]
  exact h _ (I.tok _)
end


/-! ### readings and rules -/
/-- the element of a subscription, not a slice -/
def NoSl (i : Expr) : Prop := ∀ ov iv, subscripted i false ov iv = operate [ov, iv] (getItem ov iv)
theorem subD_of {prog : Program} {w : World} {A : Around} {E : Value → Shared → Prop} {s : Shared} {env : Env} {value slice : Expr} {pos : Pos} {T id : String} {Q : Value → Shared → Prop}
    (hl : typeLookup (.type T) "__getitem__" = pure (some (.builtin id))) (hs : NoSl slice)
    (h : wpAny (model prog w) A (eval value env) (fun o s₁ => wpAny (model prog w) A (eval slice env) (fun i s₂ => s₂.TypeIs o T ∧ wpAny (model prog w) A (getItem o i) Q E s₂) E s₁) E s) :
    wpAny (model prog w) A (eval (.Subscript value slice pos) env) Q E s := by
  refine Subscript_ (wpAny_mono h (fun o s₁ h₁ => wpAny_mono h₁ (fun i s₂ h₂ => ?_) fun _ _ x => x) fun _ _ x => x)
  obtain ⟨hT, h₂⟩ := h₂
  unfold subscriptTail
  refine wpAny_bind ?_
  rw [getitemInPython_of_ne hT.not_modules]
  refine wpAny_bind (wpAny_specialOf hT hl ?_)
  have fin : wpAny (model prog w) A (subscripted slice false o i) (fun r s₃ => wpAny (model prog w) A (letTemporaryGo value o r >>= fun _ => pure r) Q E s₃) E s₂ := by
    rw [hs o i]
    exact wpAny_operating (wpAny_mono h₂ (fun r s₃ h₃ => wpAny_bind (wpAny_letTemporaryGo (wpAny_pure h₃))) fun _ _ x => x)
  first
    | exact wpAny_pure (wpAny_bind fin)
    | exact wpAny_bind (wpAny_pure (wpAny_bind fin))
    | exact wpAny_bind fin

theorem dict_typeIs {X : Cx} {pins : List (Addr × Obj)} {σ : St} {H : Hp} {s : Shared} {a : Addr} {y : V} {o : Option V} (I : Inv X pins σ H s) (g : DGet H a y o) : s.TypeIs (.ref a) "dict" := by
  rcases g with ⟨kvs, k, e, _, _⟩ | ⟨kvs, k, b, e, _, _, _⟩
  · obtain ⟨_, _, vs, _, dd⟩ := dk_rd I.hok e
    exact dd.typeIs
  · obtain ⟨_, _, xs, _, dd⟩ := dt_rd I.hok e
    exact dd.typeIs
theorem dict_noDict {X : Cx} {pins : List (Addr × Obj)} {σ : St} {H : Hp} {s : Shared} {a : Addr} {y : V} {o : Option V} (I : Inv X pins σ H s) (g : DGet H a y o) :
    ∀ b, Value.ref a = .ref b → ∃ ob, s.heap.get? b = some ob ∧ ob.dict = none := fun b q => by
  cases q
  rcases g with ⟨kvs, k, e, _, _⟩ | ⟨kvs, k, b, e, _, _, _⟩
  · obtain ⟨_, _, vs, _, ob, _, _, h1, h2, _⟩ := dk_rd I.hok e
    exact ⟨ob, h1, h2.2.1⟩
  · obtain ⟨_, _, xs, _, ob, _, _, h1, h2, _⟩ := dt_rd I.hok e
    exact ⟨ob, h1, h2.2.1⟩

/-- d[y] -/
def tDGet (td ty : TE) : TE := fun σ H Q => td σ H fun x H1 => ty σ H1 fun y H2 => ∃ a v, x = .ref a ∧ DGet H2 a y (some v) ∧ Q v H2
/-- y in d, y not in d -/
def tDIn (ty td : TE) : TE := fun σ H Q => ty σ H fun y H1 => td σ H1 fun x H2 => ∃ a o, x = .ref a ∧ DGet H2 a y o ∧ Q (.bl o.isSome) H2
def tDNotIn (ty td : TE) : TE := fun σ H Q => ty σ H fun y H1 => td σ H1 fun x H2 => ∃ a o, x = .ref a ∧ DGet H2 a y o ∧ Q (.bl (!o.isSome)) H2
/-- d[y] = v -/
def sDPut (td ty tv : TE) : TS := fun D σ H => tv σ H fun v H1 => td σ H1 fun x H2 => ty σ H2 fun y H3 => ∃ a H4, x = .ref a ∧ DPut H3 a y v H4 ∧ D.nx σ H4
/-- d[y] op= v -/
def sDAug (td ty tv : TE) (rd : V → V → Hp → VK → Prop) : TS := fun D σ H => td σ H fun x H1 => ty σ H1 fun y H2 => ∃ a v, x = .ref a ∧ DGet H2 a y (some v) ∧
  tv σ H2 fun y2 H3 => rd v y2 H3 fun z H4 => ∃ H5, DPut H4 a y z H5 ∧ D.nx σ H5
/-- del d[y] -/
def sDDel (td ty : TE) : TS := fun D σ H => td σ H fun x H1 => ty σ H1 fun y H2 => ∃ a kvs k, x = .ref a ∧ H2 a = some (.dK kvs) ∧ y = kV k ∧ (valV kvs k).isSome = true ∧ D.nx σ (upd H2 a (.dK (dropK kvs k)))

section
variable {X : Cx} {o i e value : Expr} {pos pos' tpos : Pos} {td ty tv : TE}
theorem pe_dget (hu : X.A.units + 1 < cLine) (ho : PE X o td) (hi : PE X i ty) (hs : NoSl i) : PE X (.Subscript o i pos) (tDGet td ty) := by
  intro pins s σ H Q I h
  refine subD_of PySem.F.slot_dict_getitem.lookup hs (thn (ho pins s σ H _ I h) fun u s1 ⟨x, H1, I1, rx, q1⟩ => thn (hi pins s1 σ H1 _ I1 q1) fun iv s2 ⟨y, H2, I2, ry, a, v, ex, g, q2⟩ => ?_)
  subst ex
  obtain rfl : u = Value.ref a := rx
  exact ⟨dict_typeIs I2 g, d_getItem hu I2 g ry fun w' s3 I3 rw' => ⟨v, H2, I3, rw', q2⟩⟩
theorem pc_din (hu : X.A.units + 1 < cLine) (hi : PE X i ty) (ho : PE X o td) : PC X .In i o (tDIn ty td) := by
  intro pins s σ H Q I h
  refine thn (hi pins s σ H _ I h) fun iv s1 ⟨y, H1, I1, ry, q1⟩ => thn (ho pins s1 σ H1 _ I1 q1) fun u s2 ⟨x, H2, I2, rx, a, ov, ex, g, q2⟩ => ?_
  subst ex
  obtain rfl : u = Value.ref a := rx
  exact d_in hu I2 g ry fun s3 I3 => ⟨.bl ov.isSome, H2, I3, rfl, q2⟩
theorem pc_dnotin (hu : X.A.units + 1 < cLine) (hi : PE X i ty) (ho : PE X o td) : PC X .NotIn i o (tDNotIn ty td) := by
  intro pins s σ H Q I h
  refine thn (hi pins s σ H _ I h) fun iv s1 ⟨y, H1, I1, ry, q1⟩ => thn (ho pins s1 σ H1 _ I1 q1) fun u s2 ⟨x, H2, I2, rx, a, ov, ex, g, q2⟩ => ?_
  subst ex
  obtain rfl : u = Value.ref a := rx
  exact d_notIn hu I2 g ry fun s3 I3 => ⟨.bl (!ov.isSome), H2, I3, rfl, q2⟩
theorem ps_dput (hu : X.A.units + 1 < cLine) (ho : PE X o td) (hi : PE X i ty) (hv : PE X value tv) (hs : swapsWith value (some (.Subscript o i pos')) pos.line X.env = pure false) :
    PS X (.Assign [.Subscript o i pos'] value pos) (sDPut td ty tv) := by
  intro pins s σ H D I h
  refine wpAny_Assign_Subscript (thn (hv pins s σ H _ I h) fun r s1 ⟨v, H1, I1, rv, q1⟩ => thn (ho pins s1 σ H1 _ I1 q1) fun u s2 ⟨x, H2, I2, rx, q2⟩ => thn (hi pins s2 σ H2 _ I2 q2) fun iv s3 ⟨y, H3, I3, ry, a, H4, ex, g, q3⟩ => ?_) hs
  subst ex
  obtain rfl : u = Value.ref a := rx
  exact d_setItem hu I3 g ry rv fun s4 I4 => ⟨σ, H4, I4, q3⟩
theorem ps_daug {op : Operator} {rd : V → V → Hp → VK → Prop} (hu : X.A.units + 1 < cLine) (ho : PE X o td) (hi : PE X i ty) (hv : PE X value tv) (hop : InOp X op rd)
    (ha : ∀ ov iv new, augStore i ov iv new = (do holding [new, ov, iv] (setItem ov iv new); release [new, ov, iv] []; pure .next)) : PS X (.AugAssign (.Subscript o i tpos) op value pos) (sDAug td ty tv rd) := by
  intro pins s σ H D I h
  refine wpAny_AugAssign_SubscriptAny (thn (ho pins s σ H _ I h) fun u s1 ⟨x, H1, I1, rx, q1⟩ => thn (hi pins s1 σ H1 _ I1 q1) fun iv s2 ⟨y, H2, I2, ry, a, v, ex, g, q2⟩ => ?_) ha
  subst ex
  obtain rfl : u = Value.ref a := rx
  refine d_getItem hu I2 g ry fun w' s3 I3 rw' => thn (hv pins s3 σ H2 _ I3 q2) fun w2 s4 ⟨y2, H3, I4, ry2, q3⟩ => thn (hop pins s4 σ H3 v y2 w' w2 _ I4 rw' ry2 q3) fun w3 s5 ⟨z, H4, I5, rz, H5, g5, q4⟩ => ?_
  exact d_setItem hu I5 g5 ry rz fun s6 I6 => ⟨σ, H5, I6, q4⟩
theorem ps_ddel (ho : PE X o td) (hi : PE X i ty) : PS X (.Delete [.Subscript o i tpos] pos) (sDDel td ty) := by
  intro pins s σ H D I h
  refine wpAny_Delete (wpAny_deleteEach_cons (wpAny_delete_Subscript (thn (ho pins s σ H _ I h) fun u s1 ⟨x, H1, I1, rx, q1⟩ => thn (hi pins s1 σ H1 _ I1 q1) fun iv s2 ⟨y, H2, I2, ry, a, kvs, k, ex, e, ey, l, q2⟩ => ?_)))
  subst ex ey
  obtain rfl : u = Value.ref a := rx
  exact d_delItem I2 e ry l fun s3 I3 => wpAny_deleteEach_nil ⟨σ, _, I3, q2⟩
end


/-! ### displays -/
theorem dk_empty {P : Program} {w : World} {H : Hp} (h : Heap) (hb : sysModules < h.objs.size) : ObjOk P w H (h.push { cls := .type "dict", data := .dict #[] }) h.objs.size (.dK []) :=
  ⟨Nat.zero_le _, beq_eq_false_iff_ne.mpr (Ne.symm (Nat.ne_of_lt hb)), [], .nil, Heap.DictOf.new h⟩
theorem dt_empty {P : Program} {w : World} {H : Hp} (h : Heap) (hb : sysModules < h.objs.size) : ObjOk P w H (h.push { cls := .type "dict", data := .dict #[] }) h.objs.size (.dT []) :=
  ⟨Nat.zero_le _, beq_eq_false_iff_ne.mpr (Ne.symm (Nat.ne_of_lt hb)), [], .nil, _, #[], 0, Heap.get?_push_size _ rfl, ⟨rfl, rfl, rfl⟩, rfl, rfl, List.nodup_nil⟩
/-- {}, to be a dict of the kind that is wanted -/
def tDNewK : TE := fun _ H Q => ∀ p, H p = none → Q (.ref p) (upd H p (.dK []))
def tDNewT : TE := fun _ H Q => ∀ p, H p = none → Q (.ref p) (upd H p (.dT []))
section
variable {X : Cx} {pos : Pos}
theorem pe_dnewK : PE X (.Dict [] [] pos) tDNewK := fun pins s σ H Q I h =>
  wpAny_Dict_empty ⟨.ref s.heap.objs.size, _, I.laid (a := s.heap.objs.size) (o := .dK []) (t' := s.toks) (fun _ _ q => Heap.get?_push_of_some _ q) (Nat.le_refl _) (dk_empty s.heap I.big), rfl, h _ (I.hok.fresh (Nat.le_refl _))⟩
theorem pe_dnewT : PE X (.Dict [] [] pos) tDNewT := fun pins s σ H Q I h =>
  wpAny_Dict_empty ⟨.ref s.heap.objs.size, _, I.laid (a := s.heap.objs.size) (o := .dT []) (t' := s.toks) (fun _ _ q => Heap.get?_push_of_some _ q) (Nat.le_refl _) (dt_empty s.heap I.big), rfl, h _ (I.hok.fresh (Nat.le_refl _))⟩
end

/-- the pairs of a display, from the left -/
def tPairs : List (TE × TE) → St → Hp → (List (V × V) → Hp → Prop) → Prop
  | [], _, H, Q => Q [] H
  | (tk, tv) :: r, σ, H, Q => tk σ H fun x H1 => tv σ H1 fun y H2 => tPairs r σ H2 fun ps H3 => Q ((x, y) :: ps) H3
abbrev VV : List (V × V) → List (Value × Value) → Prop := Paired fun p q => RelV p.1 q.1 ∧ RelV p.2 q.2
def PPs (X : Cx) (pos : Pos) (keys : List (Option Expr)) (values : List Expr) (trs : List (TE × TE)) : Prop :=
  ∀ (pins : List (Addr × Obj)) (s : Shared) (σ : St) (H : Hp) (Q : List (V × V) → Hp → Prop), Inv X pins σ H s → tPairs trs σ H Q →
    wpAny (model X.prog X.w) X.A (evalPairs (pairTrees keys values X.env pos)) (fun vs s' => ∃ ps H', Inv X pins σ H' s' ∧ VV ps vs ∧ Q ps H') X.xe s
theorem pps_nil {X : Cx} {pos : Pos} : PPs X pos [] [] [] := fun pins s σ H Q I h => pairTrees_nil_walk ⟨[], H, I, .nil, h⟩
theorem pps_cons {X : Cx} {pos : Pos} {k v : Expr} {ks : List (Option Expr)} {vs : List Expr} {tk tv : TE} {trs : List (TE × TE)} (hk : PE X k tk) (hv : PE X v tv) (hr : PPs X pos ks vs trs) :
    PPs X pos (some k :: ks) (v :: vs) ((tk, tv) :: trs) := fun pins s σ H Q I h =>
  pairTrees_cons_walk (thn (hk pins s σ H _ I h) fun u s1 ⟨x, H1, I1, rx, q1⟩ => thn (hv pins s1 σ H1 _ I1 q1) fun w2 s2 ⟨y, H2, I2, ry, q2⟩ =>
    thn (hr pins s2 σ H2 _ I2 q2) fun ws s3 ⟨ps, H3, I3, rel, q3⟩ => ⟨(x, y) :: ps, H3, I3, .cons ⟨rx, ry⟩ rel, q3⟩)

def mergeK (kvs more : List (Key × V)) : List (Key × V) := more.foldl (fun acc kv => putK acc kv.1 kv.2) kvs
theorem KV.merge : ∀ {more : List (Key × V)} {rs : List (Key × Value)} {kvs : List (Key × V)} {vs : List (Key × Value)}, KV more rs → KV kvs vs → KV (mergeK kvs more) (merged vs rs) := by
  intro more rs kvs vs r
  unfold KV at r
  induction r generalizing kvs vs with
  | nil => intro q; exact q
  | @cons p q ps qs h t ih =>
    intro r0
    have e : KV (putK kvs p.1 p.2) (stored vs q.1 q.2) := by
      have := r0.put p.1 h.2
      rw [← h.1]; exact this
    exact ih e
theorem length_mergeK : ∀ (more kvs : List (Key × V)), (mergeK kvs more).length ≤ kvs.length + more.length
  | [], kvs => by show kvs.length ≤ kvs.length + 0; omega
  | p :: r, kvs => by
    have h1 := length_mergeK r (putK kvs p.1 p.2)
    have h2 := length_putK kvs p.1 p.2
    show (mergeK (putK kvs p.1 p.2) r).length ≤ _
    rw [List.length_cons]; omega
theorem carries_of {P : Program} {w : World} : ∀ {kvs : List (Key × V)} {ws : List (Value × Value)}, VV (kvs.map fun kv => (kV kv.1, kv.2)) ws → ∃ rs, Carries (mixKind P w) ws rs ∧ KV kvs rs
  | [], _, r => by rw [List.map_nil] at r; cases r; exact ⟨[], True.intro, .nil⟩
  | p :: kvs, _, r => by
    rw [List.map_cons] at r
    cases r with
    | @cons a b as bs h t =>
      obtain ⟨rs, c, q⟩ := carries_of (P := P) (w := w) t
      obtain ⟨b1, b2⟩ := b
      exact ⟨(p.1, b2) :: rs, ⟨kV_is h.1, rfl, c⟩, .cons ⟨rfl, h.2⟩ q⟩
/-- {k: v, ..} with keys ints and texts; the new dict stands empty while the pairs are made -/
def tDisp (trs : List (TE × TE)) : TE := fun σ H Q => ∀ p, H p = none → tPairs trs σ (upd H p (.dK [])) fun ps H2 => H2 p = some (.dK []) ∧ ∃ kvs : List (Key × V), ps = kvs.map (fun kv => (kV kv.1, kv.2)) ∧ kvs.length ≤ 15 ∧ Q (.ref p) (upd H2 p (.dK (mergeK [] kvs)))
theorem pe_disp {X : Cx} {pos : Pos} {keys : List (Option Expr)} {values : List Expr} {trs : List (TE × TE)} (h : PPs X pos keys values trs) (hall : keys.all (·.isSome) = true) (hl : keys.length = values.length) (h0 : keys ≠ [])
    (h15 : keys.length ≤ 15) : PE X (.Dict keys values pos) (tDisp trs) := by
  intro pins s σ H Q I q
  have hn := I.hok.fresh (Nat.le_refl s.heap.objs.size)
  have I1 := I.laid (a := s.heap.objs.size) (o := .dK []) (h' := s.heap.push { cls := .type "dict", data := .dict #[] }) (t' := s.toks) (fun _ _ q => Heap.get?_push_of_some _ q) (Nat.le_refl _) (dk_empty s.heap I.big)
  refine wpAny_Dict_walk (knd := mixKind X.prog X.w) hall hl h0 h15 (thn (h pins _ σ _ _ I1 (q _ hn)) fun ws s2 ⟨ps, H2, I2, rel, e, kvs, ep, lk, q2⟩ => ?_)
  subst ep
  obtain ⟨rs, c, rk⟩ := carries_of (P := X.prog) (w := X.w) rel
  obtain ⟨z, hd, vs0, r0, dd⟩ := dk_of I2.hok e
  cases r0
  refine ⟨rs, c, dd, fun h' dd' hs => ⟨.ref s.heap.objs.size, _, ?_, rfl, q2⟩⟩
  have hz : (mergeK [] kvs).length ≤ sizeLine := by
    have h1 := length_mergeK kvs []
    rw [List.length_nil] at h1
    rw [sizeLine_eq]; omega
  have he : ∃ q, h'.get? s.heap.objs.size = some q := let ⟨q, _, _, hq, _⟩ := dd'; ⟨q, hq⟩
  exact d_write I2 (by rw [e]; exact True.intro) hs he (dk_new hz hd (rk.merge .nil) dd')


/-! ### methods -/
/-- a method call o.m(e) of a built-in, with one argument: what must be seen of the text -/
structure M1 (X : Cx) (o : Expr) (m : Str) (apos : Pos) (e : Expr) (cpos : Pos) : Prop where
  base : attributeBase o m X.env (eval o X.env) = eval o X.env
  few : ((backTo cpos (starEach [e] X.env)).all (fun x => !x.1) && (backToKw cpos (keywordEach [] X.env)).all (fun x => x.1.isSome)
    && decide (([e] : List Expr).length + ([] : List Keyword).length + (if ([] : List Keyword).isEmpty then 0 else 1) < 30)) = true
  line : (apos.endLine == cpos.line) = true
  trees : backTo cpos (starEach [e] X.env) = [(false, eval e X.env)]
structure M2 (X : Cx) (o : Expr) (m : Str) (apos : Pos) (e f : Expr) (cpos : Pos) : Prop where
  base : attributeBase o m X.env (eval o X.env) = eval o X.env
  few : ((backTo cpos (starEach [e, f] X.env)).all (fun x => !x.1) && (backToKw cpos (keywordEach [] X.env)).all (fun x => x.1.isSome)
    && decide (([e, f] : List Expr).length + ([] : List Keyword).length + (if ([] : List Keyword).isEmpty then 0 else 1) < 30)) = true
  line : (apos.endLine == cpos.line) = true
  trees : backTo cpos (starEach [e, f] X.env) = [(false, eval e X.env), (false, eval f X.env)]

/-- a is a dict, whatever its keys -/
def IsD (H : Hp) (a : Addr) : Prop := (∃ kvs, Rd H a (.dK kvs)) ∨ ∃ kvs, Rd H a (.dT kvs)
theorem isD_at {X : Cx} {pins : List (Addr × Obj)} {σ : St} {H : Hp} {s : Shared} {a : Addr} (I : Inv X pins σ H s) (d : IsD H a) :
    s.TypeIs (.ref a) "dict" ∧ (∀ b, Value.ref a = .ref b → ∃ ob, s.heap.get? b = some ob ∧ ob.dict = none) ∧ (a == sysModules) = false := by
  rcases d with ⟨kvs, e⟩ | ⟨kvs, e⟩
  · obtain ⟨_, hd, vs, _, dd⟩ := dk_rd I.hok e
    refine ⟨dd.typeIs, fun b q => ?_, hd⟩
    cases q
    obtain ⟨ob, _, _, h1, h2, _⟩ := dd
    exact ⟨ob, h1, h2.2.1⟩
  · obtain ⟨_, hd, xs, _, dd⟩ := dt_rd I.hok e
    refine ⟨dd.typeIs, fun b q => ?_, hd⟩
    cases q
    obtain ⟨ob, _, _, h1, h2, _⟩ := dd
    exact ⟨ob, h1, h2.2.1⟩

section
variable {X : Cx} {pins : List (Addr × Obj)} {σ : St} {H : Hp} {s : Shared} {a : Addr} {y d : V} {u r : Value} {o : Option V} {A : Around} {E : Value → Shared → Prop}
/-- d.get(y) -/
theorem d_get1 {Q : Value → Shared → Prop} (hu : A.units + 1 < cLine) (I : Inv X pins σ H s) (g : DGet H a y o) (ry : RelV y u) (h : ∀ w' s', Inv X pins σ H s' → RelV (o.getD .non) w' → Q w' s') :
    wpAny (model X.prog X.w) A (call (.builtin "dict.get") [.ref a, u]) Q E s := by
  rcases g with ⟨kvs, k, e, ey, l⟩ | ⟨kvs, k, b, e, ey, eb, l⟩
  · subst ey
    obtain ⟨z, hd, vs, rel, dd⟩ := dk_rd I.hok e
    refine call_meetsIn PySem.F.slot_dict_get dd.typeIs PySem.F.entry_dict_get (PySem.F.args_dict_get_2 _ _) (meets_dict_get (mixKind X.prog X.w) a (kV_is ry) hd) ⟨_, dd.mapOf, h _ _ (I.tok _) ?_⟩
    rw [l]
    exact (rel.val k).getD rfl
  · subst ey
    cases (show u = Value.ref b from ry)
    obtain ⟨z, hd, xs, rel, dd⟩ := dt_rd I.hok e
    refine call_meetsIn PySem.F.slot_dict_get dd.typeIs PySem.F.entry_dict_get (PySem.F.args_dict_get_2 _ _) (meetsH_dict_get (tupleKind (mixKind X.prog X.w)) a b hd) ⟨tupleKind_room_in1 hu, k, xs, key_of I.hok eb, dd, h _ _ (I.tok _) ?_⟩
    rw [l]
    exact (rel.val k).getD rfl
/-- d.get(y, x) -/
theorem d_get2 {Q : Value → Shared → Prop} (hu : A.units + 1 < cLine) (I : Inv X pins σ H s) (g : DGet H a y o) (ry : RelV y u) (rd : RelV d r) (h : ∀ w' s', Inv X pins σ H s' → RelV (o.getD d) w' → Q w' s') :
    wpAny (model X.prog X.w) A (call (.builtin "dict.get") [.ref a, u, r]) Q E s := by
  rcases g with ⟨kvs, k, e, ey, l⟩ | ⟨kvs, k, b, e, ey, eb, l⟩
  · subst ey
    obtain ⟨z, hd, vs, rel, dd⟩ := dk_rd I.hok e
    refine call_meetsIn PySem.F.slot_dict_get dd.typeIs PySem.F.entry_dict_get (PySem.F.args_dict_get_3 _ _ _) (meets_dict_get_default (mixKind X.prog X.w) a (kV_is ry) hd r) ⟨_, dd.mapOf, h _ _ (I.tok _) ?_⟩
    rw [l]
    exact (rel.val k).getD rd
  · subst ey
    cases (show u = Value.ref b from ry)
    obtain ⟨z, hd, xs, rel, dd⟩ := dt_rd I.hok e
    refine call_meetsIn PySem.F.slot_dict_get dd.typeIs PySem.F.entry_dict_get (PySem.F.args_dict_get_3 _ _ _) (meetsH_dict_get_default (tupleKind (mixKind X.prog X.w)) a b hd r) ⟨tupleKind_room_in1 hu, k, xs, key_of I.hok eb, dd, h _ _ (I.tok _) ?_⟩
    rw [l]
    exact (rel.val k).getD rd
end

def tDGet1 (td ty : TE) : TE := fun σ H Q => td σ H fun x H1 => ∃ a, x = .ref a ∧ IsD H1 a ∧ ty σ H1 fun y H2 => ∃ o, DGet H2 a y o ∧ Q (o.getD .non) H2
def tDGet2 (td ty tx : TE) : TE := fun σ H Q => td σ H fun x H1 => ∃ a, x = .ref a ∧ IsD H1 a ∧ ty σ H1 fun y H2 => tx σ H2 fun z H3 => ∃ o, DGet H3 a y o ∧ Q (o.getD z) H3
/-- d.pop(k): there; d.pop(k, x): there or not -/
def tDPop1 (td ty : TE) : TE := fun σ H Q => td σ H fun x H1 => ∃ a, x = .ref a ∧ IsD H1 a ∧ ty σ H1 fun y H2 => ∃ kvs k v, H2 a = some (.dK kvs) ∧ y = kV k ∧ valV kvs k = some v ∧ Q v (upd H2 a (.dK (dropK kvs k)))
def tDPop2 (td ty tx : TE) : TE := fun σ H Q => td σ H fun x H1 => ∃ a, x = .ref a ∧ IsD H1 a ∧ ty σ H1 fun y H2 => tx σ H2 fun z H3 => ∃ kvs k, H3 a = some (.dK kvs) ∧ y = kV k ∧
  (∀ v, valV kvs k = some v → Q v (upd H3 a (.dK (dropK kvs k)))) ∧ (valV kvs k = none → Q z H3)
section
variable {X : Cx} {o e f : Expr} {apos cpos : Pos} {td ty tx : TE}
theorem pe_dget1 (hu : X.A.units + 1 < cLine) (ho : PE X o td) (he : PE X e ty) (m : M1 X o "get" apos e cpos) : PE X (.Call (.Attribute o "get" apos) [e] [] cpos) (tDGet1 td ty) := by
  intro pins s σ H Q I h
  refine wpAny_Call_method m.base m.few m.line PySem.F.plainAttrs_dict PySem.F.slot_dict_get PySem.F.type_dict_get (thn (ho pins s σ H _ I h) fun u s1 ⟨x, H1, I1, rx, a, ex, d, q1⟩ => ?_)
  subst ex
  obtain rfl : u = Value.ref a := rx
  obtain ⟨t1, t2, _⟩ := isD_at I1 d
  refine ⟨t1, t2, ?_⟩
  rw [m.trees]
  refine Calls.callWith_builtin rfl (Calls.evalArgs_plain (Calls.spliced_cons (thn (he pins s1 σ H1 _ I1 q1) fun iv s2 ⟨y, H2, I2, ry, ov, g, q2⟩ => Calls.spliced_nil ?_)))
  exact d_get1 hu I2 g ry fun w' s3 I3 rw' => ⟨_, H2, I3, rw', q2⟩
theorem pe_dget2 (hu : X.A.units + 1 < cLine) (ho : PE X o td) (he : PE X e ty) (hf : PE X f tx) (m : M2 X o "get" apos e f cpos) : PE X (.Call (.Attribute o "get" apos) [e, f] [] cpos) (tDGet2 td ty tx) := by
  intro pins s σ H Q I h
  refine wpAny_Call_method m.base m.few m.line PySem.F.plainAttrs_dict PySem.F.slot_dict_get PySem.F.type_dict_get (thn (ho pins s σ H _ I h) fun u s1 ⟨x, H1, I1, rx, a, ex, d, q1⟩ => ?_)
  subst ex
  obtain rfl : u = Value.ref a := rx
  obtain ⟨t1, t2, _⟩ := isD_at I1 d
  refine ⟨t1, t2, ?_⟩
  rw [m.trees]
  refine Calls.callWith_builtin rfl (Calls.evalArgs_plain (Calls.spliced_cons (thn (he pins s1 σ H1 _ I1 q1) fun iv s2 ⟨y, H2, I2, ry, q2⟩ =>
    Calls.spliced_cons (thn (hf pins s2 σ H2 _ I2 q2) fun fv s3 ⟨z, H3, I3, rz, ov, g, q3⟩ => Calls.spliced_nil ?_))))
  exact d_get2 hu I3 g ry rz fun w' s4 I4 rw' => ⟨_, H3, I4, rw', q3⟩
theorem pe_dpop1 (ho : PE X o td) (he : PE X e ty) (m : M1 X o "pop" apos e cpos) : PE X (.Call (.Attribute o "pop" apos) [e] [] cpos) (tDPop1 td ty) := by
  intro pins s σ H Q I h
  refine wpAny_Call_method m.base m.few m.line PySem.F.plainAttrs_dict PySem.F.slot_dict_pop PySem.F.type_dict_pop (thn (ho pins s σ H _ I h) fun u s1 ⟨x, H1, I1, rx, a, ex, d, q1⟩ => ?_)
  subst ex
  obtain rfl : u = Value.ref a := rx
  obtain ⟨t1, t2, _⟩ := isD_at I1 d
  refine ⟨t1, t2, ?_⟩
  rw [m.trees]
  refine Calls.callWith_builtin rfl (Calls.evalArgs_plain (Calls.spliced_cons (thn (he pins s1 σ H1 _ I1 q1) fun iv s2 ⟨y, H2, I2, ry, kvs, k, v, ea, ey, l, q2⟩ => Calls.spliced_nil ?_)))
  subst ey
  exact d_pop I2 ea ry l (.inl rfl) fun w' s3 I3 rw' => ⟨v, _, I3, rw', q2⟩
theorem pe_dpop2 (ho : PE X o td) (he : PE X e ty) (hf : PE X f tx) (m : M2 X o "pop" apos e f cpos) : PE X (.Call (.Attribute o "pop" apos) [e, f] [] cpos) (tDPop2 td ty tx) := by
  intro pins s σ H Q I h
  refine wpAny_Call_method m.base m.few m.line PySem.F.plainAttrs_dict PySem.F.slot_dict_pop PySem.F.type_dict_pop (thn (ho pins s σ H _ I h) fun u s1 ⟨x, H1, I1, rx, a, ex, d, q1⟩ => ?_)
  subst ex
  obtain rfl : u = Value.ref a := rx
  obtain ⟨t1, t2, _⟩ := isD_at I1 d
  refine ⟨t1, t2, ?_⟩
  rw [m.trees]
  refine Calls.callWith_builtin rfl (Calls.evalArgs_plain (Calls.spliced_cons (thn (he pins s1 σ H1 _ I1 q1) fun iv s2 ⟨y, H2, I2, ry, q2⟩ =>
    Calls.spliced_cons (thn (hf pins s2 σ H2 _ I2 q2) fun fv s3 ⟨z, H3, I3, rz, kvs, k, ea, ey, q3, q4⟩ => Calls.spliced_nil ?_))))
  subst ey
  cases l : valV kvs k with
  | some v => exact d_pop I3 ea ry l (.inr ⟨fv, rfl⟩) fun w' s4 I4 rw' => ⟨v, _, I4, rw', q3 v l⟩
  | none => exact d_popD I3 ea ry l fun s4 I4 => ⟨z, H3, I4, rz, q4 l⟩
end

/-! ### dict(d): a copy -/
section
variable {X : Cx} {pins : List (Addr × Obj)} {σ : St} {H : Hp} {s : Shared} {a : Addr} {kvs : List (Key × V)} {A : Around} {E : Value → Shared → Prop}
theorem d_copyOf {Q : Value → Shared → Prop} (I : Inv X pins σ H s) (e : Rd H a (.dK kvs)) (h : ∀ p s', H p = none → Inv X pins σ (upd H p (.dK kvs)) s' → Q (.ref p) s') : wpAny (model X.prog X.w) A (call (.type "dict") [.ref a]) Q E s := by
  obtain ⟨z, hd, vs, rel, dd⟩ := dk_rd I.hok e
  refine kt_call_dict hd dd (by rw [← rel.length]; exact z) fun h' dd' hs => ?_
  refine h _ _ (I.hok.fresh (Nat.le_refl _)) (I.laid (a := s.heap.objs.size) (o := .dK kvs) (t' := s.toks) (fun b q hq => ?_) (Nat.le_refl _) (dk_new z (beq_eq_false_iff_ne.mpr (Ne.symm (Nat.ne_of_lt I.big))) rel dd'))
  exact (hs.2 b (Nat.ne_of_lt (Heap.lt_size hq))).trans (Heap.get?_push_of_some _ hq)
end


section
variable {X : Cx} {pins : List (Addr × Obj)} {σ : St} {H : Hp} {s : Shared} {a : Addr} {y : V} {u : Value} {A : Around} {E : Value → Shared → Prop}
/-- d[y], not there: a KeyError -/
theorem d_missing {Q : Value → Shared → Prop} (hu : A.units + 1 < cLine) (hh : A.handled = none) (I : Inv X pins σ H s) (g : DGet H a y none) (ry : RelV y u)
    (h : ∀ h' e t', Heap.NewExc s.heap h' e "KeyError" → E (.ref e) { s with heap := h', toks := t' }) : wpAny (model X.prog X.w) A (getItem (.ref a) u) Q E s := by
  rcases g with ⟨kvs, k, e, ey, l⟩ | ⟨kvs, k, b, e, ey, eb, l⟩
  · subst ey
    obtain ⟨z, hd, vs, rel, dd⟩ := dk_rd I.hok e
    have hn : valueAt vs k = none := RelO.none_of (by rw [l]; exact rel.val k)
    exact wpAny_getItem_missing_of (kV_is ry) hd hh dd.mapOf hn fun h' ex ne => h h' ex _ ne
  · subst ey
    cases (show u = Value.ref b from ry)
    obtain ⟨z, hd, xs, rel, dd⟩ := dt_rd I.hok e
    have hn : (atKey xs k).map (·.2) = none := RelO.none_of (by rw [l]; exact rel.val k)
    exact wpAny_getItem_missing_heap (tupleKind_room_in1 hu) (key_of I.hok eb) hd hh dd (Option.map_eq_none_iff.mp hn) fun h' ex ne => h h' ex _ ne
end
end L2

namespace Att
open PySem PySem.W PySem.Calls PyProof.Rows

/-! ### the script -/
theorem ints_of_wellAll {P : Params} {h : Heap} : ∀ (ns : List Int) (vs : List Value), WellAll P h vs (ns.map WData.int) → IntsAre vs ns := by
  intro ns
  induction ns with
  | nil =>
    intro vs w
    rw [List.map_nil] at w
    cases w
    exact .nil
  | cons n ns ih =>
    intro vs w
    rw [List.map_cons] at w
    cases w with
    | cons a b =>
      cases a
      exact .cons _ _ (ih _ b)

theorem script_of {l : OpenLaw} {n : Nat} (hn : l.most = some n) {P : Params} {h : Heap} {args : List WData} {vals : List Value}
    (hpre : l.row.toRowW.claim.pre args = true) (hwl : WellAll P h vals args) :
    ∃ a vs ns, vals = [Value.ref a] ∧ args = [WData.list (ns.map WData.int)] ∧ h.get? a = some { cls := .type "list", data := .seq vs.toArray } ∧ IntsAre vs ns ∧ ns.length ≤ n := by
  have hsh : WShape.hasAll [] args [.list .int] = true := (pre_splitW hpre).1
  have hc : l.pre.holds [] { args := args } = true := (pre_splitW hpre).2
  obtain ⟨d, r, rfl, h1, h2⟩ := hasAllW_cons hsh
  obtain rfl := hasAllW_nil h2
  obtain ⟨xs, rfl, h3⟩ := hasW_list h1
  obtain ⟨ns, rfl⟩ := items_int h3
  have hlen : ns.length ≤ n := by
    unfold OpenLaw.pre at hc
    have h4 : (WTm.not (.lt (.lit (.int (n : Int))) (.len (.arg 0)))).holds [] { args := [.list (ns.map .int)] } = true := by
      have h4 := (holds_andW hc).1
      rw [hn] at h4
      exact h4
    have h5 := condW_of h4 (w_not (w_lt w_lit (w_len_list (w_arg rfl))))
    rw [List.length_map] at h5
    refine Nat.le_of_not_lt fun q => ?_
    have q' : (n : Int) < ((ns.length : Nat) : Int) := by omega
    first
      | (rw [decide_eq_true q'] at h5; exact absurd h5 (by decide))
      | (simp at h5; omega)
  cases hwl with
  | cons w1 w2 =>
    cases w2
    cases w1 with
    | list ho hall => exact ⟨_, _, ns, rfl, rfl, ho, ints_of_wellAll ns _ hall, hlen⟩

theorem post_true (l : OpenLaw) (args : List WData) : l.row.toRowW.claim.post args (.bool true) args = true :=
  postW_of (r := l.row.toRowW) (X := (true == true))
    (show WShape.has [] (.bool true) .bool = true by first | rfl | decide | simp [WShape.has, WShape.arms, WShape.armsAll])
    (show (WTm.eq .res (.lit (.bool true))).value [] { args := args, res := some (.bool true), after := args } = some (.bool (true == true)) from w_eq_bool (w_res rfl) w_lit) rfl

/-! ### the attachment: holds_open's last premise (the goal 'hc' behind k_head) from a wpAny of the law's body -/
theorem attach {l : OpenLaw} {n : Nat} {q : Program} {loose : List Str} {XP : (Str → Option Value) → Heap → Prop} {YP : World → Heap → Prop} {d : DefRec} {x : Str}
    (hn : l.most = some n) (hdf : d.params.defaults = [])
    (hbind : ∀ pm cd doc v : Value, bindArgs (docDef d.name d.params d.body d.scope pm cd doc) ⟨[v], []⟩ = pure [(x, v)])
    (hx : d.scope.names.lookup x = some .local ∨ d.scope.names.lookup x = some .cell)
    (hk : d.scope.kind = .function) (hco : d.scope.isCoroutine = false) (hgen : d.scope.isGenerator = false)
    (body : ∀ (w : World) (s₀ s₁ s : Shared) (mg mb : Str → Option Value) (fa : Addr) (o : Obj) (pm cd doc : Value) (a : Addr) (vs : List Value) (ns : List Int),
      Ground q loose [] XP w s₀ mg mb s₁.heap → YP w s₁.heap →
      s₁.heap.get? fa = some o → o.data = .func (docDef d.name d.params d.body d.scope pm cd doc) → s₁.heap.CodeRec cd d.name → mg d.name = some (.ref fa) →
      s₁.heap.get? a = some { cls := .type "list", data := .seq vs.toArray } → IntsAre vs ns → ns.length ≤ n →
      s.gens = #[] → s.os = s₁.os →
      Fr s₁.heap s₁.heap.objs.size s.heap (bindL (envOfC d.name d.scope s₁.heap.objs.size fa cd).kindOf [(x, .ref a)] fun _ => none) →
      Cl s₁.heap.objs.size (cellsFrom (s₁.heap.objs.size + 1) d.scope.names []) s.heap (bindC (envOfC d.name d.scope s₁.heap.objs.size fa cd).kindOf [(x, .ref a)] fun _ => none) →
      wpAny (model l.prog w) (callerA.deeper (envOfC d.name d.scope s₁.heap.objs.size fa cd)) (execs d.body (envOfC d.name d.scope s₁.heap.objs.size fa cd))
        (fun f s' => f = .ret (.bool true) ∧ OldK s₁.heap s'.heap ∧ s'.os = s₁.os ∧ AllBare s'.gens) (fun _ _ => False) s) :
    WalkO q loose XP YP l.row.toRowW d [] (fun f vs => PySem.call f vs) := by
  intro w s₀ s₁ mg mb G Y fa o pm cd doc dV kV ho hd hcd hD hmg hg args vals as hpre hlay hrd hwl hlo
  obtain rfl : dV = .none := Dflts.none hD hdf
  obtain rfl : kV = .none := Dflts.noKw hD
  obtain ⟨a, vs, ns, rfl, rfl, hobj, hints, hlen⟩ := script_of hn hpre hwl
  refine enter_call ?_
  refine call_cells_ret (o := o) (by rw [depth_caller]; decide) ho (fd_plain hd) G.T.nolimit hcd (hbind pm cd doc (.ref a)) (fun y hy => ?_) (fun h₁ tk F X => ?_) hco hgen hk
  · obtain rfl : y = (x, Value.ref a) := List.mem_singleton.mp hy
    rcases hx with e | e
    · exact .inl e
    · exact .inr ⟨e, cellsFrom_some _ _ _ (.inl e)⟩
  · refine wpAny_mono (body w s₀ s₁ { s₁ with heap := h₁, toks := tk } mg mb fa o pm cd doc a vs ns G Y ho (fd_plain hd) hcd hmg hobj hints hlen hg rfl F X) (fun f s' hq => ?_) (fun _ _ hq => hq)
    obtain ⟨rfl, h2, h3, h4⟩ := hq
    exact ⟨.inl ⟨.bool true, .bool true, [], rfl, fun _ => rfl, .bool true, post_true l _, fun _ => ⟨List.Pairwise.nil, fun _ hm => (nomatch hm)⟩⟩, h2, h3, h4⟩

/-- the same from a codeAny of the CALL (for a layer whose function contracts speak of calls) -/
theorem attach_call {l : OpenLaw} {n : Nat} {q : Program} {loose : List Str} {XP : (Str → Option Value) → Heap → Prop} {YP : World → Heap → Prop} {d : DefRec}
    (hn : l.most = some n) (hdf : d.params.defaults = [])
    (call : ∀ (w : World) (s₀ s₁ : Shared) (mg mb : Str → Option Value) (fa : Addr) (o : Obj) (pm cd doc : Value) (a : Addr) (vs : List Value) (ns : List Int),
      Ground q loose [] XP w s₀ mg mb s₁.heap → YP w s₁.heap →
      s₁.heap.get? fa = some o → o.data = .func (docDef d.name d.params d.body d.scope pm cd doc) → s₁.heap.CodeRec cd d.name → mg d.name = some (.ref fa) →
      s₁.heap.get? a = some { cls := .type "list", data := .seq vs.toArray } → IntsAre vs ns → ns.length ≤ n → s₁.gens = #[] →
      codeAny (model l.prog w) callerA (.call (.ref fa) ⟨[.ref a], []⟩) (fun r s' => r = .ok (.ret (.bool true)) ∧ OldK s₁.heap s'.heap ∧ s'.os = s₁.os ∧ AllBare s'.gens) s₁) :
    WalkO q loose XP YP l.row.toRowW d [] (fun f vs => PySem.call f vs) := by
  intro w s₀ s₁ mg mb G Y fa o pm cd doc dV kV ho hd hcd hD hmg hg args vals as hpre hlay hrd hwl hlo
  obtain rfl : dV = .none := Dflts.none hD hdf
  obtain rfl : kV = .none := Dflts.noKw hD
  obtain ⟨a, vs, ns, rfl, rfl, hobj, hints, hlen⟩ := script_of hn hpre hwl
  refine enter_call (codeAny_mono (call w s₀ s₁ mg mb fa o pm cd doc a vs ns G Y ho (fd_plain hd) hcd hmg hobj hints hlen hg) fun r s' hq => ?_)
  obtain ⟨rfl, h2, h3, h4⟩ := hq
  exact ⟨.inl ⟨.bool true, .bool true, [], rfl, fun _ => rfl, .bool true, post_true l _, fun _ => ⟨List.Pairwise.nil, fun _ hm => (nomatch hm)⟩⟩, h2, h3, h4⟩

/-- the same where the top left finished generators (o_head chose holds_openN): nothing may have changed at all and no generator may be left -/
theorem attachN {l : OpenLaw} {n : Nat} {q : Program} {loose : List Str} {XP : (Str → Option Value) → Heap → Prop} {YP : World → Heap → Prop} {d : DefRec} {x : Str}
    (hn : l.most = some n) (hdf : d.params.defaults = [])
    (hbind : ∀ pm cd doc v : Value, bindArgs (docDef d.name d.params d.body d.scope pm cd doc) ⟨[v], []⟩ = pure [(x, v)])
    (hx : d.scope.names.lookup x = some .local ∨ d.scope.names.lookup x = some .cell)
    (hk : d.scope.kind = .function) (hco : d.scope.isCoroutine = false) (hgen : d.scope.isGenerator = false)
    (body : ∀ (w : World) (s₀ s₁ s : Shared) (mg mb : Str → Option Value) (fa : Addr) (o : Obj) (pm cd doc : Value) (a : Addr) (vs : List Value) (ns : List Int),
      Ground q loose [] XP w s₀ mg mb s₁.heap → YP w s₁.heap →
      s₁.heap.get? fa = some o → o.data = .func (docDef d.name d.params d.body d.scope pm cd doc) → s₁.heap.CodeRec cd d.name → mg d.name = some (.ref fa) →
      s₁.heap.get? a = some { cls := .type "list", data := .seq vs.toArray } → IntsAre vs ns → ns.length ≤ n →
      s.gens = #[] → s.os = s₁.os →
      Fr s₁.heap s₁.heap.objs.size s.heap (bindL (envOfC d.name d.scope s₁.heap.objs.size fa cd).kindOf [(x, .ref a)] fun _ => none) →
      Cl s₁.heap.objs.size (cellsFrom (s₁.heap.objs.size + 1) d.scope.names []) s.heap (bindC (envOfC d.name d.scope s₁.heap.objs.size fa cd).kindOf [(x, .ref a)] fun _ => none) →
      wpAny (model l.prog w) (callerA.deeper (envOfC d.name d.scope s₁.heap.objs.size fa cd)) (execs d.body (envOfC d.name d.scope s₁.heap.objs.size fa cd))
        (fun f s' => f = .ret (.bool true) ∧ (∀ b o, s₁.heap.get? b = some o → s'.heap.get? b = some o) ∧ s'.os = s₁.os ∧ s'.gens = #[]) (fun _ _ => False) s) :
    WalkN q loose XP YP l.row.toRowW d [] (fun f vs => PySem.call f vs) := by
  intro w s₀ s₁ mg mb G Y fa o pm cd doc dV kV ho hd hcd hD hmg hg args vals as hpre hlay hrd hwl hlo
  obtain rfl : dV = .none := Dflts.none hD hdf
  obtain rfl : kV = .none := Dflts.noKw hD
  obtain ⟨a, vs, ns, rfl, rfl, hobj, hints, hlen⟩ := script_of hn hpre hwl
  refine enter_callW ?_
  refine call_cells_ret (o := o) (by rw [depth_caller]; decide) ho (fd_plain hd) G.T.nolimit hcd (hbind pm cd doc (.ref a)) (fun y hy => ?_) (fun h₁ tk F X => ?_) hco hgen hk
  · obtain rfl : y = (x, Value.ref a) := List.mem_singleton.mp hy
    rcases hx with e | e
    · exact .inl e
    · exact .inr ⟨e, cellsFrom_some _ _ _ (.inl e)⟩
  · refine wpAny_mono (body w s₀ s₁ { s₁ with heap := h₁, toks := tk } mg mb fa o pm cd doc a vs ns G Y ho (fd_plain hd) hcd hmg hobj hints hlen hg rfl F X) (fun f s' hq => ?_) (fun _ _ hq => hq)
    obtain ⟨rfl, h2, h3, h4⟩ := hq
    exact ⟨.inl ⟨.bool true, .bool true, [], rfl, fun _ => rfl, .bool true, post_true l _, fun _ => ⟨List.Pairwise.nil, fun _ hm => (nomatch hm)⟩⟩, h2, h3, h4⟩

/-! ### rules over ANY heap (no ledger) from facts about the written part K: the library's own take a ledger (News) for what they write -/
section
variable {prog : Program} {w : World} {A : Around} {E : Value → Shared → Prop} {s : Shared} {K : Frag}

/-- a def of the module, or a method (qual 'C.m'), entered: the frame is the next address; cells behind it -/
theorem call_fn {R : Result → Shared → Prop} {name qual : Str} {params : Arguments} {body : List Stmt} {scope : Scope} {dV kV doc pm cdv ct oc : Value} {an od : Option Addr} {osl : Array (Option Value)} {f : Addr} {args : Args} {binds : List (Str × Value)}
    (X : K.In s.heap) (hlim : s.heap.NoLimit) (ho : K.lookup f = some ⟨oc, od, .func (fnOf name qual params body scope dV kV doc pm an cdv ct), osl⟩) (hcd : codeIn K cdv qual = true) (hroom : A.depth < recursionLimit)
    (hbind : BindsTo s (fnOf name qual params body scope dV kV doc pm an cdv ct) args binds)
    (hkind : (binds.all fun y => scope.names.lookup y.1 == some .local || scope.names.lookup y.1 == some .cell) = true)
    (h : ∀ s₁, InCallC s s.heap.objs.size (bindL (envOfC qual scope s.heap.objs.size f cdv).kindOf binds fun _ => none) (cellsFrom (s.heap.objs.size + 1) scope.names [])
        (bindC (envOfC qual scope s.heap.objs.size f cdv).kindOf binds fun _ => none) s₁ →
      wpAny (model prog w) (A.deeper (envOfC qual scope s.heap.objs.size f cdv)) (execs body (envOfC qual scope s.heap.objs.size f cdv))
        (fun fl s' => R (.ok (.ret (match fl with | .ret v => v | _ => .none))) s')
        (fun e s' => wpAny (model prog w) (A.deeper (envOfC qual scope s.heap.objs.size f cdv)) (leaving (envOfC qual scope s.heap.objs.size f cdv) e) (fun _ s'' => R (.error e) s'') (fun e' s'' => R (.error e') s'') s') s₁)
    (hco : scope.isCoroutine = false) (hgen : scope.isGenerator = false) (hk : scope.kind = .function) : codeAny (model prog w) A (.call (.ref f) args) R s := by
  refine codeAny_call_function hroom (X _ _ ho) rfl hco hgen rfl (codeRec_of X hcd) (hbind _ _ _ _ ?_)
  refine wpAny_newFunctionEnv_cells hk (kindsX hkind _) fun env he s₁ x => ?_
  subst he
  exact ⟨hlim.keeps x.toInCall.keep, codeAny_func (h s₁ x)⟩

/-- C(..): dict at size, instance at size + 1, then __init__ -/
theorem make_obj {R : Result → Shared → Prop} {C fI : Addr} {rest : List Value} {kw : List (Str × Value)}
    (X : K.In s.heap) (hm : makesIn K C = true) (hi : findIn K (.ref C) "__init__" = some (some (.ref fI))) (hf : isFn K (.ref fI) = true)
    (h : codeAny (model prog w) (A.under (.builtin "type.__call__" ⟨.ref C :: rest, kw⟩)) (.call (.ref fI) ⟨.ref (s.heap.objs.size + 1) :: rest, kw⟩) (InitBack (s.heap.objs.size + 1) R)
      { s with heap := (s.heap.push emptyDict).push (instObj C s.heap.objs.size) }) : codeAny (model prog w) A (.call (.ref C) ⟨rest, kw⟩) R s := by
  obtain ⟨hh, g, d, t, os⟩ := s
  exact make_core (makes_of X hm) (looks_findIn X hi) (fun self => bind_fn X self (beq_iff_eq.mp hf)) (.inl rfl) h

/-- x.name where the instance's dict holds the name and the class does not -/
theorem get_field {x C : Addr} {ox : Obj} {es : List DictEntry} {n : Nat} {name : Str} {expr : Bool} {v : Value} {Q : Value → Shared → Prop}
    (X : K.In s.heap) (I : PySem.W.InstAt s.heap x ox C (some (dictOf es n))) (hg : plainGet K C name = true) (hh : hasDictIn K C = true) (ha : findIn K (.ref C) name = some none)
    (hl : getL name es = some (some v)) (hv : handedIn v = true) (h : Q v { s with toks := s.toks + 1 }) : wpAny (model prog w) A (getAttr (.ref x) name expr) Q E s :=
  get_value X I (plainGet_of hg).1 (findObj_own hh ha rfl hl) hv h

/-- x.m(..): the method found in the class -/
theorem get_method {x C f : Addr} {ox : Obj} {es : List DictEntry} {n : Nat} {name : Str} {pl : Sem Bool} {Q : Value × List Value → Shared → Prop}
    (X : K.In s.heap) (I : PySem.W.InstAt s.heap x ox C (some (dictOf es n))) (hg : plainGet K C name = true) (hf : findIn K (.ref C) name = some (some (.ref f))) (ht : isFn K (.ref f) = true)
    (hl : getL name es = some none) (h : Q (.ref f, [.ref x]) s) : wpAny (model prog w) A (getMethod (.ref x) name pl) Q E s :=
  method_fn X I (plainGet_of hg).1 (plainGet_of hg).2 hf (beq_iff_eq.mp ht) (by show (lookIn name (dictOf es n)).map _ = _; rw [lookIn_dict, hl]; rfl) h

/-! the whole heap as the ledger: makes every rule that writes through a ledger a rule over any heap -/
def noObjs (h : Heap) : Heap := { h with objs := #[] }
theorem noObjs_get (h : Heap) (b : Addr) : (noObjs h).get? b = none := by
  cases e : (noObjs h).get? b with
  | none => rfl
  | some o => exact absurd (Heap.lt_size e) (Nat.not_lt_zero _)
def ledger (h : Heap) (L d : Addr) : List (Addr × Obj) := (List.range h.objs.size).filterMap fun a => if a = L ∨ a = d then none else (h.get? a).map fun o => (a, o)
theorem mem_ledger {h : Heap} {L d a : Addr} {o : Obj} : (a, o) ∈ ledger h L d ↔ a ≠ L ∧ a ≠ d ∧ h.get? a = some o := by
  unfold ledger
  rw [List.mem_filterMap]
  constructor
  · rintro ⟨b, _, e⟩
    split at e
    · cases e
    · rename_i hb
      obtain ⟨o', ho, e'⟩ := Option.map_eq_some_iff.mp e
      cases e'
      exact ⟨fun q => hb (.inl q), fun q => hb (.inr q), ho⟩
  · rintro ⟨n1, n2, ho⟩
    refine ⟨a, List.mem_range.mpr (Heap.lt_size ho), ?_⟩
    rw [if_neg (show ¬ (a = L ∨ a = d) from fun q => q.elim n1 n2), ho] <;> rfl
theorem news_ledger {h : Heap} {L d : Addr} {od : Obj} (hne : d ≠ L) (ho : h.get? d = some od) : News (noObjs h) L h ([] ++ (d, od) :: ledger h L d) := by
  rintro ⟨a, o⟩ hp
  rcases List.mem_cons.mp hp with e | hp
  · cases e
    exact ⟨ho, hne, noObjs_get _ _⟩
  · obtain ⟨n1, n2, e⟩ := mem_ledger.mp hp
    exact ⟨e, n1, noObjs_get _ _⟩
theorem fr_all {h : Heap} {L : Addr} {m : Str → Option Value} (n : h.Ns L m) : Fr (noObjs h) L h m :=
  ⟨n, fun b o e => (by rw [noObjs_get] at e; cases e), Nat.zero_le _⟩
/-- Upd of the head entry (for append_K, setItem_K ..) -/
theorem upd_ledger {h : Heap} {L d : Addr} {o o' : Obj} : Upd d o o' ((d, o) :: ledger h L d) ((d, o') :: ledger h L d) :=
  .head fun ⟨_, _⟩ hp => (mem_ledger.mp hp).2.1

/-- x.name = v over any heap: L is any namespace of the heap (the frame's, say): its map stays, its object is not told; all else but the dict stays -/
theorem set_field {x C dx L : Addr} {ox : Obj} {m : Str → Option Value} {es es' : List DictEntry} {n n' : Nat} {name : Str} {v : Value} {Q : Unit → Shared → Prop}
    (X : K.In s.heap) (I : PySem.W.InstAt s.heap x ox C (some (dictOf es n))) (hd : ox.dict = some dx) (hL : s.heap.Ns L m) (hne : dx ≠ L)
    (hs : findIn K (.ref C) "__setattr__" = some (some (.builtin "object.__setattr__"))) (hp : plainOver K C = true) (ht : takerIn K C name = some none) (hh : hasDictIn K C = true) (hl : (getL name es).isSome = true)
    (e : (putL name (PyData.keyHash w.params name) (.str name (s.toks + 1)) v es, putN name es n) = (es', n')) (hz : es'.length ≤ 1000)
    (h : ∀ h' : Heap, h'.Ns L m → h'.get? dx = some (dictOf es' n') → (∀ b o, b ≠ dx → b ≠ L → s.heap.get? b = some o → h'.get? b = some o) → Q () { s with heap := h', toks := s.toks + 2 }) :
    wpAny (model prog w) A (setAttr (.ref x) name v) Q E s := by
  obtain ⟨e1, e2⟩ := Prod.mk.inj e
  have hdx : s.heap.get? dx = some (dictOf es n) := by
    have := I.dict
    rw [hd] at this
    exact this
  refine set_plain X I hs (osa_dict (s := { s with toks := s.toks + 1 }) (h₀ := noObjs s.heap) (L := L) (m := m) (od := dictOf es n) (od' := dictOf es' n') (es := es') (n := n') (pre := []) (post := ledger s.heap L dx)
    (fr_all hL) (news_ledger hne hdx) X I hd hp ht hh hl (fun _ q => nomatch q) (fun ⟨_, _⟩ q => (mem_ledger.mp q).2.1) (by rw [putName_dict, e1, e2]) rfl hz fun h' F' N' => ?_)
  exact h h' F'.ns (N'.get (List.Mem.head _)) fun b o n1 n2 ho => N'.get (List.Mem.tail _ (mem_ledger.mpr ⟨n2, n1, ho⟩))
end
end Att

namespace L2
open PySem PySem.Spec PyProof.Rows

theorem vals_ints : ∀ {vs : List Value} {ns : List Int}, IntsAre vs ns → Vals (ns.map V.int) vs
  | _, _, .nil => .nil
  | _, _, .cons n t h => .cons ⟨t, rfl⟩ (vals_ints h)

/-- nothing is tracked but the script, known to the object (or it is an object of the module) -/
def Only (H : Hp) : Prop := ∀ b, H b = none ∨ ∃ o xs, H b = some (.frz o (.lst xs))

/-- THE HEAD: the law's promise, at the heap behind the top. F, the promise of the law's def, may use that base is part of the heap (so K.In base, base.Ns mainGlobals mg stand in Mod) -/
theorem law_call {P : Program} {w : World} {K : PySem.W.Frag} {mg mb : Str → Option Value} {CX : CXT} {k : Nat} {fa a : Addr} {fd : FuncData} {x : Str} {sp : Sp} {s₁ : Shared} {vs : List Value} {ns : List Int}
    (KX : K.In s₁.heap) (hns : s₁.heap.Ns mainGlobals mg) (hb : s₁.heap.Ns builtinsNs mb) (hbb : ∀ x : Str, x ≠ "__name__" → mb x = bootBuiltins x) (hlim : s₁.heap.NoLimit) (hg : s₁.gens = #[])
    (ha : s₁.heap.get? a = some { cls := .type "list", data := .seq vs.toArray }) (hi : IntsAre vs ns) (hl : ns.length ≤ sizeLine) (hr : Room k callerA)
    (F : ∀ base : Heap, K.In base → base.Ns mainGlobals mg → FnOk P w K mg base CX k fa fd [x] sp) (hbind : ∀ (s : Shared) (u : Value), BindsTo s fd ⟨[u], []⟩ [(x, u)])
    (hsp : ∀ H : Hp, Only H → SqL K H a (ns.map V.int) → sp [.ref a] H (fun v _ => v = .bl true) fun _ _ _ => False)
    (hCX : ∀ H e s', CX [] H s₁ (fun _ _ _ => False) e s' → False) :
    codeAny (model P w) callerA (.call (.ref fa) ⟨[.ref a], []⟩) (fun r s' => r = .ok (.ret (.bool true)) ∧ OldK s₁.heap s'.heap ∧ s'.os = s₁.os ∧ AllBare s'.gens) s₁ := by
  have rv := vals_ints hi
  have lenV := hi.length
  -- from an abstract heap in which nothing but the script may be tracked
  have core : ∀ H : Hp, Only H → SqL K H a (ns.map V.int) → HOk P w H s₁.heap → (∀ b, H b ≠ none → b = a) → (H a ≠ none → K.lookup a = none) →
      codeAny (model P w) callerA (.call (.ref fa) ⟨[.ref a], []⟩) (fun r s' => r = .ok (.ret (.bool true)) ∧ OldK s₁.heap s'.heap ∧ s'.os = s₁.os ∧ AllBare s'.gens) s₁ := by
    intro H hO hS hok hA hK
    have base_of : ∀ {b : Addr} {o : Obj}, s₁.heap.get? b = some o → H b = none → (hidT s₁.heap H).get? b = some o := fun e n => hidT_get e n
    have noA : ∀ {b : Addr} {o : Obj} {es : Array DictEntry} {ep : Nat}, s₁.heap.get? b = some o → o.data = .dict es ep → H b = none := fun {b o es ep} e d => by
      cases q : H b with
      | none => rfl
      | some u =>
        have e' : b = a := hA b (by rw [q]; simp)
        subst e'
        rw [ha] at e; cases e
        have d' : Data.seq vs.toArray _ = Data.dict es ep := d
        cases d'
    have nsK : ∀ {b : Addr} {m : Str → Option Value}, s₁.heap.Ns b m → (hidT s₁.heap H).Ns b m := fun {b m} ⟨o, es, ep, e, d, r⟩ => ⟨o, es, ep, base_of e (noA e d), d, r⟩
    have hKb : K.In (hidT s₁.heap H) := fun b o e => base_of (KX b o e) (by
      cases q : H b with
      | none => rfl
      | some u =>
        have e' : b = a := hA b (by rw [q]; simp)
        subst e'
        rw [hK (by rw [q]; simp)] at e; cases e)
    have hM : Mod K mg (hidT s₁.heap H) := ⟨hKb, nsK hns, ⟨mb, nsK hb, hbb⟩, let ⟨mc, h1, h2⟩ := hlim; ⟨mc, nsK h1, h2⟩⟩
    have e0 : Env0 P w K mg (hidT s₁.heap H) callerA [] s₁ H := ⟨rfl, hM, fun b o e => of_hidT e, Nat.le_of_eq (hidT_size _ _), trivial, fun b hb => absurd (show b ∈ ([] : List Addr) from hb) (by simp), hok, .of_eq hg⟩
    refine codeAny_mono ((F _ hKb (nsK hns)).run callerA [] s₁ H ⟨[.ref a], []⟩ [.ref a] [.ref a] _ _ hr e0 (hbind s₁ (.ref a)) (.cons rfl .nil) (hsp H hO hS)) fun r s' h => ?_
    cases r with
    | error e => exact (hCX H e s' h).elim
    | ok fl =>
      cases fl with
      | next => exact False.elim h
      | brk => exact False.elim h
      | cont => exact False.elim h
      | ret u =>
        obtain ⟨v, H', os, bare, un, hok', r', q⟩ := h
        have q' : v = .bl true := q
        subst q'
        obtain rfl : u = Value.bool true := r'
        refine ⟨rfl, OldK.of_keep fun b o e => ?_, os, bare⟩
        cases q : H b with
        | none => exact un.keep b o e q (by intro z; exact absurd (show b ∈ ([] : List Addr) from z) (by simp)) (by simp)
        | some u =>
          rcases hO b with z | ⟨ob, xs, z⟩
          · rw [q] at z; cases z
          · have z2 := un.frzs b ob _ z
            obtain ⟨e1, _⟩ := hok b _ z
            obtain ⟨e2, _⟩ := hok' b _ z2
            rw [e] at e1; cases e1
            exact e2
  cases hk : K.lookup a with
  | some o =>
    -- the script is one of the module's own objects
    have e := KX a o hk
    rw [ha] at e
    cases e
    refine core (fun _ => none) (fun _ => .inl rfl) (.inr ⟨_, vs.toArray, _, hk, rfl, rfl, rfl, by rw [List.size_toArray, lenV]; exact hl, by simpa using rv⟩) (fun b u z => by have z' : (none : Option HO) = some u := z; cases z') (fun b z => absurd rfl z) fun z => absurd rfl z
  | none =>
    refine core (fun b => if b = a then some (.frz { cls := .type "list", data := .seq vs.toArray } (.lst (ns.map V.int))) else none) (fun b => ?_) (.inl (.inr ⟨{ cls := .type "list", data := .seq vs.toArray }, if_pos rfl⟩)) (fun b u z => ?_) (fun b z => ?_) fun _ => hk
    · by_cases hb : b = a
      · exact .inr ⟨_, _, if_pos hb⟩
      · exact .inl (if_neg hb)
    · by_cases hb : b = a
      · have z' := (if_pos hb).symm.trans z
        cases z'
        subst hb
        exact ⟨ha, by rw [List.length_map]; exact hl, vs, _, rv, ha⟩
      · have z' := (if_neg hb).symm.trans z
        cases z'
    · by_cases hb : b = a
      · exact hb
      · exact absurd (if_neg hb) z
end L2

namespace L2
open PySem PySem.Spec PyProof.Rows

abbrev KOf {K : PySem.W.Frag} {h : Heap} (_ : K.In h) : PySem.W.Frag := K

/-- the goal that k_head leaves (case hc), from the law's promise. F gives the function object fd (K's own) once, then the promise over every base -/
theorem walk_of {l : PySem.W.OpenLaw} {n k : Nat} {q : Program} {loose : List Str} {XP : (Str → Option Value) → Heap → Prop} {YP : World → Heap → Prop} {d : DefRec} {K : Params → PySem.W.Frag} {CX : World → CXT} {sp : World → Sp} {x : Str}
    (hn : l.most = some n) (hn2 : n ≤ sizeLine) (hdf : d.params.defaults = []) (hr : Room k callerA)
    (hY : ∀ (w : World) (h : Heap), YP w h → (K w.params).In h)
    (F : ∀ (w : World) (mg : Str → Option Value) (fa : Addr) (h : Heap), (K w.params).In h → h.Ns mainGlobals mg → mg d.name = some (.ref fa) →
      ∃ fd : FuncData, (∀ (s : Shared) (u : Value), BindsTo s fd ⟨[u], []⟩ [(x, u)]) ∧
        ∀ base : Heap, (K w.params).In base → base.Ns mainGlobals mg → FnOk l.prog w (K w.params) mg base (CX w) k fa fd [x] (sp w))
    (hsp : ∀ (w : World) (H : Hp) (a : Addr) (ns : List Int), ns.length ≤ n → Only H → SqL (K w.params) H a (ns.map V.int) → sp w [.ref a] H (fun v _ => v = .bl true) fun _ _ _ => False)
    (hCX : ∀ (w : World) (H : Hp) (s : Shared) (e : Value) (s' : Shared), CX w [] H s (fun _ _ _ => False) e s' → False) :
    PySem.W.WalkO q loose XP YP l.row.toRowW d [] (fun f vs => PySem.call f vs) := by
  refine Att.attach_call hn hdf fun w s₀ s₁ mg mb fa o pm cd doc a vs ns G Y ho hd hcd hmg hobj hints hlen hg => ?_
  have KX := hY w _ Y
  obtain ⟨fd, hb, hF⟩ := F w mg fa _ KX G.T.g hmg
  exact law_call KX G.T.g G.T.b G.T.builtins G.T.nolimit hg hobj hints (Nat.le_trans hlen hn2) hr hF hb (fun H hO hS => hsp w H a ns hlen hO hS) fun H e s' => hCX w H s₁ e s'
/-- the same where the promise hangs on the written part alone: (sp := My.sp_law), no hole under a binder -/
theorem walk_ofK {l : PySem.W.OpenLaw} {n k : Nat} {q : Program} {loose : List Str} {XP : (Str → Option Value) → Heap → Prop} {YP : World → Heap → Prop} {d : DefRec} {K : Params → PySem.W.Frag} {CX : CXT} {sp : PySem.W.Frag → Sp} {x : Str}
    (hn : l.most = some n) (hn2 : n ≤ sizeLine) (hdf : d.params.defaults = []) (hr : Room k callerA)
    (hY : ∀ (w : World) (h : Heap), YP w h → (K w.params).In h)
    (F : ∀ (w : World) (mg : Str → Option Value) (fa : Addr) (h : Heap), (K w.params).In h → h.Ns mainGlobals mg → mg d.name = some (.ref fa) →
      ∃ fd : FuncData, (∀ (s : Shared) (u : Value), BindsTo s fd ⟨[u], []⟩ [(x, u)]) ∧
        ∀ base : Heap, (K w.params).In base → base.Ns mainGlobals mg → FnOk l.prog w (K w.params) mg base CX k fa fd [x] (sp (K w.params)))
    (hsp : ∀ (K : PySem.W.Frag) (H : Hp) (a : Addr) (ns : List Int), ns.length ≤ n → Only H → SqL K H a (ns.map V.int) → sp K [.ref a] H (fun v _ => v = .bl true) fun _ _ _ => False)
    (hCX : ∀ (H : Hp) (s : Shared) (e : Value) (s' : Shared), CX [] H s (fun _ _ _ => False) e s' → False) :
    PySem.W.WalkO q loose XP YP l.row.toRowW d [] (fun f vs => PySem.call f vs) :=
  walk_of (K := K) (CX := fun _ => CX) (sp := fun w => sp (K w.params)) hn hn2 hdf hr hY F (fun w H a ns h1 h2 h3 => hsp (K w.params) H a ns h1 h2 h3) fun _ H s e s' => hCX H s e s'
end L2

/- THE LAST THEOREM (shape; LID, My.* are yours):
   My.Adr: a structure of the addresses that your layer names (classes, functions); My.Txt K t: a structure (Prop) of the equations over K;
   My.txt_mk : {K} {implicit addresses ..} (e1 : nsIn K mainGlobals "law" = some (some (.ref f))) (e2 : K.lookup f = some ⟨oc, od, .func (fnOf "law" "law" params body scope dV kV doc pm an cdv ct), sl⟩) (e3 : codeIn K cdv "law" = true) .. : ∃ t, My.Txt K t

set_option maxRecDepth 100000 in
set_option maxHeartbeats 0 in
theorem PySem.Challenge.cw_LID_holds : PySem.Challenge.rw_LID.Holds := by
  w_on; o_law; k_head; (case hw => w_witness2)
  k_fill
  refine L2.walk_of (l := PySem.Challenge.rw_LID) (n := 63) (k := 40) (x := "script") (CX := fun w => ..) (sp := fun _ => My.sp_law) rfl (by decide) rfl ⟨rfl, by decide, by decide⟩ (fun w h Y => PySem.W.kIn_of Y) ?F ?S ?C
  case F =>
    intro w mg fa h KX G hmg
    have T : ∃ t, My.Txt (L2.KOf KX) t := by
      dsimp only [L2.KOf]                          -- K must stand as «<heap const> w.params» for k_is
      refine' My.txt_mk ?e1 ?e2 ?e3 ..
      (case e1 => PySem.W.k_is)                    -- in the order: a name -> its address -> its object -> its parts
      (case e2 => PySem.W.k_is)
      ..
    obtain ⟨t, T⟩ := T
    have e0 := hmg.symm.trans (PySem.W.mg_of KX G T.law)
    cases e0                                       -- fa is the law's own address
    exact ⟨_, fun s u => .of_eq rfl, fun base kb nb => My.law_fn T kb nb⟩     -- if «.of_eq rfl» comes too early: refine' ⟨_, ?b, fun base kb nb => My.law_fn T kb nb⟩; exact fun s u => .of_eq rfl
  case S => exact fun w H a ns hl hO hS => ..
  case C => exact ..
(the tactic k_is has no namespace: write k_is) -/

/-! SHORT WORDS over the layer: a def of the text, its body, what a loop and a test want. -/
namespace L2
open PySem PySem.Spec PyProof.Rows

/-! ### the text by places -/
/-- the j-th statement of a class's body -/
def inClass (s : Stmt) (j : Nat) : Stmt := match s with
  | .ClassDef _ _ _ body _ _ _ _ _ _ _ => body.getD j (.Pass ⟨0, 0, 0, 0⟩)
  | _ => .Pass ⟨0, 0, 0, 0⟩
def defArgs (s : Stmt) : Arguments := match s with
  | .FunctionDef _ a _ _ _ _ _ _ _ _ => a
  | _ => { posonlyargs := [], args := [], vararg := none, kwonlyargs := [], kw_defaults := [], kwarg := none, defaults := [] }
def defBody (s : Stmt) : List Stmt := match s with
  | .FunctionDef _ _ b _ _ _ _ _ _ _ => b
  | _ => []
def defScope (s : Stmt) : Scope := match s with
  | .FunctionDef _ _ _ _ _ _ sc _ _ _ => sc
  | _ => { kind := .function, names := [], isGenerator := false, isCoroutine := false }

/-! ### no exception leaves a def -/
abbrev CX0 : CXT := fun _ _ _ _ _ _ => False
abbrev E0 : XK := fun _ _ _ => False
theorem pass0 {X : Cx} : Passes CX0 X E0 := fun _ _ _ _ _ _ _ h => h.elim

/-! ### a def (or method) of the text as it stands behind the top -/
structure Fun (K : PySem.W.Frag) (x qual : Str) (st : Stmt) (f : Addr) (fd : FuncData) : Prop where
  ex : ∃ (oc : Value) (od : Option Addr) (kV doc pm : Value) (an : Option Addr) (cdv ct : Value) (osl : Array (Option Value)),
    fd = PySem.W.fnOf x qual (defArgs st) (defBody st) (defScope st) .none kV doc pm an cdv ct ∧ K.lookup f = some ⟨oc, od, .func fd, osl⟩ ∧ PySem.W.codeIn K cdv qual = true
  kp : PySem.W.keepIn K (.ref f) = true
section
variable {P : Program} {w : World} {K : PySem.W.Frag} {mg : Str → Option Value} {base : Heap}
/-- THE RULE for a def: its body as a term of rules, and the reading of that term -/
theorem Fun.ok {x qual : Str} {st : Stmt} {f : Addr} {fd : FuncData} {N ps : List Str} {k : Nat} {sp : Sp} (F : Fun K x qual st f fd) (S : FnScope N ps (defScope st)) (len : ∀ vs H Q E, sp vs H Q E → vs.length = ps.length)
    (hbody : ∀ (cdv : Value) (A : Around) (outer : List Env) (s : Shared) (H : Hp) (vs : List V) (Q : VK) (E : XK), Room k (A.deeper (envOfC qual (defScope st) s.heap.objs.size f cdv)) → sp vs H Q E →
      ∃ t, PSs (cxOf CX0 P w K mg base N qual (defScope st) f cdv A outer s H E).nox (defBody st) t ∧ t { nx := fun _ H' => Q .non H', rt := Q } (start N vs) H) : FnOk P w K mg base CX0 (k + 1) f fd ps sp := by
  obtain ⟨oc, od, kV, doc, pm, an, cdv, ct, osl, rfl, lk, hcd⟩ := F.ex
  refine fn_of lk hcd S len fun A outer s H vs Q E hr hsp => ?_
  obtain ⟨t, h, q⟩ := hbody cdv A outer s H vs Q E hr hsp
  exact ⟨t, h.nox, q⟩
/-- how its arguments bind (no defaults): h is «fun _ _ _ _ _ _ us hl => match us, hl with | [_, _], _ => rfl», one _ a parameter -/
theorem Fun.binds {x qual : Str} {st : Stmt} {f : Addr} {fd : FuncData} {ps : List Str} (F : Fun K x qual st f fd)
    (h : ∀ (kV doc pm : Value) (an : Option Addr) (cdv ct : Value) (us : List Value), us.length = ps.length → bindArgs (PySem.W.fnOf x qual (defArgs st) (defBody st) (defScope st) .none kV doc pm an cdv ct) ⟨us, []⟩ = pure (ps.zip us)) : Binds K fd ps [] := by
  obtain ⟨oc, od, kV, doc, pm, an, cdv, ct, osl, rfl, lk, hcd⟩ := F.ex
  exact .all (h kV doc pm an cdv ct)
theorem fun_mk {x qual : Str} {st : Stmt} {f : Addr} {oc : Value} {od an : Option Addr} {osl : Array (Option Value)} {kV doc pm cdv ct : Value} (l : K.lookup f = some ⟨oc, od, .func (PySem.W.fnOf x qual (defArgs st) (defBody st) (defScope st) .none kV doc pm an cdv ct), osl⟩)
    (c : PySem.W.codeIn K cdv qual = true) (k : PySem.W.keepIn K (.ref f) = true) : Fun K x qual st f (PySem.W.fnOf x qual (defArgs st) (defBody st) (defScope st) .none kV doc pm an cdv ct) := ⟨⟨oc, od, kV, doc, pm, an, cdv, ct, osl, rfl, l, c⟩, k⟩
end
theorem hu_of {A : Around} {k : Nat} (hr : Room k A) : A.units + 1 < cLine := Nat.lt_of_le_of_lt (Nat.add_le_add_left (by decide : 1 ≤ 64) _) hr.units
theorem small1000 {n : Nat} (h : n ≤ 1000) : n < sizeLine := Nat.lt_of_le_of_lt h (by decide)

/-! ### expressions in short: the name that stands in the i-th slot -/
section
variable {X : Cx}
theorem pv (i : Nat) {x : Str} {pos : Pos} (hN : X.N[i]? = some x := by rfl) (hv : Vis X.env.scope x := by first | exact Or.inl rfl | exact Or.inr (Or.inl rfl) | exact Or.inr (Or.inr rfl)) (hd : (x == ("__debug__" : Str)) = false := by decide)
    (hcd : (x == ("__classdict__" : Str)) = false := by decide) : PE X (.Name x pos) (tVar i) := pe_var hN hv hd hcd
end

/-! ### tests -/
theorem iteF {A B : Prop} (h : B) : if false = true then A else B := by
  rw [if_neg Bool.false_ne_true]
  exact h
theorem iteT {A B : Prop} (h : A) : if true = true then A else B := by
  rw [if_pos rfl]
  exact h
theorem ite2 {c A B : Prop} [Decidable c] (h1 : c → A) (h2 : ¬ c → B) : if c then A else B := by
  by_cases h : c
  · rw [if_pos h]
    exact h1 h
  · rw [if_neg h]
    exact h2 h
theorem iteNS {c A B : Prop} [Decidable c] (hc : c) (h : B) : if (!decide c) = true then A else B := by
  rw [decide_eq_true hc]
  exact iteF h

/-! ### heaps -/
/-- all that was tracked is as it was -/
def Same (H H' : Hp) : Prop := ∀ b o, H b = some o → H' b = some o
theorem Same.refl (H : Hp) : Same H H := fun _ _ h => h
theorem Same.trans {H H1 H2 : Hp} (a : Same H H1) (b : Same H1 H2) : Same H H2 := fun c o h => b c o (a c o h)
theorem Same.free {H H' : Hp} (e : Same H H') {l : Addr} (h : H' l = Option.none) : H l = Option.none := by
  cases q : H l with
  | none => rfl
  | some o =>
    rw [e l o q] at h
    cases h
theorem Same.seq {K : PySem.W.Frag} {H H' : Hp} {a : Addr} {xs : List V} (e : Same H H') (h : SqL K H a xs) : SqL K H' a xs := by
  rcases h with (h | ⟨o, h⟩) | h
  · exact .inl (.inl (e _ _ h))
  · exact .inl (.inr ⟨o, e _ _ h⟩)
  · exact .inr h

end L2

namespace L2
open PySem PySem.Spec PyProof.Rows
section
variable {X : Cx}
/-- len of a dict -/
theorem call_lenD : CallR X (.builtin "len") (fun xs H Q => ∃ a kvs, xs = [V.ref a] ∧ H a = some (.dK kvs) ∧ Q (.int kvs.length) H) := by
  intro pins s σ H xs us Q I r h
  obtain ⟨a, kvs, rfl, ha, q⟩ := h
  obtain ⟨u, rfl, ru⟩ := vals1 r
  cases ru
  exact d_len I (.inl ha) fun t s' I' => ⟨.int kvs.length, H, I', ⟨t, rfl⟩, q⟩
end
/-! ### a dict's pairs: keys that differ -/
section
variable {κ : Type} [DecidableEq κ]
theorem valV_not {kvs : List (κ × V)} {k : κ} (h : valV kvs k = none) : ¬ k ∈ kvs.map (·.1) := by
  intro m
  obtain ⟨p, hp, e⟩ := List.mem_map.mp m
  have q : (kvs.any fun kv => decide (kv.1 = k)) = true := List.any_eq_true.mpr ⟨p, hp, decide_eq_true e⟩
  rw [valV_any, h] at q
  exact absurd q (by simp)
theorem valV_in {kvs : List (κ × V)} {k : κ} {v : V} (h : valV kvs k = some v) : k ∈ kvs.map (·.1) := by
  have q : (kvs.any fun kv => decide (kv.1 = k)) = true := by
    rw [valV_any, h]
    all_goals rfl
  obtain ⟨p, hp, e⟩ := List.any_eq_true.mp q
  exact List.mem_map.mpr ⟨p, hp, of_decide_eq_true e⟩
theorem nd_snoc : ∀ {l : List κ} {k : κ}, l.Nodup → ¬ k ∈ l → (l ++ [k]).Nodup
  | [], k, _, _ => by simp
  | a :: r, k, h, hk => by
    obtain ⟨h1, h2⟩ := List.nodup_cons.mp h
    show (a :: (r ++ [k])).Nodup
    refine List.nodup_cons.mpr ⟨fun m => ?_, nd_snoc h2 fun m => hk (List.mem_cons.mpr (Or.inr m))⟩
    rcases List.mem_append.mp m with q | q
    · exact h1 q
    · exact hk (List.mem_cons.mpr (Or.inl (List.mem_singleton.mp q).symm))
theorem nd_putK {kvs : List (κ × V)} {k : κ} (v : V) (hn : (kvs.map (·.1)).Nodup) (h : valV kvs k = none) : ((putK kvs k v).map (·.1)).Nodup := by
  rw [putK_new v h, List.map_append]
  exact nd_snoc hn (valV_not h)
theorem dropK_pos {p : κ × V} {r : List (κ × V)} {k : κ} (e : p.1 = k) : dropK (p :: r) k = dropK r k := by
  unfold dropK
  rw [List.filter_cons, if_neg (by simp [e])]
theorem dropK_neg {p : κ × V} {r : List (κ × V)} {k : κ} (e : ¬ p.1 = k) : dropK (p :: r) k = p :: dropK r k := by
  unfold dropK
  rw [List.filter_cons, if_pos (by simp [e])]
theorem dropK_no : ∀ {kvs : List (κ × V)} {k : κ}, ¬ k ∈ kvs.map (·.1) → dropK kvs k = kvs
  | [], _, _ => rfl
  | p :: r, k, h => by
    have h' : ¬ k ∈ r.map (·.1) := fun m => by
      obtain ⟨q, hq, e⟩ := List.mem_map.mp m
      exact h (List.mem_map.mpr ⟨q, List.mem_cons.mpr (Or.inr hq), e⟩)
    rw [dropK_neg fun e => h (List.mem_map.mpr ⟨p, List.mem_cons.mpr (Or.inl rfl), e⟩), dropK_no h']
theorem dropK_mem {kvs : List (κ × V)} {k : κ} {p : κ × V} (h : p ∈ dropK kvs k) : p ∈ kvs := (List.mem_filter.mp h).1
theorem nd_dropK : ∀ {kvs : List (κ × V)} {k : κ}, (kvs.map (·.1)).Nodup → ((dropK kvs k).map (·.1)).Nodup
  | [], _, _ => List.nodup_nil
  | p :: r, k, h => by
    have h : (p.1 :: r.map (·.1)).Nodup := h
    obtain ⟨h1, h2⟩ := List.nodup_cons.mp h
    by_cases e : p.1 = k
    · rw [dropK_pos e]
      exact nd_dropK h2
    · rw [dropK_neg e]
      show (p.1 :: (dropK r k).map (·.1)).Nodup
      refine List.nodup_cons.mpr ⟨fun m => h1 ?_, nd_dropK h2⟩
      obtain ⟨q, hq, eq⟩ := List.mem_map.mp m
      exact List.mem_map.mpr ⟨q, dropK_mem hq, eq⟩
theorem dropK_len : ∀ {kvs : List (κ × V)} {k : κ}, (kvs.map (·.1)).Nodup → k ∈ kvs.map (·.1) → (dropK kvs k).length + 1 = kvs.length
  | [], _, _, m => by simp at m
  | p :: r, k, h, m => by
    have h : (p.1 :: r.map (·.1)).Nodup := h
    have m : k = p.1 ∨ k ∈ r.map (·.1) := List.mem_cons.mp m
    obtain ⟨h1, h2⟩ := List.nodup_cons.mp h
    by_cases e : p.1 = k
    · subst e
      rw [dropK_pos rfl, dropK_no h1]
      all_goals rfl
    · have m' : k ∈ r.map (·.1) := m.resolve_left fun z => e z.symm
      have q := dropK_len h2 m'
      rw [dropK_neg e, List.length_cons, List.length_cons]
      omega
end
end L2


set_option maxHeartbeats 4000000

namespace DL
open PySem PySem.Spec PyProof.Rows L2

/-! ### data without the heap -/
inductive D where
  | non | bl (b : Bool) | int (i : Int) | str (x : Str) | tup (ds : List D) | lst (ds : List D)

/-- an exception: its class's name, its fields -/
structure XV where
  cls : Str
  ns : List Str
  ds : List D

inductive M (α : Type) where
  | ok (a : α) | ex (x : XV) | bad
def M.bind {α β : Type} (r : M α) (k : α → M β) : M β := match r with
  | .ok a => k a
  | .ex x => .ex x
  | .bad => .bad
@[simp] theorem M.bind_ok {α β : Type} (a : α) (k : α → M β) : (M.ok a).bind k = k a := rfl
@[simp] theorem M.bind_ex {α β : Type} (x : XV) (k : α → M β) : (M.ex x : M α).bind k = .ex x := rfl
@[simp] theorem M.bind_bad {α β : Type} (k : α → M β) : (M.bad : M α).bind k = .bad := rfl

/-- a slot: data that stays; a list, a dict (keys: tuples of ints and texts; ints and texts) of our own that may still change -/
inductive S where
  | im (d : D) | ow (ds : List D) | od (kvs : List (List Key × D)) | dk (kvs : List (Key × D)) | xc (x : XV)
def S.own : S → Bool
  | .im _ => false
  | .xc _ => false
  | _ => true
abbrev DSt := List (Option S)

section
variable (K : PySem.W.Frag) (H : Hp)
mutual
def Rep : D → V → Prop
  | .non, v => v = .non
  | .bl b, v => v = .bl b
  | .int i, v => v = .int i
  | .str x, v => v = .str x
  | .tup ds, v => ∃ a xs, v = .ref a ∧ H a = some (.tup xs) ∧ Reps ds xs
  | .lst ds, v => ∃ a xs, v = .ref a ∧ SqL K H a xs ∧ Reps ds xs
def Reps : List D → List V → Prop
  | [], xs => xs = []
  | d :: ds, xs => ∃ x r, xs = x :: r ∧ Rep d x ∧ Reps ds r
end
end

/-- a dict's pairs -/
def RepKV (K : PySem.W.Frag) (H : Hp) {κ : Type} : List (κ × D) → List (κ × V) → Prop := Paired fun p q => p.1 = q.1 ∧ Rep K H p.2 q.2
/-- what is owned stands at p -/
def S.at (K : PySem.W.Frag) (Hf H : Hp) (p : Addr) : S → Prop
  | .im _ => False
  | .xc _ => False
  | .ow ds => ∃ xs, H p = some (.lst xs) ∧ Reps K Hf ds xs
  | .od kvs => ∃ ys, H p = some (.dT ys) ∧ RepKV K Hf kvs ys
  | .dk kvs => ∃ ys, H p = some (.dK ys) ∧ RepKV K Hf kvs ys
theorem _root_.L2.Same.seqT {K : PySem.W.Frag} {H H' : Hp} {a : Addr} {xs : List V} (e : Same H H') (h : SqT K H a xs) : SqT K H' a xs := by
  rcases h with (h | ⟨o, h⟩) | h
  · exact .inl (.inl (e _ _ h))
  · exact .inl (.inr ⟨o, e _ _ h⟩)
  · exact .inr h

section
variable {K : PySem.W.Frag} {H H' : Hp}
mutual
theorem Rep.mono (e : Same H H') : ∀ {d : D} {v : V}, Rep K H d v → Rep K H' d v
  | .non, _, h => by unfold Rep at h ⊢; exact h
  | .bl _, _, h => by unfold Rep at h ⊢; exact h
  | .int _, _, h => by unfold Rep at h ⊢; exact h
  | .str _, _, h => by unfold Rep at h ⊢; exact h
  | .tup ds, _, h => by
    unfold Rep at h ⊢
    obtain ⟨a, xs, e1, e2, e3⟩ := h
    exact ⟨a, xs, e1, e _ _ e2, Reps.mono e e3⟩
  | .lst ds, _, h => by
    unfold Rep at h ⊢
    obtain ⟨a, xs, e1, e2, e3⟩ := h
    exact ⟨a, xs, e1, e.seq e2, Reps.mono e e3⟩
theorem Reps.mono (e : Same H H') : ∀ {ds : List D} {xs : List V}, Reps K H ds xs → Reps K H' ds xs
  | [], _, h => by unfold Reps at h ⊢; exact h
  | d :: ds, _, h => by
    unfold Reps at h ⊢
    obtain ⟨x, r, e1, e2, e3⟩ := h
    exact ⟨x, r, e1, Rep.mono e e2, Reps.mono e e3⟩
end
theorem rep_non {v : V} : Rep K H .non v ↔ v = .non := by unfold Rep; exact Iff.rfl
theorem rep_bl {b : Bool} {v : V} : Rep K H (.bl b) v ↔ v = .bl b := by unfold Rep; exact Iff.rfl
theorem rep_int {i : Int} {v : V} : Rep K H (.int i) v ↔ v = .int i := by unfold Rep; exact Iff.rfl
theorem rep_str {x : Str} {v : V} : Rep K H (.str x) v ↔ v = .str x := by unfold Rep; exact Iff.rfl
theorem rep_tup {ds : List D} {v : V} : Rep K H (.tup ds) v ↔ ∃ a xs, v = .ref a ∧ H a = some (.tup xs) ∧ Reps K H ds xs := by rw [Rep]
theorem rep_tupQ {ds : List D} {v : V} (h : Rep K H (.tup ds) v) : ∃ a xs, v = .ref a ∧ SqT K H a xs ∧ Reps K H ds xs := by
  obtain ⟨a, xs, e1, e2, e3⟩ := rep_tup.mp h
  exact ⟨a, xs, e1, SqT.of e2, e3⟩
theorem rep_lst {ds : List D} {v : V} : Rep K H (.lst ds) v ↔ ∃ a xs, v = .ref a ∧ SqL K H a xs ∧ Reps K H ds xs := by rw [Rep]
theorem reps_nil {xs : List V} : Reps K H [] xs ↔ xs = [] := by rw [Reps]
theorem reps_cons {d : D} {ds : List D} {xs : List V} : Reps K H (d :: ds) xs ↔ ∃ x r, xs = x :: r ∧ Rep K H d x ∧ Reps K H ds r := by rw [Reps]
theorem Reps.nil : Reps K H [] [] := reps_nil.mpr rfl
theorem Reps.cons {d : D} {ds : List D} {x : V} {xs : List V} (h : Rep K H d x) (t : Reps K H ds xs) : Reps K H (d :: ds) (x :: xs) := reps_cons.mpr ⟨x, xs, rfl, h, t⟩
theorem Reps.length : ∀ {ds : List D} {xs : List V}, Reps K H ds xs → ds.length = xs.length
  | [], _, h => by rw [reps_nil.mp h]; rfl
  | d :: ds, _, h => by
    obtain ⟨x, r, rfl, _, t⟩ := reps_cons.mp h
    rw [List.length_cons, List.length_cons, Reps.length t]
theorem Reps.get : ∀ {ds : List D} {xs : List V} {i : Nat} {d : D}, Reps K H ds xs → ds[i]? = some d → ∃ x, xs[i]? = some x ∧ Rep K H d x
  | [], _, _, _, _, e => by simp at e
  | _ :: ds, _, 0, _, h, e => by
    obtain ⟨x, r, rfl, q, t⟩ := reps_cons.mp h
    simp at e; subst e; exact ⟨x, rfl, q⟩
  | _ :: ds, _, i + 1, _, h, e => by
    obtain ⟨x, r, rfl, q, t⟩ := reps_cons.mp h
    obtain ⟨y, e1, e2⟩ := Reps.get (i := i) t (by simpa using e)
    exact ⟨y, by simpa using e1, e2⟩
theorem Reps.append : ∀ {ds es : List D} {xs ys : List V}, Reps K H ds xs → Reps K H es ys → Reps K H (ds ++ es) (xs ++ ys)
  | [], _, _, _, h, t => by rw [reps_nil.mp h]; exact t
  | _ :: ds, _, _, _, h, t => by
    obtain ⟨x, r, rfl, q, u⟩ := reps_cons.mp h
    exact .cons q (Reps.append u t)
theorem Reps.take : ∀ {ds : List D} {xs : List V} (n : Nat), Reps K H ds xs → Reps K H (ds.take n) (xs.take n)
  | _, _, 0, _ => by simpa using Reps.nil
  | [], _, n + 1, h => by rw [reps_nil.mp h]; simpa using Reps.nil
  | _ :: ds, _, n + 1, h => by
    obtain ⟨x, r, rfl, q, u⟩ := reps_cons.mp h
    exact .cons q (Reps.take n u)
theorem Reps.drop : ∀ {ds : List D} {xs : List V} (n : Nat), Reps K H ds xs → Reps K H (ds.drop n) (xs.drop n)
  | _, _, 0, h => by simpa using h
  | [], _, n + 1, h => by rw [reps_nil.mp h]; simpa using Reps.nil
  | _ :: ds, _, n + 1, h => by
    obtain ⟨x, r, rfl, q, u⟩ := reps_cons.mp h
    exact Reps.drop n u
theorem Reps.none_of {ds : List D} {xs : List V} {i : Nat} (h : Reps K H ds xs) (e : ds[i]? = none) : xs[i]? = none := by
  have := h.length
  rw [List.getElem?_eq_none_iff] at e ⊢
  omega
end

theorem RepKV.mono {K : PySem.W.Frag} {H H' : Hp} (e : Same H H') {κ : Type} {a : List (κ × D)} {b : List (κ × V)} (r : RepKV K H a b) : RepKV K H' a b := Paired.mapP r fun _ _ q => ⟨q.1, q.2.mono e⟩
theorem at_some {K : PySem.W.Frag} {Hf H : Hp} {p : Addr} {s : S} (h : S.at K Hf H p s) : ∃ o, H p = some o := by
  cases s with
  | im d => exact h.elim
  | xc x => exact h.elim
  | ow ds => obtain ⟨xs, e, _⟩ := h; exact ⟨_, e⟩
  | od kvs => obtain ⟨ys, e, _⟩ := h; exact ⟨_, e⟩
  | dk kvs => obtain ⟨ys, e, _⟩ := h; exact ⟨_, e⟩
theorem at_move {K : PySem.W.Frag} {Hf Hf' H H' : Hp} {p : Addr} {s : S} (h : S.at K Hf H p s) (e : Same Hf Hf') (q : ∀ o, H p = some o → H' p = some o) : S.at K Hf' H' p s := by
  cases s with
  | im d => exact h.elim
  | xc x => exact h.elim
  | ow ds => obtain ⟨xs, e1, e2⟩ := h; exact ⟨xs, q _ e1, e2.mono e⟩
  | od kvs => obtain ⟨ys, e1, e2⟩ := h; exact ⟨ys, q _ e1, e2.mono e⟩
  | dk kvs => obtain ⟨ys, e1, e2⟩ := h; exact ⟨ys, q _ e1, e2.mono e⟩

/-- an exception that was caught: its class, its dict -/
def XO (a : Addr) (C : Addr) (dx : Option Addr) : HO := .ext fun h => ∃ oe vs, h.get? a = some oe ∧ oe.cls = .ref C ∧ oe.dict = dx ∧ oe.data = .fields vs
/-- its fields -/
def XF (Hf : Hp) (ns : List Str) (xs : List V) : Option Addr → Prop
  | none => ns = [] ∧ xs = []
  | some dx => Hf dx = some (.xd (ns.zip xs)) ∧ ns.length = xs.length
theorem XF.mono {H H' : Hp} (e : Same H H') {ns : List Str} {xs : List V} : ∀ {dx : Option Addr}, XF H ns xs dx → XF H' ns xs dx
  | none, h => h
  | some _, h => ⟨e _ _ h.1, h.2⟩
def RepE (K : PySem.W.Frag) (Hf : Hp) (x : XV) (v : V) : Prop :=
  ∃ a C dx xs, v = .ref a ∧ Hf a = some (XO a C dx) ∧ PySem.W.nsIn K mainGlobals x.cls = some (some (.ref C)) ∧ XF Hf x.ns xs dx ∧ Reps K Hf x.ds xs
theorem RepE.mono {K : PySem.W.Frag} {H H' : Hp} (e : Same H H') {x : XV} {v : V} (h : RepE K H x v) : RepE K H' x v := by
  obtain ⟨a, C, dx, xs, e1, e2, e3, e4, e5⟩ := h
  exact ⟨a, C, dx, xs, e1, e _ _ e2, e3, e4.mono e, e5.mono e⟩
/-- what a slot that stays holds -/
def RepS (K : PySem.W.Frag) (Hf : Hp) : S → V → Prop
  | .im d, v => Rep K Hf d v
  | .xc x, v => RepE K Hf x v
  | _, _ => True
theorem RepS.mono {K : PySem.W.Frag} {H H' : Hp} (e : Same H H') {t : S} {v : V} (h : RepS K H t v) : RepS K H' t v := by
  cases t with
  | im d => exact Rep.mono e h
  | xc x => exact RepE.mono e h
  | _ => trivial

/-! ### the heap grows: what is frozen stays frozen, what is there stays, what others own does not freeze -/
structure Gr (Hf H Hf' H' : Hp) : Prop where
  fz : Same Hf Hf'
  sub : Same Hf' H'
  all : Same H H'
  ban : ∀ a, H a ≠ none → Hf a = none → Hf' a = none
theorem Gr.refl {Hf H : Hp} (h : Same Hf H) : Gr Hf H Hf H := ⟨Same.refl _, h, Same.refl _, fun _ _ e => e⟩
theorem _root_.L2.Same.ne {H H' : Hp} (e : Same H H') {a : Addr} (h : H a ≠ none) : H' a ≠ none := by
  cases q : H a with
  | none => exact absurd q h
  | some o => rw [e a o q]; simp
theorem Gr.trans {Hf H Hf1 H1 Hf2 H2 : Hp} (a : Gr Hf H Hf1 H1) (b : Gr Hf1 H1 Hf2 H2) : Gr Hf H Hf2 H2 :=
  ⟨a.fz.trans b.fz, b.sub, a.all.trans b.all, fun c h e => b.ban c (a.all.ne h) (a.ban c h e)⟩
theorem same_upd {H : Hp} {p : Addr} (h : H p = none) (o : HO) : Same H (upd H p o) := fun b u q => by rw [upd_ne (ne_of_none q h)]; exact q
theorem _root_.L2.Same.upd {Hf H : Hp} (e : Same Hf H) (p : Addr) (o : HO) : Same (L2.upd Hf p o) (L2.upd H p o) := fun b u q => by
  by_cases hb : b = p
  · subst hb; rw [upd_same] at q ⊢; exact q
  · rw [upd_ne hb] at q ⊢; exact e b u q
theorem Gr.alloc {Hf H : Hp} (e : Same Hf H) {p : Addr} (h : H p = none) (o : HO) : Gr Hf H (upd Hf p o) (upd H p o) :=
  ⟨same_upd (e.free h) o, Same.upd e p o, same_upd h o, fun a ha ea => by
    have : a ≠ p := fun z => ha (z ▸ h)
    rw [upd_ne this]; exact ea⟩

/-! ### the state of a def's body -/
structure SR (K : PySem.W.Frag) (H0 : Hp) (B : Addr → Prop) (Hf : Hp) (sd : DSt) (σ : L2.St) (H : Hp) : Prop where
  sub : Same Hf H
  all : Same H0 H
  ban : ∀ a, B a → Hf a = none
  bt : ∀ a, B a → H0 a ≠ none
  len : sd.length = σ.length
  imS : ∀ (i : Nat) (t : S), sd[i]? = some (some t) → t.own = false → ∃ v, σ[i]? = some (some v) ∧ RepS K Hf t v
  ow : ∀ (i : Nat) (t : S), sd[i]? = some (some t) → t.own = true → ∃ p, σ[i]? = some (some (.ref p)) ∧ H0 p = none ∧ Hf p = none ∧ S.at K Hf H p t
  sep : ∀ (i j : Nat) (t u : S) (p : Addr), i ≠ j → sd[i]? = some (some t) → t.own = true → sd[j]? = some (some u) → u.own = true → σ[i]? = some (some (.ref p)) → σ[j]? = some (some (.ref p)) → False

section
variable {K : PySem.W.Frag} {H0 Hf Hf' H H' : Hp} {B : Addr → Prop} {sd : DSt} {σ : L2.St}
theorem SR.im (r : SR K H0 B Hf sd σ H) : ∀ (i : Nat) (d : D), sd[i]? = some (some (.im d)) → ∃ v, σ[i]? = some (some v) ∧ Rep K Hf d v := fun i _ e => r.imS i _ e rfl
theorem SR.gr (r : SR K H0 B Hf sd σ H) (g : Gr Hf H Hf' H') : SR K H0 B Hf' sd σ H' where
  sub := g.sub
  all := r.all.trans g.all
  ban := fun a h => g.ban a (r.all.ne (r.bt a h)) (r.ban a h)
  bt := r.bt
  len := r.len
  imS := fun i d e z => let ⟨v, e1, e2⟩ := r.imS i d e z; ⟨v, e1, e2.mono g.fz⟩
  ow := fun i t e ho => by
    obtain ⟨p, e1, e2, e3, e4⟩ := r.ow i t e ho
    obtain ⟨o, eo⟩ := at_some e4
    exact ⟨p, e1, e2, g.ban p (by rw [eo]; simp) e3, at_move e4 g.fz fun o h => g.all _ _ h⟩
  sep := r.sep
theorem SR.set_st (r : SR K H0 B Hf sd σ H) (i : Nat) {d : S} {v : V} (hd : d.own = false) (h : RepS K Hf d v) : SR K H0 B Hf (sd.set i (some d)) (σ.set i (some v)) H where
  sub := r.sub
  all := r.all
  ban := r.ban
  bt := r.bt
  len := by rw [List.length_set, List.length_set]; exact r.len
  imS := fun j d' e z => by
    by_cases hj : i = j
    · subst hj
      have hi : i < sd.length := by
        have := (List.getElem?_eq_some_iff.mp e).1; simpa using this
      rw [List.getElem?_set_self hi] at e
      cases e
      exact ⟨v, by rw [List.getElem?_set_self (by rw [← r.len]; exact hi)], h⟩
    · rw [List.getElem?_set_ne hj] at e ⊢
      exact r.imS j d' e z
  ow := fun j t e ho => by
    by_cases hj : i = j
    · subst hj
      have hi : i < sd.length := by
        have := (List.getElem?_eq_some_iff.mp e).1; simpa using this
      rw [List.getElem?_set_self hi] at e
      cases e
      rw [hd] at ho; cases ho
    · rw [List.getElem?_set_ne hj] at e ⊢
      exact r.ow j t e ho
  sep := fun j k t u p hjk e1 o1 e2 o2 e3 e4 => by
    have ne : ∀ {l : Nat} {fs : S}, (sd.set i (some d))[l]? = some (some fs) → fs.own = true → i ≠ l := fun {l fs} e o z => by
      subst z
      have hi : i < sd.length := by
        have := (List.getElem?_eq_some_iff.mp e).1; simpa using this
      rw [List.getElem?_set_self hi] at e
      cases e
      rw [hd] at o; cases o
    have n1 := ne e1 o1
    have n2 := ne e2 o2
    rw [List.getElem?_set_ne n1] at e1 e3
    rw [List.getElem?_set_ne n2] at e2 e4
    exact r.sep j k t u p hjk e1 o1 e2 o2 e3 e4
theorem SR.set_im (r : SR K H0 B Hf sd σ H) (i : Nat) {d : D} {v : V} (h : Rep K Hf d v) : SR K H0 B Hf (sd.set i (some (.im d))) (σ.set i (some v)) H := r.set_st (d := .im d) i rfl h
theorem SR.set_own (r : SR K H0 B Hf sd σ H) (i : Nat) {p : Addr} {o : HO} {t : S} (hp : H p = none) (ho : t.own = true) (h : S.at K Hf (upd H p o) p t) : SR K H0 B Hf (sd.set i (some t)) (σ.set i (some (.ref p))) (upd H p o) where
  sub := r.sub.trans (same_upd hp _)
  all := r.all.trans (same_upd hp _)
  ban := r.ban
  bt := r.bt
  len := by rw [List.length_set, List.length_set]; exact r.len
  imS := fun j d' e z => by
    by_cases hj : i = j
    · subst hj
      have hi : i < sd.length := by
        have := (List.getElem?_eq_some_iff.mp e).1; simpa using this
      rw [List.getElem?_set_self hi] at e
      cases e
      rw [ho] at z; cases z
    · rw [List.getElem?_set_ne hj] at e ⊢
      exact r.imS j d' e z
  ow := fun j u e hu => by
    by_cases hj : i = j
    · subst hj
      have hi : i < sd.length := by
        have := (List.getElem?_eq_some_iff.mp e).1; simpa using this
      rw [List.getElem?_set_self hi] at e
      cases e
      exact ⟨p, by rw [List.getElem?_set_self (by rw [← r.len]; exact hi)], r.all.free hp, r.sub.free hp, h⟩
    · rw [List.getElem?_set_ne hj] at e ⊢
      obtain ⟨q, e1, e2, e3, e4⟩ := r.ow j u e hu
      exact ⟨q, e1, e2, e3, at_move e4 (Same.refl _) fun o h => same_upd hp _ _ _ h⟩
  sep := fun j k u w q hjk e1 o1 e2 o2 e3 e4 => by
    have new : ∀ {l : Nat}, i = l → (σ.set i (some (V.ref p)))[l]? = some (some (.ref q)) → q = p := fun {l} z e => by
      subst z
      have hi : i < σ.length := by
        have := (List.getElem?_eq_some_iff.mp e).1; simpa using this
      rw [List.getElem?_set_self hi] at e
      cases e; rfl
    have old : ∀ {l : Nat} {u : S}, i ≠ l → (sd.set i (some t))[l]? = some (some u) → u.own = true → (σ.set i (some (V.ref p)))[l]? = some (some (.ref q)) → q ≠ p := fun {l u} n e ou z => by
      rw [List.getElem?_set_ne n] at e z
      obtain ⟨q', e1, _, _, e4⟩ := r.ow l u e ou
      rw [z] at e1
      cases e1
      obtain ⟨o, eo⟩ := at_some e4
      exact ne_of_none eo hp
    by_cases n1 : i = j
    · have n2 : i ≠ k := fun z => hjk (n1.symm.trans z)
      exact old n2 e2 o2 e4 (new n1 e3)
    · by_cases n2 : i = k
      · exact old n1 e1 o1 e3 (new n2 e4)
      · rw [List.getElem?_set_ne n1] at e1 e3
        rw [List.getElem?_set_ne n2] at e2 e4
        exact r.sep j k u w q hjk e1 o1 e2 o2 e3 e4
/-- what slot i owns is changed -/
theorem SR.change (r : SR K H0 B Hf sd σ H) {i : Nat} {p : Addr} {o : HO} {t u : S} (ht : sd[i]? = some (some t)) (ot : t.own = true) (hi : σ[i]? = some (some (.ref p))) (ou : u.own = true) (h : S.at K Hf (upd H p o) p u) : SR K H0 B Hf (sd.set i (some u)) σ (upd H p o) := by
  obtain ⟨p', z1, z2, z3, z4⟩ := r.ow i t ht ot
  rw [hi] at z1
  cases z1
  have hl : i < sd.length := (List.getElem?_eq_some_iff.mp ht).1
  have back : ∀ {j : Nat} {w : S}, i ≠ j → (sd.set i (some u))[j]? = some (some w) → sd[j]? = some (some w) := fun {j w} n e => by rwa [List.getElem?_set_ne n] at e
  refine ⟨fun b v q => ?_, fun b v q => ?_, r.ban, r.bt, by rw [List.length_set]; exact r.len, fun j d e z => ?_, fun j w e ow => ?_, fun j k w x q hjk e1 o1 e2 o2 e3 e4 => ?_⟩
  · rw [upd_ne (ne_of_none q z3)]; exact r.sub b v q
  · rw [upd_ne (ne_of_none q z2)]; exact r.all b v q
  · by_cases n : i = j
    · subst n
      rw [List.getElem?_set_self hl] at e
      cases e
      rw [ou] at z; cases z
    · exact r.imS j d (back n e) z
  · by_cases n : i = j
    · subst n
      rw [List.getElem?_set_self hl] at e
      cases e
      exact ⟨p, hi, z2, z3, h⟩
    · obtain ⟨q, e1, e2, e3, e4⟩ := r.ow j w (back n e) ow
      refine ⟨q, e1, e2, e3, at_move e4 (Same.refl _) fun o' h' => ?_⟩
      have : q ≠ p := fun z => by
        subst z
        exact r.sep i j t w q n ht ot (back n e) ow hi e1
      rw [upd_ne this]; exact h'
  · have get : ∀ {l : Nat} {w : S}, (sd.set i (some u))[l]? = some (some w) → w.own = true → ∃ w', sd[l]? = some (some w') ∧ w'.own = true := fun {l w} e ow => by
      by_cases n : i = l
      · subst n; exact ⟨t, ht, ot⟩
      · exact ⟨w, back n e, ow⟩
    obtain ⟨w', a1, a2⟩ := get e1 o1
    obtain ⟨x', b1, b2⟩ := get e2 o2
    exact r.sep j k w' x' q hjk a1 a2 b1 b2 e3 e4
/-- what slot i owns is frozen -/
theorem SR.freeze (r : SR K H0 B Hf sd σ H) {i : Nat} {ds : List D} (ht : sd[i]? = some (some (.ow ds))) : ∃ Hf', Same Hf Hf' ∧ SR K H0 B Hf' (sd.set i (some (.im (.lst ds)))) σ H := by
  obtain ⟨p, z1, z2, z3, xs, z4, z5⟩ := r.ow i _ ht rfl
  have hl : i < sd.length := (List.getElem?_eq_some_iff.mp ht).1
  have back : ∀ {j : Nat} {w : S}, i ≠ j → (sd.set i (some (S.im (.lst ds))))[j]? = some (some w) → sd[j]? = some (some w) := fun {j w} n e => by rwa [List.getElem?_set_ne n] at e
  have sm := same_upd z3 (.lst xs)
  refine ⟨upd Hf p (.lst xs), sm, fun b v q => ?_, r.all, fun a h => ?_, r.bt, by rw [List.length_set]; exact r.len, fun j d e z => ?_, fun j w e ow => ?_, fun j k w x q hjk e1 o1 e2 o2 e3 e4 => ?_⟩
  · by_cases hb : b = p
    · subst hb; rw [upd_same] at q; rw [z4]; exact q
    · rw [upd_ne hb] at q; exact r.sub b v q
  · have : a ≠ p := fun z => r.bt a h (z ▸ z2)
    rw [upd_ne this]; exact r.ban a h
  · by_cases n : i = j
    · subst n
      rw [List.getElem?_set_self hl] at e
      cases e
      exact ⟨_, z1, (rep_lst.mpr ⟨p, xs, rfl, SqL.of upd_same, z5.mono sm⟩ : Rep K _ (.lst ds) _)⟩
    · obtain ⟨v, e1, e2⟩ := r.imS j d (back n e) z
      exact ⟨v, e1, e2.mono sm⟩
  · by_cases n : i = j
    · subst n
      rw [List.getElem?_set_self hl] at e
      cases e
      cases ow
    · obtain ⟨q, e1, e2, e3, e4⟩ := r.ow j w (back n e) ow
      refine ⟨q, e1, e2, ?_, at_move e4 sm fun o' h' => h'⟩
      have : q ≠ p := fun z => by
        subst z
        exact r.sep i j _ w q n ht rfl (back n e) ow z1 e1
      rw [upd_ne this]; exact e3
  · have ne : ∀ {l : Nat} {w : S}, (sd.set i (some (S.im (.lst ds))))[l]? = some (some w) → w.own = true → i ≠ l := fun {l w} e o z => by
      subst z
      rw [List.getElem?_set_self hl] at e
      cases e
      cases o
    exact r.sep j k w x q hjk (back (ne e1 o1) e1) o1 (back (ne e2 o2) e2) o2 e3 e4
end

/-! ### exceptions (how one lies: later) -/
def RepX (K : PySem.W.Frag) (Hf _H : Hp) (x : XV) (c : Value) (dx : Option Addr) : Prop :=
  ∃ C xs, c = .ref C ∧ PySem.W.nsIn K mainGlobals x.cls = some (some (.ref C)) ∧ XF Hf x.ns xs dx ∧ Reps K Hf x.ds xs

/-! ### what is wanted of a result -/
def Po (K : PySem.W.Frag) (E : XK) {α β : Type} (R : Hp → Hp → α → β → Prop) (Hf H : Hp) (r : M α) (Q : β → Hp → Prop) : Prop := match r with
  | .ok a => ∀ b Hf' H', Gr Hf H Hf' H' → R Hf' H' a b → Q b H'
  | .ex x => ∀ c dx Hf' H', Gr Hf H Hf' H' → RepX K Hf' H' x c dx → E c dx H'
  | .bad => False
def rV (K : PySem.W.Frag) (Hf _H : Hp) (d : D) (v : V) : Prop := Rep K Hf d v
def rA (K : PySem.W.Frag) (Hf _H : Hp) (ds : List D) (vs : List V) : Prop := Reps K Hf ds vs
def rQ {α : Type} (_Hf _H : Hp) (a b : α) : Prop := a = b

section
variable {K : PySem.W.Frag} {E : XK} {α β γ δ : Type} {R : Hp → Hp → α → β → Prop} {T : Hp → Hp → γ → δ → Prop} {Hf H Hf1 H1 : Hp}
theorem Po.weak {r : M α} {Q : β → Hp → Prop} (g : Gr Hf H Hf1 H1) (h : Po K E R Hf H r Q) : Po K E R Hf1 H1 r Q := by
  cases r with
  | ok a => exact fun b Hf' H' g' q => h b Hf' H' (g.trans g') q
  | ex x => exact fun c dx Hf' H' g' q => h c dx Hf' H' (g.trans g') q
  | bad => exact h
theorem Po.bind {r : M α} {k : α → M γ} {Q : δ → Hp → Prop} {Q1 : β → Hp → Prop} (h : Po K E T Hf H (r.bind k) Q)
    (s : ∀ a b Hf1 H1, r = .ok a → Gr Hf H Hf1 H1 → R Hf1 H1 a b → Po K E T Hf1 H1 (k a) Q → Q1 b H1) : Po K E R Hf H r Q1 := by
  cases r with
  | ok a => exact fun b Hf' H' g q => s a b Hf' H' rfl g q (Po.weak g h)
  | ex x => exact h
  | bad => exact h
theorem Po.ret {a : α} {b : β} {Q : β → Hp → Prop} (e : Same Hf H) (h : Po K E R Hf H (.ok a) Q) (q : R Hf H a b) : Q b H := h b Hf H (Gr.refl e) q
end

/-! ### the judgements -/
def PEd (X : Cx) (E : XK) (e : Expr) (f : DSt → M D) : Prop :=
  ∃ t : TE, PE X e t ∧ ∀ (H0 : Hp) (B : Addr → Prop) (Hf : Hp) (sd : DSt) (σ : L2.St) (H : Hp) (Q : VK), SR X.K H0 B Hf sd σ H → Po X.K E (rV X.K) Hf H (f sd) Q → t σ H Q
def PAd (X : Cx) (E : XK) (es : List Expr) (f : DSt → M (List D)) : Prop :=
  ∃ t : TA, PA X es t ∧ ∀ (H0 : Hp) (B : Addr → Prop) (Hf : Hp) (sd : DSt) (σ : L2.St) (H : Hp) (Q : List V → Hp → Prop), SR X.K H0 B Hf sd σ H → Po X.K E (rA X.K) Hf H (f sd) Q → t σ H Q
def PTd (X : Cx) (E : XK) (e : Expr) (f : DSt → M Bool) : Prop :=
  ∃ t : TT, PT X e t ∧ ∀ (H0 : Hp) (B : Addr → Prop) (Hf : Hp) (sd : DSt) (σ : L2.St) (H : Hp) (Q : Bool → Hp → Prop), SR X.K H0 B Hf sd σ H → Po X.K E rQ Hf H (f sd) Q → t σ H Q
def PWd (X : Cx) (E : XK) (e : Expr) (f : DSt → M Bool) : Prop :=
  ∃ t : TT, PW X e t ∧ ∀ (H0 : Hp) (B : Addr → Prop) (Hf : Hp) (sd : DSt) (σ : L2.St) (H : Hp) (Q : Bool → Hp → Prop), SR X.K H0 B Hf sd σ H → Po X.K E rQ Hf H (f sd) Q → t σ H Q
def POd (X : Cx) (E : XK) (e : Option Expr) (f : DSt → M (Option Int)) : Prop :=
  ∃ t : TO, PO X e t ∧ ∀ (H0 : Hp) (B : Addr → Prop) (Hf : Hp) (sd : DSt) (σ : L2.St) (H : Hp) (Q : Option Int → Hp → Prop), SR X.K H0 B Hf sd σ H → Po X.K E rQ Hf H (f sd) Q → t σ H Q

/-- behind a statement -/
inductive O where
  | nx (sd : DSt) | rt (s : S) | bk (sd : DSt) | ct (sd : DSt)
structure Fin' (H0 : Hp) (B : Addr → Prop) (Hf H : Hp) : Prop where
  sub : Same Hf H
  all : Same H0 H
  ban : ∀ a, B a → Hf a = none
def RS (K : PySem.W.Frag) (H0 Hf H : Hp) : S → V → Prop
  | .im d, v => Rep K Hf d v
  | .xc x, v => RepE K Hf x v
  | t, v => ∃ p, v = .ref p ∧ H0 p = none ∧ Hf p = none ∧ S.at K Hf H p t
def PoS (K : PySem.W.Frag) (E : XK) (H0 : Hp) (B : Addr → Prop) (Hf : Hp) (r : M O) (D : Ends) : Prop := match r with
  | .ok (.nx sd') => ∀ σ' Hf' H', Same Hf Hf' → SR K H0 B Hf' sd' σ' H' → D.nx σ' H'
  | .ok (.bk sd') => ∀ σ' Hf' H', Same Hf Hf' → SR K H0 B Hf' sd' σ' H' → D.bk σ' H'
  | .ok (.ct sd') => ∀ σ' Hf' H', Same Hf Hf' → SR K H0 B Hf' sd' σ' H' → D.ct σ' H'
  | .ok (.rt s) => ∀ v Hf' H', Same Hf Hf' → Fin' H0 B Hf' H' → RS K H0 Hf' H' s v → D.rt v H'
  | .ex x => ∀ c dx Hf' H', Same Hf Hf' → Fin' H0 B Hf' H' → RepX K Hf' H' x c dx → E c dx H'
  | .bad => False
theorem SR.fin {K : PySem.W.Frag} {H0 Hf H : Hp} {B : Addr → Prop} {sd : DSt} {σ : L2.St} (r : SR K H0 B Hf sd σ H) : Fin' H0 B Hf H := ⟨r.sub, r.all, r.ban⟩
def PSd (X : Cx) (E : XK) (st : Stmt) (f : DSt → M O) : Prop :=
  ∃ t : TS, PS X st t ∧ ∀ (H0 : Hp) (B : Addr → Prop) (Hf : Hp) (sd : DSt) (σ : L2.St) (H : Hp) (D : Ends), SR X.K H0 B Hf sd σ H → PoS X.K E H0 B Hf (f sd) D → t D σ H
def PSsd (X : Cx) (E : XK) (st : List Stmt) (f : DSt → M O) : Prop :=
  ∃ t : TS, PSs X st t ∧ ∀ (H0 : Hp) (B : Addr → Prop) (Hf : Hp) (sd : DSt) (σ : L2.St) (H : Hp) (D : Ends), SR X.K H0 B Hf sd σ H → PoS X.K E H0 B Hf (f sd) D → t D σ H
theorem PoS.weak {K : PySem.W.Frag} {E : XK} {H0 Hf Hf1 : Hp} {B : Addr → Prop} {r : M O} {D : Ends} (g : Same Hf Hf1) (h : PoS K E H0 B Hf r D) : PoS K E H0 B Hf1 r D := by
  cases r with
  | ok o =>
    cases o with
    | nx sd => exact fun σ' Hf' H' e q => h σ' Hf' H' (g.trans e) q
    | bk sd => exact fun σ' Hf' H' e q => h σ' Hf' H' (g.trans e) q
    | ct sd => exact fun σ' Hf' H' e q => h σ' Hf' H' (g.trans e) q
    | rt s => exact fun v Hf' H' e q => h v Hf' H' (g.trans e) q
  | ex x => exact fun c dx Hf' H' e q => h c dx Hf' H' (g.trans e) q
  | bad => exact h
/-- an expression within a statement -/
theorem PoS.bind {K : PySem.W.Frag} {E : XK} {H0 Hf H : Hp} {B : Addr → Prop} {sd : DSt} {σ : L2.St} {α β : Type} {R : Hp → Hp → α → β → Prop} {r : M α} {k : α → M O} {D : Ends} {Q1 : β → Hp → Prop} (sr : SR K H0 B Hf sd σ H) (h : PoS K E H0 B Hf (r.bind k) D)
    (s : ∀ a b Hf1 H1, r = .ok a → Gr Hf H Hf1 H1 → SR K H0 B Hf1 sd σ H1 → R Hf1 H1 a b → PoS K E H0 B Hf1 (k a) D → Q1 b H1) : Po K E R Hf H r Q1 := by
  cases r with
  | ok a => exact fun b Hf' H' g q => s a b Hf' H' rfl g (sr.gr g) q (PoS.weak g.fz h)
  | ex x => exact fun c dx Hf' H' g q => h c dx Hf' H' g.fz (sr.gr g).fin q
  | bad => exact h

/-! ### expressions -/
section
variable {X : Cx} {E : XK} {pos : Pos} {a b : Expr}
def eVar (i : Nat) (sd : DSt) : M D := match sd[i]? with
  | some (some (.im d)) => .ok d
  | _ => .bad
theorem pd_var (i : Nat) {x : Str} (hN : X.N[i]? = some x := by rfl) (hv : Vis X.env.scope x := by first | exact Or.inl rfl | exact Or.inr (Or.inl rfl) | exact Or.inr (Or.inr rfl)) (hd : (x == ("__debug__" : Str)) = false := by decide)
    (hcd : (x == ("__classdict__" : Str)) = false := by decide) : PEd X E (.Name x pos) (eVar i) := by
  refine ⟨_, pe_var hN hv hd hcd, fun H0 B Hf sd σ H Q sr h => ?_⟩
  unfold eVar at h
  split at h
  · rename_i d e
    obtain ⟨v, e1, e2⟩ := sr.im i d e
    exact ⟨v, e1, Po.ret sr.sub h e2⟩
  · exact h.elim
def eC (d : D) (_ : DSt) : M D := .ok d
theorem pd_int {i : Int} {j} : PEd X E (.Constant (.int i) j pos) (eC (.int i)) := ⟨_, pe_int, fun _ _ _ _ _ _ _ sr h => Po.ret sr.sub h (rep_int.mpr rfl)⟩
theorem pd_bl {i : Bool} {j} : PEd X E (.Constant (.bool i) j pos) (eC (.bl i)) := ⟨_, pe_bl, fun _ _ _ _ _ _ _ sr h => Po.ret sr.sub h (rep_bl.mpr rfl)⟩
theorem pd_non {j} : PEd X E (.Constant .none j pos) (eC .non) := ⟨_, pe_non, fun _ _ _ _ _ _ _ sr h => Po.ret sr.sub h (rep_non.mpr rfl)⟩
theorem pd_str {x} {j} : PEd X E (.Constant (.str x) j pos) (eC (.str x)) := ⟨_, pe_str, fun _ _ _ _ _ _ _ sr h => Po.ret sr.sub h (rep_str.mpr rfl)⟩

/-! ### operators -/
/-- f upon data is g -/
def OpD (X : Cx) (E : XK) (f : Value → Value → Sem Value) (g : D → D → M D) : Prop :=
  ∃ r : R2, OpR X f r ∧ ∀ (Hf H : Hp) (x y : V) (dx dy : D) (Q : VK), Same Hf H → Rep X.K Hf dx x → Rep X.K Hf dy y → Po X.K E (rV X.K) Hf H (g dx dy) Q → r x y H Q
def eOp (g : D → D → M D) (fa fb : DSt → M D) (sd : DSt) : M D := (fa sd).bind fun x => (fb sd).bind fun y => g x y
theorem two {fa fb : DSt → M D} {g : D → D → M D} {ta tb : TE} {r : R2} {H0 : Hp} {B : Addr → Prop} {Hf : Hp} {sd : DSt} {σ : L2.St} {H : Hp} {Q : VK}
    (ha : ∀ (H0 : Hp) (B : Addr → Prop) (Hf : Hp) (sd : DSt) (σ : L2.St) (H : Hp) (Q : VK), SR X.K H0 B Hf sd σ H → Po X.K E (rV X.K) Hf H (fa sd) Q → ta σ H Q)
    (hb : ∀ (H0 : Hp) (B : Addr → Prop) (Hf : Hp) (sd : DSt) (σ : L2.St) (H : Hp) (Q : VK), SR X.K H0 B Hf sd σ H → Po X.K E (rV X.K) Hf H (fb sd) Q → tb σ H Q)
    (hr : ∀ (Hf H : Hp) (x y : V) (dx dy : D) (Q : VK), Same Hf H → Rep X.K Hf dx x → Rep X.K Hf dy y → Po X.K E (rV X.K) Hf H (g dx dy) Q → r x y H Q)
    (sr : SR X.K H0 B Hf sd σ H) (h : Po X.K E (rV X.K) Hf H (eOp g fa fb sd) Q) : tOp r ta tb σ H Q := by
  refine ha H0 B Hf sd σ H _ sr (Po.bind h fun dx x Hf1 H1 _ g1 rx h1 => ?_)
  have sr1 := sr.gr g1
  refine hb H0 B Hf1 sd σ H1 _ sr1 (Po.bind h1 fun dy y Hf2 H2 _ g2 ry h2 => ?_)
  exact hr Hf2 H2 x y dx dy Q g2.sub (Rep.mono g2.fz rx) ry h2
theorem pd_op {op : Operator} {g : D → D → M D} {fa fb : DSt → M D} (ho : OpD X E (binaryOp op) g) (ha : PEd X E a fa) (hb : PEd X E b fb) : PEd X E (.BinOp a op b pos) (eOp g fa fb) := by
  obtain ⟨r, hr, qr⟩ := ho
  obtain ⟨ta, pa, qa⟩ := ha
  obtain ⟨tb, pb, qb⟩ := hb
  exact ⟨_, pe_op hr pa pb, fun H0 B Hf sd σ H Q sr h => two qa qb qr sr h⟩
theorem pd_cmp {op : CmpOp} {g : D → D → M D} {fa fb : DSt → M D} (ho : OpD X E (compareOp op) g) (ha : PEd X E a fa) (hb : PEd X E b fb) (hm : behindInMarks op b = false) : PEd X E (.Compare a [op] [b] pos) (eOp g fa fb) := by
  obtain ⟨r, hr, qr⟩ := ho
  obtain ⟨ta, pa, qa⟩ := ha
  obtain ⟨tb, pb, qb⟩ := hb
  exact ⟨_, pe_cmpR hr pa pb hm, fun H0 B Hf sd σ H Q sr h => two qa qb qr sr h⟩
theorem OpD.or {f : Value → Value → Sem Value} {g g' : D → D → M D} (h : OpD X E f g) (h' : OpD X E f g') (p : D → D → Bool) : OpD X E f (fun x y => if p x y then g x y else g' x y) := by
  obtain ⟨r, hr, qr⟩ := h
  obtain ⟨r', hr', qr'⟩ := h'
  refine ⟨_, hr.or hr', fun Hf H x y dx dy Q e rx ry q => ?_⟩
  dsimp only at q
  by_cases c : p dx dy = true
  · rw [if_pos c] at q
    exact .inl (qr Hf H x y dx dy Q e rx ry q)
  · rw [if_neg c] at q
    exact .inr (qr' Hf H x y dx dy Q e rx ry q)
/-- two ints -/
def gI (c : Int → Int → Bool) (g : Int → Int → D) : D → D → M D
  | .int i, .int j => if c i j then .ok (g i j) else .bad
  | _, _ => .bad
def gI0 (g : Int → Int → D) : D → D → M D
  | .int i, .int j => .ok (g i j)
  | _, _ => .bad
theorem od_I0 {f : Value → Value → Sem Value} {gv : Int → Int → V} {gd : Int → Int → D} (h : OpR X f (rI0 gv)) (hg : ∀ i j (H : Hp), Rep X.K H (gd i j) (gv i j)) : OpD X E f (gI0 gd) := by
  refine ⟨_, h, fun Hf H x y dx dy Q e rx ry q => ?_⟩
  unfold gI0 at q
  split at q
  · rename_i i j
    exact ⟨i, j, rep_int.mp rx, rep_int.mp ry, Po.ret e q (hg i j Hf)⟩
  · exact q.elim
theorem od_I {f : Value → Value → Sem Value} {C : Int → Int → Prop} {c : Int → Int → Bool} {gv : Int → Int → V} {gd : Int → Int → D} (h : OpR X f (rI C gv)) (hc : ∀ i j, c i j = true → C i j) (hg : ∀ i j (H : Hp), Rep X.K H (gd i j) (gv i j)) : OpD X E f (gI c gd) := by
  refine ⟨_, h, fun Hf H x y dx dy Q e rx ry q => ?_⟩
  unfold gI at q
  split at q
  · rename_i i j
    split at q
    · rename_i hcc
      exact ⟨i, j, rep_int.mp rx, rep_int.mp ry, hc i j hcc, Po.ret e q (hg i j Hf)⟩
    · exact q.elim
  · exact q.elim
def gAdd : D → D → M D := gI0 fun i j => .int (i + j)
def gSub : D → D → M D := gI0 fun i j => .int (i - j)
def gLt : D → D → M D := gI0 fun i j => .bl (decide (i < j))
def gLe : D → D → M D := gI0 fun i j => .bl (decide (i ≤ j))
def gGt : D → D → M D := gI0 fun i j => .bl (decide (j < i))
def gGe : D → D → M D := gI0 fun i j => .bl (decide (j ≤ i))
theorem od_add : OpD X E (binaryOp .Add) gAdd := od_I0 op_add fun _ _ _ => rep_int.mpr rfl
theorem od_sub : OpD X E (binaryOp .Sub) gSub := od_I0 op_sub fun _ _ _ => rep_int.mpr rfl
theorem od_lt : OpD X E (compareOp .Lt) gLt := od_I0 op_lt fun _ _ _ => rep_bl.mpr rfl
theorem od_le : OpD X E (compareOp .LtE) gLe := od_I0 op_le fun _ _ _ => rep_bl.mpr rfl
theorem od_gt : OpD X E (compareOp .Gt) gGt := od_I0 op_gt fun _ _ _ => rep_bl.mpr rfl
theorem od_ge : OpD X E (compareOp .GtE) gGe := od_I0 op_ge fun _ _ _ => rep_bl.mpr rfl
end
end DL

set_option maxHeartbeats 4000000

namespace DL
open PySem PySem.Spec PyProof.Rows L2

/-! ### big ints -/
section
variable {X : Cx} {E : XK} {pos : Pos} {a b : Expr}
theorem bits_of {i : Int} (h : i.natAbs < 2 ^ 4000) : Builtin.Int.intBits i ≤ 2 ^ 20 := by
  unfold Builtin.Int.intBits
  split
  · exact Nat.zero_le _
  · rename_i hz
    have hn : i.natAbs ≠ 0 := fun z => hz (by rw [Int.natAbs_eq_zero.mp z]; rfl)
    have : i.natAbs.log2 < 4000 := (Nat.log2_lt hn).mpr h
    have e : (2 : Nat) ^ 20 = 1048576 := rfl
    omega
def CBig (i j : Int) : Prop := i.natAbs < 2 ^ 4000 ∧ j.natAbs < 2 ^ 4000
def CNz (_i j : Int) : Prop := j ≠ 0 ∧ j.natAbs < 2 ^ 4000
theorem log_of {j : Int} (h : j.natAbs < 2 ^ 4000) : j.natAbs.log2 < 9000 := by
  by_cases hn : j.natAbs = 0
  · rw [hn]; decide
  · have : j.natAbs.log2 < 4000 := (Nat.log2_lt hn).mpr h
    omega
theorem op_mulB : OpR X (binaryOp .Mult) (rI CBig fun i j => .int (i * j)) := opI fun _ _ _ _ _ _ _ hc q => mul_int q (IntMulOk.of_bits (bits_of hc.1) (bits_of hc.2))
theorem op_fdivB : OpR X (binaryOp .FloorDiv) (rI CNz fun i j => .int (i.fdiv j)) := opI fun _ _ _ _ _ _ _ hc q => floordiv_int hc.1 q (.inl (PyProof.noPylong_of_log2 (log_of hc.2)))
def sm (i : Int) : Bool := decide (i.natAbs < 2 ^ 4000)
theorem sm_iff {i : Int} : sm i = true ↔ i.natAbs < 2 ^ 4000 := decide_eq_true_iff
def gMul : D → D → M D := gI (fun i j => sm i && sm j) fun i j => .int (i * j)
def gFdiv : D → D → M D := gI (fun _ j => j != 0 && sm j) fun i j => .int (i.fdiv j)
def gMod : D → D → M D := gI (fun _ j => j != 0) fun i j => .int (i.fmod j)
def gPow : D → D → M D := gI (fun i j => decide (0 ≤ j ∧ j ≤ 1000 ∧ i.natAbs < 1000)) fun i j => .int (i ^ j.toNat)
theorem od_mul : OpD X E (binaryOp .Mult) gMul := od_I op_mulB (fun i j h => by
  rw [Bool.and_eq_true] at h
  exact ⟨sm_iff.mp h.1, sm_iff.mp h.2⟩) fun _ _ _ => rep_int.mpr rfl
theorem od_fdiv : OpD X E (binaryOp .FloorDiv) gFdiv := od_I op_fdivB (fun i j h => by
  rw [Bool.and_eq_true] at h
  exact ⟨by simpa using h.1, sm_iff.mp h.2⟩) fun _ _ _ => rep_int.mpr rfl
theorem od_mod : OpD X E (binaryOp .Mod) gMod := od_I op_modN (fun i j h => by simpa using h) fun _ _ _ => rep_int.mpr rfl
theorem od_pow : OpD X E (binaryOp .Pow) gPow := od_I op_pow (fun i j h => by
  have h := of_decide_eq_true h
  refine ⟨h.1, by omega, ?_⟩
  have e : (2 : Nat) ^ 64 = 18446744073709551616 := rfl
  omega) fun _ _ _ => rep_int.mpr rfl

/-! ### sequences of data -/
theorem atI_rep {K : PySem.W.Frag} {H : Hp} {ds : List D} {xs : List V} {i : Int} {d : D} (r : Reps K H ds xs) (e : atI ds i = some d) : ∃ x, atI xs i = some x ∧ Rep K H d x := by
  unfold atI at e ⊢
  rw [← r.length]
  cases q : ixN ds.length i with
  | none => rw [q] at e; cases e
  | some j =>
    rw [q] at e
    exact r.get e
def gIx : D → D → M D
  | .lst ds, .int i => match atI ds i with
    | some d => .ok d
    | none => .bad
  | .tup ds, .int i => match atI ds i with
    | some d => .ok d
    | none => .bad
  | .str z, .int i => if z.length ≤ sizeLine then (match atI z.cps.toList i with
    | some c => .ok (.str ⟨#[c]⟩)
    | none => .bad) else .bad
  | _, _ => .bad
theorem pd_ix {fa fb : DSt → M D} (ha : PEd X E a fa) (hb : PEd X E b fb) (hs : PlainIx b) : PEd X E (.Subscript a b pos) (eOp gIx fa fb) := by
  obtain ⟨ta, pa, qa⟩ := ha
  obtain ⟨tb, pb, qb⟩ := hb
  refine ⟨_, pe_ix ix_seq pa pb hs, fun H0 B Hf sd σ H Q sr h => two qa qb (fun Hf H x y dx dy Q e rx ry q => ?_) sr h⟩
  unfold gIx at q
  split at q
  · rename_i ds i
    split at q
    · rename_i d ei
      obtain ⟨p, xs, rfl, hp, hr⟩ := rep_lst.mp rx
      obtain ⟨v, e1, e2⟩ := atI_rep hr ei
      exact .inl ⟨p, xs, i, v, rfl, rep_int.mp ry, e.seq hp, e1, Po.ret e q e2⟩
    · exact q.elim
  · rename_i ds i
    split at q
    · rename_i d ei
      obtain ⟨p, xs, rfl, hp, hr⟩ := rep_tupQ rx
      obtain ⟨v, e1, e2⟩ := atI_rep hr ei
      exact .inr (.inl ⟨p, xs, i, v, rfl, rep_int.mp ry, Same.seqT e hp, e1, Po.ret e q e2⟩)
    · exact q.elim
  · rename_i z i
    split at q
    · rename_i hz
      split at q
      · rename_i c ei
        exact .inr (.inr ⟨z, i, c, rep_str.mp rx, rep_int.mp ry, hz, ei, Po.ret e q (rep_str.mpr rfl)⟩)
      · exact q.elim
    · exact q.elim
  · exact q.elim

/-! ### argument lists, displays -/
def aNil (_ : DSt) : M (List D) := .ok []
def aCons (fa : DSt → M D) (fr : DSt → M (List D)) (sd : DSt) : M (List D) := (fa sd).bind fun d => (fr sd).bind fun ds => .ok (d :: ds)
theorem pad_nil : PAd X E [] aNil := ⟨_, pa_nil, fun _ _ _ _ _ _ _ sr h => Po.ret sr.sub h Reps.nil⟩
theorem pad_cons {es : List Expr} {fa : DSt → M D} {fr : DSt → M (List D)} (ha : PEd X E a fa) (hr : PAd X E es fr) (hs : starEach (a :: es) X.env = (false, eval a X.env) :: starEach es X.env := by rfl) : PAd X E (a :: es) (aCons fa fr) := by
  obtain ⟨ta, pa, qa⟩ := ha
  obtain ⟨tr, pr, qr⟩ := hr
  refine ⟨_, pa_cons pa pr hs, fun H0 B Hf sd σ H Q sr h => ?_⟩
  refine qa H0 B Hf sd σ H _ sr (Po.bind h fun d v Hf1 H1 _ g1 rv h1 => ?_)
  refine qr H0 B Hf1 sd σ H1 _ (sr.gr g1) (Po.bind h1 fun ds vs Hf2 H2 _ g2 rs h2 => ?_)
  exact Po.ret g2.sub h2 (Reps.cons (Rep.mono g2.fz rv) rs)
def few (ds : List D) : Bool := decide (ds.length ≤ 1000000)
theorem few_line {K : PySem.W.Frag} {H : Hp} {ds : List D} {xs : List V} (h : few ds = true) (r : Reps K H ds xs) : xs.length ≤ sizeLine := by
  have := of_decide_eq_true h
  have e := sizeLine_eq
  rw [← r.length, e]
  omega
def eTup (fs : DSt → M (List D)) (sd : DSt) : M D := (fs sd).bind fun ds => if few ds then .ok (.tup ds) else .bad
def eLst (fs : DSt → M (List D)) (sd : DSt) : M D := (fs sd).bind fun ds => if few ds then .ok (.lst ds) else .bad
theorem Gr.tup {K : PySem.W.Frag} {Hf H : Hp} {p : Addr} {ds : List D} {xs : List V} (e : Same Hf H) (hp : H p = none) (r : Reps K Hf ds xs) : Rep K (upd Hf p (.tup xs)) (.tup ds) (.ref p) :=
  rep_tup.mpr ⟨p, xs, rfl, upd_same, r.mono (same_upd (e.free hp) _)⟩
theorem Gr.lst {K : PySem.W.Frag} {Hf H : Hp} {p : Addr} {ds : List D} {xs : List V} (e : Same Hf H) (hp : H p = none) (r : Reps K Hf ds xs) : Rep K (upd Hf p (.lst xs)) (.lst ds) (.ref p) :=
  rep_lst.mpr ⟨p, xs, rfl, SqL.of upd_same, r.mono (same_upd (e.free hp) _)⟩
theorem pd_tup {es : List Expr} {fs : DSt → M (List D)} {x1} (h : PAd X E es fs) : PEd X E (.Tuple es x1 pos) (eTup fs) := by
  obtain ⟨t, p, q⟩ := h
  refine ⟨_, pe_tup p, fun H0 B Hf sd σ H Q sr h => ?_⟩
  refine q H0 B Hf sd σ H _ sr (Po.bind h fun ds vs Hf1 H1 _ g1 rs h1 => ?_)
  split at h1
  · rename_i hf
    exact ⟨few_line hf rs, fun p hp => h1 _ _ _ (Gr.alloc g1.sub hp _) (Gr.tup g1.sub hp rs)⟩
  · exact h1.elim
theorem pd_lst {es : List Expr} {fs : DSt → M (List D)} (h : PAd X E es fs) : PEd X E (.List es pos) (eLst fs) := by
  obtain ⟨t, p, q⟩ := h
  refine ⟨_, pe_lst p, fun H0 B Hf sd σ H Q sr h => ?_⟩
  refine q H0 B Hf sd σ H _ sr (Po.bind h fun ds vs Hf1 H1 _ g1 rs h1 => ?_)
  split at h1
  · rename_i hf
    exact ⟨few_line hf rs, fun p hp => h1 _ _ _ (Gr.alloc g1.sub hp _) (Gr.lst g1.sub hp rs)⟩
  · exact h1.elim

/-! ### builtin functions upon data -/
def CallD (X : Cx) (E : XK) (f : Value) (g : List D → M D) : Prop :=
  ∃ r, CallR X f r ∧ ∀ (Hf H : Hp) (xs : List V) (ds : List D) (Q : VK), Same Hf H → Reps X.K Hf ds xs → Po X.K E (rV X.K) Hf H (g ds) Q → r xs H Q
def eCB (g : List D → M D) (fs : DSt → M (List D)) (sd : DSt) : M D := (fs sd).bind g
theorem pd_callB {x : Str} {id : String} {p : Pos} {g : List D → M D} {e : Expr} {es : List Expr} {fs : DSt → M (List D)} (hc : CallD X E (.builtin id) g) (hg : Gl X x) (hm : X.mg x = none) (hv : bootBuiltins x = some (.builtin id)) (ha : PAd X E (e :: es) fs)
    (hn : x ≠ "__name__" := by decide) (hdb : (x == ("__debug__" : Str)) = false := by decide)
    (he : starEach (e :: es) X.env = (false, eval e X.env) :: starEach es X.env := by rfl) (hpl : (backTo pos (starEach es X.env)).any (·.1) = false := by rfl) : PEd X E (.Call (.Name x p) (e :: es) [] pos) (eCB g fs) := by
  obtain ⟨r, hr, qr⟩ := hc
  obtain ⟨t, pt, qt⟩ := ha
  refine ⟨_, pe_callB hr hg hm hv pt hn hdb he hpl, fun H0 B Hf sd σ H Q sr h => ?_⟩
  exact qt H0 B Hf sd σ H _ sr (Po.bind h fun ds vs Hf1 H1 _ g1 rs h1 => qr Hf1 H1 vs ds Q g1.sub rs h1)
theorem pd_callT {x : Str} {T : String} {p : Pos} {g : List D → M D} {e : Expr} {es : List Expr} {fs : DSt → M (List D)} (hc : CallD X E (.type T) g) (hg : Gl X x) (hm : X.mg x = none) (hv : bootBuiltins x = some (.type T)) (ha : PAd X E (e :: es) fs)
    (hn : x ≠ "__name__" := by decide) (hdb : (x == ("__debug__" : Str)) = false := by decide)
    (he : starEach (e :: es) X.env = (false, eval e X.env) :: starEach es X.env := by rfl) (hpl : (backTo pos (starEach es X.env)).any (·.1) = false := by rfl) : PEd X E (.Call (.Name x p) (e :: es) [] pos) (eCB g fs) := by
  obtain ⟨r, hr, qr⟩ := hc
  obtain ⟨t, pt, qt⟩ := ha
  refine ⟨_, pe_callTy hr hg hm hv pt hn hdb he hpl, fun H0 B Hf sd σ H Q sr h => ?_⟩
  exact qt H0 B Hf sd σ H _ sr (Po.bind h fun ds vs Hf1 H1 _ g1 rs h1 => qr Hf1 H1 vs ds Q g1.sub rs h1)
theorem reps1 {K : PySem.W.Frag} {H : Hp} {d : D} {xs : List V} (r : Reps K H [d] xs) : ∃ x, xs = [x] ∧ Rep K H d x := by
  obtain ⟨x, t, rfl, h, r2⟩ := reps_cons.mp r
  rw [reps_nil.mp r2]; exact ⟨x, rfl, h⟩
theorem reps2 {K : PySem.W.Frag} {H : Hp} {d e : D} {xs : List V} (r : Reps K H [d, e] xs) : ∃ x y, xs = [x, y] ∧ Rep K H d x ∧ Rep K H e y := by
  obtain ⟨x, t, rfl, h, r2⟩ := reps_cons.mp r
  obtain ⟨y, rfl, h2⟩ := reps1 r2
  exact ⟨x, y, rfl, h, h2⟩
def bAbs : List D → M D
  | [.int i] => .ok (.int (if i < 0 then -i else i))
  | _ => .bad
theorem cd_abs : CallD X E (.builtin "abs") bAbs := by
  refine ⟨_, call_abs, fun Hf H xs ds Q e r q => ?_⟩
  unfold bAbs at q
  split at q
  · obtain ⟨x, rfl, h⟩ := reps1 r
    rw [rep_int.mp h]
    exact ⟨_, rfl, Po.ret e q (rep_int.mpr rfl)⟩
  · exact q.elim
def bInt : List D → M D
  | [.int i] => .ok (.int i)
  | [.bl b] => .ok (.int (if b then 1 else 0))
  | _ => .bad
theorem cd_int : CallD X E (.type "int") bInt := by
  refine ⟨_, call_int1, fun Hf H xs ds Q e r q => ?_⟩
  unfold bInt at q
  split at q
  · obtain ⟨x, rfl, h⟩ := reps1 r
    rw [rep_int.mp h]
    exact .inl ⟨_, rfl, Po.ret e q (rep_int.mpr rfl)⟩
  · obtain ⟨x, rfl, h⟩ := reps1 r
    rw [rep_bl.mp h]
    exact .inr ⟨_, rfl, Po.ret e q (rep_int.mpr rfl)⟩
  · exact q.elim
def bLen : List D → M D
  | [.lst ds] => .ok (.int ds.length)
  | [.tup ds] => .ok (.int ds.length)
  | [.str z] => if z.length ≤ sizeLine then .ok (.int z.length) else .bad
  | _ => .bad
theorem cd_len : CallD X E (.builtin "len") bLen := by
  refine ⟨_, call_len_seq.or call_len_str, fun Hf H xs ds Q e r q => ?_⟩
  unfold bLen at q
  split at q
  · obtain ⟨x, rfl, h⟩ := reps1 r
    obtain ⟨p, ys, rfl, hp, hr⟩ := rep_lst.mp h
    refine .inl ⟨p, ys, rfl, .inl (e.seq hp), ?_⟩
    rw [← hr.length]
    exact Po.ret e q (rep_int.mpr rfl)
  · obtain ⟨x, rfl, h⟩ := reps1 r
    obtain ⟨p, ys, rfl, hp, hr⟩ := rep_tupQ h
    refine .inl ⟨p, ys, rfl, .inr (Same.seqT e hp), ?_⟩
    rw [← hr.length]
    exact Po.ret e q (rep_int.mpr rfl)
  · split at q
    · rename_i hz
      obtain ⟨x, rfl, h⟩ := reps1 r
      rw [rep_str.mp h]
      exact .inr ⟨_, rfl, hz, Po.ret e q (rep_int.mpr rfl)⟩
    · exact q.elim
  · exact q.elim
def bList : List D → M D
  | [.lst ds] => .ok (.lst ds)
  | [.tup ds] => .ok (.lst ds)
  | _ => .bad
theorem cd_list : CallD X E (.type "list") bList := by
  refine ⟨_, call_list_of, fun Hf H xs ds Q e r q => ?_⟩
  unfold bList at q
  split at q
  · obtain ⟨x, rfl, h⟩ := reps1 r
    obtain ⟨p, ys, rfl, hp, hr⟩ := rep_lst.mp h
    exact ⟨p, ys, rfl, .inl (e.seq hp), fun l hl => q _ _ _ (Gr.alloc e hl _) (Gr.lst e hl hr)⟩
  · obtain ⟨x, rfl, h⟩ := reps1 r
    obtain ⟨p, ys, rfl, hp, hr⟩ := rep_tupQ h
    exact ⟨p, ys, rfl, .inr (Same.seqT e hp), fun l hl => q _ _ _ (Gr.alloc e hl _) (Gr.lst e hl hr)⟩
  · exact q.elim
def bTuple : List D → M D
  | [.lst ds] => .ok (.tup ds)
  | [.tup ds] => .ok (.tup ds)
  | _ => .bad
theorem cd_tuple : CallD X E (.type "tuple") bTuple := by
  refine ⟨_, call_tuple_of, fun Hf H xs ds Q e r q => ?_⟩
  unfold bTuple at q
  split at q
  · obtain ⟨x, rfl, h⟩ := reps1 r
    obtain ⟨p, ys, rfl, hp, hr⟩ := rep_lst.mp h
    exact ⟨p, ys, rfl, .inl ⟨e.seq hp, fun l hl => q _ _ _ (Gr.alloc e hl _) (Gr.tup e hl hr)⟩⟩
  · obtain ⟨x, rfl, h⟩ := reps1 r
    obtain ⟨p, ys, rfl, hp, hr⟩ := rep_tupQ h
    exact ⟨p, ys, rfl, .inr ⟨Same.seqT e hp, Po.ret e q (h)⟩⟩
  · exact q.elim

/-! ### tests -/
def asB : D → M Bool
  | .bl b => .ok b
  | _ => .bad
def tB (f : DSt → M D) (sd : DSt) : M Bool := (f sd).bind asB
def tN (f : DSt → M Bool) (sd : DSt) : M Bool := (f sd).bind fun b => .ok (!b)
def tA (f g : DSt → M Bool) (sd : DSt) : M Bool := (f sd).bind fun b => if b then g sd else .ok false
def tO (f g : DSt → M Bool) (sd : DSt) : M Bool := (f sd).bind fun b => if b then .ok true else g sd
theorem ptd_val {e : Expr} {f : DSt → M D} (h : PEd X E e f) (he : ∀ whole, isTrue e X.env whole = (do let v ← whole; standAt e.pos; holding [v] (truthy v)) := by intro _; rfl) : PTd X E e (tB f) := by
  obtain ⟨t, p, q⟩ := h
  refine ⟨_, pt_val p he, fun H0 B Hf sd σ H Q sr h => ?_⟩
  refine q H0 B Hf sd σ H _ sr (Po.bind h fun d v Hf1 H1 _ g1 rv h1 => ?_)
  unfold asB at h1
  split at h1
  · exact ⟨_, rep_bl.mp rv, Po.ret (R := rQ) g1.sub h1 rfl⟩
  · exact h1.elim
theorem ptd_cmp {op : CmpOp} {g : D → D → M D} {fa fb : DSt → M D} (ho : OpD X E (compareOp op) g) (ha : PEd X E a fa) (hb : PEd X E b fb) (hm : behindInMarks op b = false) : PTd X E (.Compare a [op] [b] pos) (tB (eOp g fa fb)) := by
  obtain ⟨r, hr, qr⟩ := ho
  obtain ⟨ta, pa, qa⟩ := ha
  obtain ⟨tb, pb, qb⟩ := hb
  refine ⟨_, pt_cmpR hr pa pb hm, fun H0 B Hf sd σ H Q sr h => ?_⟩
  refine two qa qb qr sr (Po.bind h fun d v Hf1 H1 _ g1 rv h1 => ?_)
  unfold asB at h1
  split at h1
  · exact ⟨_, rep_bl.mp rv, Po.ret (R := rQ) g1.sub h1 rfl⟩
  · exact h1.elim
theorem ptd_not {f : DSt → M Bool} (h : PTd X E a f) : PTd X E (.UnaryOp .Not a pos) (tN f) := by
  obtain ⟨t, p, q⟩ := h
  refine ⟨_, pt_not p, fun H0 B Hf sd σ H Q sr h => ?_⟩
  refine q H0 B Hf sd σ H _ sr (Po.bind h fun b v Hf1 H1 _ g1 rv h1 => ?_)
  have e : b = v := rv
  subst e
  exact Po.ret (R := rQ) g1.sub h1 rfl
theorem PWd.pt {f : DSt → M Bool} {e : Expr} (h : PWd X E e f) : PTd X E e f := by
  obtain ⟨t, p, q⟩ := h
  exact ⟨t, p.pt, q⟩
theorem pwd_and1 {f : DSt → M Bool} (h : PTd X E a f) : PWd X E (.BoolOp .And [a] pos) f := by
  obtain ⟨t, p, q⟩ := h
  exact ⟨t, pw_and1 p, q⟩
theorem pwd_or1 {f : DSt → M Bool} (h : PTd X E a f) : PWd X E (.BoolOp .Or [a] pos) f := by
  obtain ⟨t, p, q⟩ := h
  exact ⟨t, pw_or1 p, q⟩
theorem pwd_and {rest : List Expr} {f g : DSt → M Bool} (h : PTd X E a f) (h2 : PWd X E (.BoolOp .And (b :: rest) pos) g) : PWd X E (.BoolOp .And (a :: b :: rest) pos) (tA f g) := by
  obtain ⟨t, p, q⟩ := h
  obtain ⟨t2, p2, q2⟩ := h2
  refine ⟨_, pw_and p p2, fun H0 B Hf sd σ H Q sr h => ?_⟩
  refine q H0 B Hf sd σ H _ sr (Po.bind h fun b v Hf1 H1 _ g1 rv h1 => ?_)
  have e : b = v := rv
  subst e
  cases b with
  | true => rw [if_pos rfl] at h1 ⊢; exact q2 H0 B Hf1 sd σ H1 Q (sr.gr g1) h1
  | false => rw [if_neg Bool.false_ne_true] at h1 ⊢; exact Po.ret (R := rQ) g1.sub h1 rfl
theorem pwd_or {rest : List Expr} {f g : DSt → M Bool} (h : PTd X E a f) (h2 : PWd X E (.BoolOp .Or (b :: rest) pos) g) : PWd X E (.BoolOp .Or (a :: b :: rest) pos) (tO f g) := by
  obtain ⟨t, p, q⟩ := h
  obtain ⟨t2, p2, q2⟩ := h2
  refine ⟨_, pw_or p p2, fun H0 B Hf sd σ H Q sr h => ?_⟩
  refine q H0 B Hf sd σ H _ sr (Po.bind h fun b v Hf1 H1 _ g1 rv h1 => ?_)
  have e : b = v := rv
  subst e
  cases b with
  | true => rw [if_pos rfl] at h1 ⊢; exact Po.ret (R := rQ) g1.sub h1 rfl
  | false => rw [if_neg Bool.false_ne_true] at h1 ⊢; exact q2 H0 B Hf1 sd σ H1 Q (sr.gr g1) h1
/-! values: and, or, not, x if c else y -/
def eAnd (f g : DSt → M D) (sd : DSt) : M D := (f sd).bind fun d => (asB d).bind fun b => if b then g sd else .ok (.bl false)
def eOr (f g : DSt → M D) (sd : DSt) : M D := (f sd).bind fun d => (asB d).bind fun b => if b then .ok (.bl true) else g sd
def eNot (f : DSt → M D) (sd : DSt) : M D := (f sd).bind fun d => (asB d).bind fun b => .ok (.bl (!b))
def eIf (c : DSt → M Bool) (f g : DSt → M D) (sd : DSt) : M D := (c sd).bind fun b => if b then f sd else g sd
theorem pd_one {op} {f : DSt → M D} (h : PEd X E a f) : PEd X E (.BoolOp op [a] pos) f := by
  obtain ⟨t, p, q⟩ := h
  exact ⟨t, pe_one p, q⟩
theorem asB_ok {d : D} {b : Bool} (h : asB d = .ok b) : d = .bl b := by
  unfold asB at h
  split at h
  · cases h; rfl
  · cases h
theorem asB_noex {d : D} {x : XV} (h : asB d = .ex x) : False := by
  unfold asB at h
  split at h <;> cases h
theorem Po.asB {K : PySem.W.Frag} {α β : Type} {R : Hp → Hp → α → β → Prop} {Hf H : Hp} {d : D} {k : Bool → M α} {Q : β → Hp → Prop} (h : Po K E R Hf H ((asB d).bind k) Q) : ∃ b, d = .bl b ∧ Po K E R Hf H (k b) Q := by
  cases q : DL.asB d with
  | ok b => rw [q] at h; exact ⟨b, asB_ok q, h⟩
  | ex x => exact (asB_noex q).elim
  | bad => rw [q] at h; exact h.elim
theorem pd_and {rest : List Expr} {f g : DSt → M D} (h : PEd X E a f) (h2 : PEd X E (.BoolOp .And (b :: rest) pos) g) : PEd X E (.BoolOp .And (a :: b :: rest) pos) (eAnd f g) := by
  obtain ⟨t, p, q⟩ := h
  obtain ⟨t2, p2, q2⟩ := h2
  refine ⟨_, pe_and p p2, fun H0 B Hf sd σ H Q sr h => ?_⟩
  refine q H0 B Hf sd σ H _ sr (Po.bind h fun d v Hf1 H1 _ g1 rv h1 => ?_)
  obtain ⟨c, rfl, h2⟩ := Po.asB h1
  refine ⟨c, rep_bl.mp rv, ?_⟩
  cases c with
  | true => rw [if_pos rfl] at h2 ⊢; exact q2 H0 B Hf1 sd σ H1 Q (sr.gr g1) h2
  | false => rw [if_neg Bool.false_ne_true] at h2 ⊢; exact Po.ret (R := rV X.K) g1.sub h2 (rep_bl.mpr rfl)
theorem pd_or {rest : List Expr} {f g : DSt → M D} (h : PEd X E a f) (h2 : PEd X E (.BoolOp .Or (b :: rest) pos) g) : PEd X E (.BoolOp .Or (a :: b :: rest) pos) (eOr f g) := by
  obtain ⟨t, p, q⟩ := h
  obtain ⟨t2, p2, q2⟩ := h2
  refine ⟨_, pe_or p p2, fun H0 B Hf sd σ H Q sr h => ?_⟩
  refine q H0 B Hf sd σ H _ sr (Po.bind h fun d v Hf1 H1 _ g1 rv h1 => ?_)
  obtain ⟨c, rfl, h2⟩ := Po.asB h1
  refine ⟨c, rep_bl.mp rv, ?_⟩
  cases c with
  | true => rw [if_pos rfl] at h2 ⊢; exact Po.ret (R := rV X.K) g1.sub h2 (rep_bl.mpr rfl)
  | false => rw [if_neg Bool.false_ne_true] at h2 ⊢; exact q2 H0 B Hf1 sd σ H1 Q (sr.gr g1) h2
theorem pd_not {f : DSt → M D} (h : PEd X E a f) : PEd X E (.UnaryOp .Not a pos) (eNot f) := by
  obtain ⟨t, p, q⟩ := h
  refine ⟨_, pe_not p, fun H0 B Hf sd σ H Q sr h => ?_⟩
  refine q H0 B Hf sd σ H _ sr (Po.bind h fun d v Hf1 H1 _ g1 rv h1 => ?_)
  obtain ⟨c, rfl, h2⟩ := Po.asB h1
  exact ⟨c, rep_bl.mp rv, Po.ret (R := rV X.K) g1.sub h2 (rep_bl.mpr rfl)⟩
theorem pd_ifexp {c : Expr} {f g : DSt → M D} {k : DSt → M Bool} (hc : PTd X E c k) (h : PEd X E a f) (h2 : PEd X E b g) : PEd X E (.IfExp c a b pos) (eIf k f g) := by
  obtain ⟨t, p, q⟩ := hc
  obtain ⟨t1, p1, q1⟩ := h
  obtain ⟨t2, p2, q2⟩ := h2
  refine ⟨_, pe_ifExp p p1 p2, fun H0 B Hf sd σ H Q sr h => ?_⟩
  refine q H0 B Hf sd σ H _ sr (Po.bind h fun c v Hf1 H1 _ g1 rv h1 => ?_)
  have e : c = v := rv
  subst e
  cases c with
  | true => rw [if_pos rfl] at h1 ⊢; exact q1 H0 B Hf1 sd σ H1 Q (sr.gr g1) h1
  | false => rw [if_neg Bool.false_ne_true] at h1 ⊢; exact q2 H0 B Hf1 sd σ H1 Q (sr.gr g1) h1
end

/-! ### statements -/
section
variable {X : Cx} {E : XK} {pos : Pos} {a b : Expr}
def sNil (sd : DSt) : M O := .ok (.nx sd)
def sSeq (f g : DSt → M O) (sd : DSt) : M O := (f sd).bind fun o => match o with
  | .nx sd' => g sd'
  | o => .ok o
theorem psd_nil : PSsd X E [] sNil := ⟨_, pss_nil, fun _ _ Hf _ _ _ _ sr h => h _ Hf _ (Same.refl _) sr⟩
theorem psd_one {st : Stmt} {f : DSt → M O} (h : PSd X E st f) : PSsd X E [st] f := by
  obtain ⟨t, p, q⟩ := h
  exact ⟨t, pss_one p, q⟩
theorem psd_cons {st : Stmt} {rest : List Stmt} {f g : DSt → M O} (h : PSd X E st f) (h2 : PSsd X E rest g) : PSsd X E (st :: rest) (sSeq f g) := by
  obtain ⟨t, p, q⟩ := h
  obtain ⟨t2, p2, q2⟩ := h2
  refine ⟨_, pss_cons p p2, fun H0 B Hf sd σ H D sr h => ?_⟩
  refine q H0 B Hf sd σ H _ sr ?_
  unfold sSeq at h
  cases e : f sd with
  | ok o =>
    rw [e] at h
    cases o with
    | nx sd' => exact fun σ' Hf' H' e' sr' => q2 H0 B Hf' sd' σ' H' D sr' (PoS.weak e' h)
    | rt s => exact h
    | bk sd' => exact h
    | ct sd' => exact h
  | ex x => rw [e] at h; exact h
  | bad => rw [e] at h; exact h
def sSet (i : Nat) (f : DSt → M D) (sd : DSt) : M O := (f sd).bind fun d => .ok (.nx (sd.set i (some (.im d))))
theorem psd_set (i : Nat) {x : Str} {e : Expr} {f : DSt → M D} {pos' : Pos} (hN : X.N.Nodup) (h : PEd X E e f) (hi : X.N[i]? = some x := by rfl) (hx : Loc X.env.scope x := by first | exact Or.inl rfl | exact Or.inr rfl)
    (hs : swapsWith e (some (.Name x pos')) pos.line X.env = pure false := by rfl) (hf : X.fn x = true ∨ X.env.scope.names.lookup x = some .local := by first | exact .inl rfl | exact .inr rfl | assumption) :
    PSd X E (.Assign [.Name x pos'] e pos) (sSet i f) := by
  obtain ⟨t, p, q⟩ := h
  refine ⟨_, ps_set hN hi hx p hs hf, fun H0 B Hf sd σ H D sr h => ?_⟩
  refine q H0 B Hf sd σ H _ sr (PoS.bind sr h fun d v Hf1 H1 _ g1 sr1 rv h1 => ?_)
  exact h1 _ Hf1 H1 (Same.refl _) (sr1.set_im i rv)
def sRet (f : DSt → M D) (sd : DSt) : M O := (f sd).bind fun d => .ok (.rt (.im d))
theorem psd_ret {e : Expr} {f : DSt → M D} (h : PEd X E e f) : PSd X E (.Return (some e) pos) (sRet f) := by
  obtain ⟨t, p, q⟩ := h
  refine ⟨_, ps_ret p, fun H0 B Hf sd σ H D sr h => ?_⟩
  refine q H0 B Hf sd σ H _ sr (PoS.bind sr h fun d v Hf1 H1 _ g1 sr1 rv h1 => ?_)
  exact h1 v Hf1 H1 (Same.refl _) sr1.fin rv
def sIf (c : DSt → M Bool) (f g : DSt → M O) (sd : DSt) : M O := (c sd).bind fun b => if b then f sd else g sd
theorem psd_if {c : Expr} {xs ys : List Stmt} {k : DSt → M Bool} {f g : DSt → M O} (hc : PTd X E c k) (h : PSsd X E xs f) (h2 : PSsd X E ys g) : PSd X E (.If c xs ys pos) (sIf k f g) := by
  obtain ⟨t, p, q⟩ := hc
  obtain ⟨t1, p1, q1⟩ := h
  obtain ⟨t2, p2, q2⟩ := h2
  refine ⟨_, ps_if p p1 p2, fun H0 B Hf sd σ H D sr h => ?_⟩
  refine q H0 B Hf sd σ H _ sr (PoS.bind (R := rQ) sr h fun c v Hf1 H1 _ g1 sr1 rv h1 => ?_)
  have e : c = v := rv
  subst e
  cases c with
  | true => rw [if_pos rfl] at h1 ⊢; exact q1 H0 B Hf1 sd σ H1 D sr1 h1
  | false => rw [if_neg Bool.false_ne_true] at h1 ⊢; exact q2 H0 B Hf1 sd σ H1 D sr1 h1

/-! ### while, by the number of turns -/
def whileD (c : DSt → M Bool) (f : DSt → M O) : Nat → DSt → M O
  | 0, _ => .bad
  | n + 1, sd => (c sd).bind fun b => if b then ((f sd).bind fun o => match o with
      | .nx sd' => whileD c f n sd'
      | .ct sd' => whileD c f n sd'
      | .bk sd' => .ok (.nx sd')
      | .rt s => .ok (.rt s)) else .ok (.nx sd)
open Classical in
noncomputable def sWhile (c : DSt → M Bool) (f : DSt → M O) (sd : DSt) : M O := if h : ∃ n, whileD c f n sd ≠ .bad then whileD c f (choose h) sd else .bad
theorem whileD_mono (c : DSt → M Bool) (f : DSt → M O) : ∀ (n m : Nat) (sd : DSt), n ≤ m → whileD c f n sd ≠ .bad → whileD c f m sd = whileD c f n sd
  | 0, _, _, _, h => absurd rfl h
  | n + 1, 0, _, hm, _ => absurd hm (by omega)
  | n + 1, m + 1, sd, hm, h => by
    unfold whileD at h ⊢
    cases e : c sd with
    | ok b =>
      rw [e] at h
      simp only [M.bind_ok] at h ⊢
      cases b with
      | false => rfl
      | true =>
        simp only [if_true] at h ⊢
        cases e2 : f sd with
        | ok o =>
          rw [e2] at h
          simp only [M.bind_ok] at h ⊢
          cases o with
          | nx sd' => exact whileD_mono c f n m sd' (by omega) h
          | ct sd' => exact whileD_mono c f n m sd' (by omega) h
          | bk sd' => rfl
          | rt s => rfl
        | ex x => rfl
        | bad => rfl
    | ex x => rfl
    | bad => rfl
theorem sWhile_eq {c : DSt → M Bool} {f : DSt → M O} {n : Nat} {sd : DSt} (h : whileD c f n sd ≠ .bad) : sWhile c f sd = whileD c f n sd := by
  unfold sWhile
  have hx : ∃ n, whileD c f n sd ≠ .bad := ⟨n, h⟩
  rw [dif_pos hx]
  have h2 := Classical.choose_spec hx
  rcases Nat.le_total n (Classical.choose hx) with l | l
  · exact whileD_mono c f _ _ sd l h
  · exact (whileD_mono c f _ _ sd l h2).symm
theorem psd_while {c : Expr} {body : List Stmt} {k : DSt → M Bool} {f : DSt → M O} (hp : PassesOwn (model X.prog X.w) X.A X.env X.xe) (hc : PTd X E c k) (h : PSsd X E body f) : PSd X E (.While c body [] pos) (sWhile k f) := by
  obtain ⟨t, p, q⟩ := hc
  obtain ⟨t1, p1, q1⟩ := h
  refine ⟨_, ps_while hp p p1, fun H0 B Hf sd σ H D sr h => ?_⟩
  obtain ⟨n, hn⟩ : ∃ n, PoS X.K E H0 B Hf (whileD k f n sd) D := by
    unfold sWhile at h
    split at h
    · exact ⟨_, h⟩
    · exact h.elim
  refine ⟨fun m σ' H' => ∃ Hf' sd', Same Hf Hf' ∧ SR X.K H0 B Hf' sd' σ' H' ∧ PoS X.K E H0 B Hf' (whileD k f m sd') D, ⟨n, Hf, sd, Same.refl _, sr, hn⟩, ?_⟩
  rintro m σ1 H1 ⟨Hf1, sd1, e1, sr1, h1⟩
  cases m with
  | zero => exact h1.elim
  | succ m =>
    unfold whileD at h1
    refine q H0 B Hf1 sd1 σ1 H1 _ sr1 (PoS.bind (R := rQ) sr1 h1 fun c v Hf2 H2 _ g2 sr2 rv h2 => ?_)
    have e : c = v := rv
    subst e
    cases c with
    | false =>
      rw [if_neg Bool.false_ne_true] at h2 ⊢
      exact h2 σ1 Hf2 H2 (Same.refl _) sr2
    | true =>
      rw [if_pos rfl] at h2 ⊢
      refine ⟨fun σ' H' => ∃ Hf' sd', Same Hf Hf' ∧ SR X.K H0 B Hf' sd' σ' H' ∧ PoS X.K E H0 B Hf' (whileD k f m sd') D, fun σ' H' w => ⟨m, Nat.lt_succ_self m, w⟩, ?_⟩
      refine q1 H0 B Hf2 sd1 σ1 H2 _ sr2 ?_
      cases e2 : f sd1 with
      | ok o =>
        rw [e2] at h2
        cases o with
        | nx sd' => exact fun σ' Hf' H' e' sr' => ⟨Hf', sd', e1.trans (g2.fz.trans e'), sr', PoS.weak e' h2⟩
        | ct sd' => exact fun σ' Hf' H' e' sr' => ⟨Hf', sd', e1.trans (g2.fz.trans e'), sr', PoS.weak e' h2⟩
        | bk sd' => exact h2
        | rt s => exact h2
      | ex x => rw [e2] at h2; exact h2
      | bad => rw [e2] at h2; exact h2
end
end DL

set_option maxHeartbeats 4000000

namespace DL
open PySem PySem.Spec PyProof.Rows L2

/-! ### a list unpacked -/
section
variable {prog : Program} {w : World} {A : Around} {E : Value → Shared → Prop}
theorem draw_list {it t : Addr} {items : Array Value} (hne : t ≠ it) : ∀ (n i : Nat) (s : Shared) (Q : List Value → Shared → Prop), s.heap.IsListIter it t i → s.heap.IsList t items → i + n ≤ items.size →
    (∀ h', h'.IsListIter it t (i + n) → Heap.SameBut it s.heap h' → Q ((items.toList.drop i).take n) { s with heap := h' }) → wpAny (model prog w) A (draw (.ref it) n) Q E s
  | 0, i, s, Q, hit, _, _, hQ => by
    show wpAny _ _ (pure []) Q E s
    exact wpAny_pure (by simpa using hQ s.heap hit (Heap.SameBut.refl ..))
  | n + 1, i, s, Q, hit, ht, hle, hQ => by
    have hlt : i < items.size := by omega
    show wpAny _ _ (pyNext (.ref it) >>= _) Q E s
    refine wpAny_bind (wpAny_pyNext_list_item hit ht (x := items[i]) (by simp [hlt]) fun h₁ hit₁ hs₁ => ?_)
    refine wpAny_bind (wpAny_holding (draw_list hne n (i + 1) _ _ hit₁ (ht.extBut hs₁.extBut hne) (by omega) fun h₂ hit₂ hs₂ => wpAny_pure ?_))
    have hd : items.toList.drop i = items[i] :: items.toList.drop (i + 1) := by simp [List.drop_eq_getElem_cons, hlt]
    have := hQ h₂ (by rw [show i + (n + 1) = i + 1 + n by omega]; exact hit₂) (hs₁.trans hs₂)
    rw [hd, List.take_succ_cons] at this
    exact this
theorem unpackItems_list {s : Shared} {t : Addr} {items : Array Value} {Q : List Value → Shared → Prop} (hh : A.handled = none) (ht : s.heap.IsList t items)
    (hQ : ∀ h', Heap.ExtBut s.heap.objs.size s.heap h' → Q items.toList { s with heap := h' }) : wpAny (model prog w) A (unpackItems (.ref t) items.size none) Q E s := by
  have hlt : t ≠ s.heap.objs.size := by obtain ⟨o, ho, _⟩ := ht; exact Nat.ne_of_lt (Heap.lt_size ho)
  unfold unpackItems
  refine wpAny_bind ?_
  · unfold notIterableAtAll
    refine wpAny_bind (wpAny_specialOf ht.typeIs slot_list_iter.lookup ?_)
    refine wpAny_pure ?_
    simp only [Bool.false_eq_true, if_false]
    refine wpAny_bind (wpAny_holding (wpAny_pyIter_list ht ?_))
    refine wpAny_bind (wpAny_holding (draw_list hlt items.size 0 _ _ ⟨_, Heap.get?_push_size _ rfl, rfl, rfl⟩ (ht.push _) (by omega) fun h₁ hit₁ hs₁ => ?_))
    have hall : List.take items.size (List.drop 0 items.toList) = items.toList := by
      rw [List.drop_zero]; exact List.take_of_length_le (by simp)
    rw [hall]
    rw [if_neg (by simp)]
    have ht₁ : h₁.IsList t items := (ht.push _).extBut hs₁.extBut hlt
    refine wpAny_bind (wpAny_holding (wpAny_pyNext_list_end hh hit₁ ht₁ (by simp) fun h₂ he₂ => ?_))
    simp only [Option.isSome_none, Bool.false_eq_true, if_false]
    refine wpAny_pure (hQ h₂ fun b o hb e => he₂ b o hb (hs₁.extBut b o hb (Heap.get?_push_of_some _ e)))
theorem assign_Tuple_list {s : Shared} {env : Env} {elts : List Expr} {x1} {pos : Pos} {t : Addr} {items : Array Value} {Q : Unit → Shared → Prop} (hh : A.handled = none) (ht : s.heap.IsList t items)
    (hn : (assignEach elts env).length = items.size) (hstar : (assignEach elts env).findIdx? (·.1) = none)
    (h : ∀ h', Heap.ExtBut s.heap.objs.size s.heap h' → wpAny (model prog w) A (assignInOrder ((assignEach elts env).map (·.2)) items.toList) Q E { s with heap := h' }) :
    wpAny (model prog w) A (assign (.Tuple elts x1 pos) env (.ref t)) Q E s := by
  rw [assign_Tuple]
  refine wpAny_bind (wpAny_standAt ?_)
  unfold unpack
  rw [hn, hstar]
  exact wpAny_bind (wpAny_holding (unpackItems_list hh ht h))
def chs (x : Str) : List V := x.cps.toList.map fun c => V.str ⟨#[c]⟩
theorem draw_str {it : Addr} {x : Str} {t : Tok} : ∀ (n i : Nat) (s : Shared) (Q : List Value → Shared → Prop), s.heap.IsStrIter it "str_ascii_iterator" x t i → i + n ≤ x.cps.size →
    (∀ h' tk us, h'.IsStrIter it "str_ascii_iterator" x t (i + n) → Heap.SameBut it s.heap h' → Vals (((chs x).drop i).take n) us → Q us { s with heap := h', toks := tk }) → wpAny (model prog w) A (draw (.ref it) n) Q E s
  | 0, i, s, Q, hit, _, hQ => by
    show wpAny _ _ (pure []) Q E s
    exact wpAny_pure (hQ s.heap s.toks [] hit (Heap.SameBut.refl ..) (by simpa using Paired.nil))
  | n + 1, i, s, Q, hit, hle, hQ => by
    have hlt : i < x.cps.size := by omega
    show wpAny _ _ (pyNext (.ref it) >>= _) Q E s
    refine wpAny_bind (wpAny_pyNext_ascii_item hit (c := x.cps[i]) (by simp [hlt]) fun h₁ hit₁ hs₁ => ?_)
    refine wpAny_bind (wpAny_holding (draw_str n (i + 1) _ _ hit₁ (by omega) fun h₂ tk us hit₂ hs₂ hv => wpAny_pure ?_))
    have hd : (chs x).drop i = V.str ⟨#[x.cps[i]]⟩ :: (chs x).drop (i + 1) := by
      have hl : i < (chs x).length := by simp [chs, hlt]
      rw [List.drop_eq_getElem_cons hl]; simp [chs]
    refine hQ h₂ tk _ (by rw [show i + (n + 1) = i + 1 + n by omega]; exact hit₂) (hs₁.trans hs₂) ?_
    rw [hd, List.take_succ_cons]
    exact .cons ⟨_, rfl⟩ hv
theorem unpackItems_str {s : Shared} {x : Str} {t : Tok} {Q : List Value → Shared → Prop} (hh : A.handled = none) (ha : x.cps.all (· < 128) = true)
    (hQ : ∀ h' tk us, Heap.ExtBut s.heap.objs.size s.heap h' → Vals (chs x) us → Q us { s with heap := h', toks := tk }) : wpAny (model prog w) A (unpackItems (.str x t) x.cps.size none) Q E s := by
  unfold unpackItems
  refine wpAny_bind ?_
  · unfold notIterableAtAll
    refine wpAny_bind (wpAny_specialOf (typeIs_str s x t) PySem.F.slot_str_iter.lookup ?_)
    refine wpAny_pure ?_
    simp only [Bool.false_eq_true, if_false]
    refine wpAny_bind (wpAny_holding (wpAny_pyIter_ascii ha ?_))
    refine wpAny_bind (wpAny_holding (draw_str x.cps.size 0 _ _ ⟨_, Heap.get?_push_size _ rfl, rfl, rfl⟩ (by omega) fun h₁ tk us hit₁ hs₁ hv => ?_))
    have hall : List.take x.cps.size (List.drop 0 (chs x)) = chs x := by
      rw [List.drop_zero]; exact List.take_of_length_le (by simp [chs])
    rw [hall] at hv
    have hl : us.length = x.cps.size := by rw [← hv.length]; simp [chs]
    rw [if_neg (by simp [hl])]
    refine wpAny_bind (wpAny_holding (wpAny_pyNext_ascii_end hh hit₁ (by simp) fun h₂ he₂ => ?_))
    simp only [Option.isSome_none, Bool.false_eq_true, if_false]
    refine wpAny_pure (hQ h₂ tk us (fun b o hb e => he₂ b o hb (hs₁.extBut b o hb (Heap.get?_push_of_some _ e))) hv)
theorem assign_Tuple_str {s : Shared} {env : Env} {elts : List Expr} {x1} {pos : Pos} {x : Str} {t : Tok} {Q : Unit → Shared → Prop} (hh : A.handled = none) (ha : x.cps.all (· < 128) = true)
    (hn : (assignEach elts env).length = x.cps.size) (hstar : (assignEach elts env).findIdx? (·.1) = none)
    (h : ∀ h' tk us, Heap.ExtBut s.heap.objs.size s.heap h' → Vals (chs x) us → wpAny (model prog w) A (assignInOrder ((assignEach elts env).map (·.2)) us) Q E { s with heap := h', toks := tk }) :
    wpAny (model prog w) A (assign (.Tuple elts x1 pos) env (.str x t)) Q E s := by
  rw [assign_Tuple]
  refine wpAny_bind (wpAny_standAt ?_)
  unfold unpack
  rw [hn, hstar]
  exact wpAny_bind (wpAny_holding (unpackItems_str hh ha h))
end
section
variable {X : Cx} {pos : Pos}
/-- (a, b, ..) = a tuple or a list of that length -/
def gSeq (K : PySem.W.Frag) (n : Nat) (t : TGs) : TG := fun v σ H Q => (∃ a xs, v = .ref a ∧ (SqT K H a xs ∨ SqL K H a xs) ∧ xs.length = n ∧ t xs σ H Q) ∨ ∃ x : Str, v = .str x ∧ x.cps.all (· < 128) = true ∧ x.cps.size = n ∧ t (chs x) σ H Q
theorem pg_seq {es : List Expr} {k : Nat} {t : TGs} {n : Nat} (hc : X.calm = true) (h : PGs X es t)
    (hn : (assignEach es X.env).length = n := by rfl) (hst : (assignEach es X.env).findIdx? (·.1) = none := by rfl) : PG X (.Tuple es k pos) (gSeq X.K n t) := by
  intro pins s σ H v u Q I r hw
  rcases hw with ⟨a, xs, e1, hq, hl, hw⟩ | ⟨x, e1, ha, hl, hw⟩
  case inr =>
    subst e1
    obtain ⟨tk, rfl⟩ := (show ∃ t, u = Value.str x t from r)
    refine assign_Tuple_str (I.ok.hd hc) ha (by rw [hn, hl]) hst fun h' tk us hx hv => ?_
    have I1 : Inv X pins σ H { s with heap := h', toks := tk } := I.kept (t' := tk) fun b o e => hx b o (Nat.ne_of_lt (Heap.lt_size e)) e
    exact h pins _ σ H (chs x) _ Q I1 hv hw
  subst e1
  cases r
  rcases hq with hq | hq
  · obtain ⟨its, rv, ht, hz⟩ := I.tuple hq
    refine assign_Tuple_tuple (I.ok.hd hc) ht (by simp [hn, ← hl, rv.length]) hst fun h' hx => ?_
    have I1 : Inv X pins σ H { s with heap := h' } := I.kept (t' := s.toks) fun b o e => hx b o (Nat.ne_of_lt (Heap.lt_size e)) e
    exact h pins _ σ H xs _ Q I1 (by simpa using rv) hw
  · obtain ⟨its, rv, ht, hz⟩ := I.list hq
    refine assign_Tuple_list (I.ok.hd hc) ht.isList (by simp [hn, ← hl, rv.length]) hst fun h' hx => ?_
    have I1 : Inv X pins σ H { s with heap := h' } := I.kept (t' := s.toks) fun b o e => hx b o (Nat.ne_of_lt (Heap.lt_size e)) e
    exact h pins _ σ H xs _ Q I1 (by simpa using rv) hw
end

/-! ### targets -/
def PGd (X : Cx) (tg : Expr) (g : D → DSt → M DSt) : Prop :=
  ∃ t : TG, PG X tg t ∧ ∀ (H0 : Hp) (B : Addr → Prop) (Hf : Hp) (sd : DSt) (σ : L2.St) (H : Hp) (v : V) (d : D) (sd' : DSt) (Q : L2.St → Hp → Prop), SR X.K H0 B Hf sd σ H → Rep X.K Hf d v → g d sd = .ok sd' →
    (∀ σ', SR X.K H0 B Hf sd' σ' H → Q σ' H) → t v σ H Q
def PGsd (X : Cx) (ts : List Expr) (g : List D → DSt → M DSt) : Prop :=
  ∃ t : TGs, PGs X ts t ∧ ∀ (H0 : Hp) (B : Addr → Prop) (Hf : Hp) (sd : DSt) (σ : L2.St) (H : Hp) (vs : List V) (ds : List D) (sd' : DSt) (Q : L2.St → Hp → Prop), SR X.K H0 B Hf sd σ H → Reps X.K Hf ds vs → g ds sd = .ok sd' →
    (∀ σ', SR X.K H0 B Hf sd' σ' H → Q σ' H) → t vs σ H Q
section
variable {X : Cx} {E : XK} {pos : Pos} {a b : Expr}
def gNm (i : Nat) (d : D) (sd : DSt) : M DSt := .ok (sd.set i (some (.im d)))
theorem pgd_name (i : Nat) {x : Str} (hN : X.N.Nodup) (hi : X.N[i]? = some x := by rfl) (hx : Loc X.env.scope x := by first | exact Or.inl rfl | exact Or.inr rfl) (hf : X.fn x = true ∨ X.env.scope.names.lookup x = some .local := by first | exact .inl rfl | exact .inr rfl | assumption) :
    PGd X (.Name x pos) (gNm i) := by
  refine ⟨_, pg_name hN hi hx hf, fun H0 B Hf sd σ H v d sd' Q sr r e h => ?_⟩
  cases e
  exact h _ (sr.set_im i r)
def gsNil : List D → DSt → M DSt
  | [], sd => .ok sd
  | _, _ => .bad
def gsCons (g : D → DSt → M DSt) (gs : List D → DSt → M DSt) : List D → DSt → M DSt
  | d :: ds, sd => (g d sd).bind fun sd' => gs ds sd'
  | _, _ => .bad
theorem pgsd_nil : PGsd X [] gsNil := by
  refine ⟨_, pgs_nil, fun H0 B Hf sd σ H vs ds sd' Q sr r e h => ?_⟩
  cases ds with
  | nil => cases e; exact ⟨reps_nil.mp r, h σ sr⟩
  | cons d ds => cases e
theorem pgsd_cons {es : List Expr} {g : D → DSt → M DSt} {gs : List D → DSt → M DSt} (h1 : PGd X a g) (h2 : PGsd X es gs) (hs : (assignEach (a :: es) X.env).map (·.2) = assign a X.env :: (assignEach es X.env).map (·.2) := by rfl) : PGsd X (a :: es) (gsCons g gs) := by
  obtain ⟨t, p, q⟩ := h1
  obtain ⟨t2, p2, q2⟩ := h2
  refine ⟨_, pgs_cons p p2 hs, fun H0 B Hf sd σ H vs ds sd' Q sr r e h => ?_⟩
  cases ds with
  | nil => cases e
  | cons d ds =>
    obtain ⟨v, vr, rfl, rv, rr⟩ := reps_cons.mp r
    cases e1 : g d sd with
    | ok sd1 =>
      have e' : gs ds sd1 = .ok sd' := by
        have e : (g d sd).bind (fun sd' => gs ds sd') = .ok sd' := e
        rw [e1] at e
        exact e
      exact ⟨v, vr, rfl, q H0 B Hf sd σ H v d sd1 _ sr rv e1 fun σ1 sr1 => q2 H0 B Hf sd1 σ1 H vr ds sd' Q sr1 rr e' h⟩
    | ex x => have e : (g d sd).bind (fun sd' => gs ds sd') = .ok sd' := e; rw [e1] at e; cases e
    | bad => have e : (g d sd).bind (fun sd' => gs ds sd') = .ok sd' := e; rw [e1] at e; cases e
def gTupD (n : Nat) (gs : List D → DSt → M DSt) : D → DSt → M DSt
  | .tup ds, sd => if ds.length = n then gs ds sd else .bad
  | .lst ds, sd => if ds.length = n then gs ds sd else .bad
  | .str x, sd => if x.cps.size = n ∧ x.cps.all (· < 128) = true then gs (x.cps.toList.map fun c => .str ⟨#[c]⟩) sd else .bad
  | _, _ => .bad
theorem reps_chs {K : PySem.W.Frag} {H : Hp} : ∀ l : List Nat, Reps K H (l.map fun c => D.str ⟨#[c]⟩) (l.map fun c => V.str ⟨#[c]⟩)
  | [] => Reps.nil
  | _ :: l => Reps.cons (rep_str.mpr rfl) (reps_chs l)
theorem pgd_tup {es : List Expr} {k : Nat} {gs : List D → DSt → M DSt} {n : Nat} (hc : X.calm = true) (h : PGsd X es gs)
    (hn : (assignEach es X.env).length = n := by rfl) (hst : (assignEach es X.env).findIdx? (·.1) = none := by rfl) : PGd X (.Tuple es k pos) (gTupD n gs) := by
  obtain ⟨t, p, q⟩ := h
  refine ⟨_, pg_seq hc p hn hst, fun H0 B Hf sd σ H v d sd' Q sr r e h => ?_⟩
  unfold gTupD at e
  split at e
  · rename_i ds
    split at e
    · rename_i hl
      obtain ⟨a, xs, rfl, ha, hr⟩ := rep_tupQ r
      exact .inl ⟨a, xs, rfl, .inl (Same.seqT sr.sub ha), by rw [← hr.length]; exact hl, q H0 B Hf sd σ H xs ds sd' Q sr hr e h⟩
    · cases e
  · rename_i ds
    split at e
    · rename_i hl
      obtain ⟨a, xs, rfl, ha, hr⟩ := rep_lst.mp r
      exact .inl ⟨a, xs, rfl, .inr (sr.sub.seq ha), by rw [← hr.length]; exact hl, q H0 B Hf sd σ H xs ds sd' Q sr hr e h⟩
    · cases e
  · rename_i x
    split at e
    · rename_i hl
      exact .inr ⟨x, rep_str.mp r, hl.2, hl.1, q H0 B Hf sd σ H (chs x) _ sd' Q sr (reps_chs x.cps.toList) e h⟩
    · cases e
  · cases e
def sAsg (f : DSt → M D) (g : D → DSt → M DSt) (sd : DSt) : M O := (f sd).bind fun d => match g d sd with
  | .ok sd' => .ok (.nx sd')
  | _ => .bad
theorem psd_asg {e tg : Expr} {f : DSt → M D} {g : D → DSt → M DSt} (h : PEd X E e f) (hg : PGd X tg g) (hs : swapsWithSole [tg] e pos.line X.env = pure false := by rfl) (hw : swappedStores [tg] e X.env = pure none := by rfl)
    (h1 : (assignEach [tg] X.env).map (·.2) = [assign tg X.env] := by rfl) : PSd X E (.Assign [tg] e pos) (sAsg f g) := by
  obtain ⟨t, p, q⟩ := h
  obtain ⟨tg', pg, qg⟩ := hg
  refine ⟨_, ps_asg p pg hs hw h1, fun H0 B Hf sd σ H D sr h => ?_⟩
  refine q H0 B Hf sd σ H _ sr (PoS.bind sr h fun d v Hf1 H1 _ g1 sr1 rv h1 => ?_)
  split at h1
  · rename_i sd' e1
    exact qg H0 B Hf1 sd σ H1 v d sd' _ sr1 rv e1 fun σ' sr' => h1 σ' Hf1 H1 (Same.refl _) sr'
  · exact h1.elim
/-- a, b = x, y with plain local names -/
def sPar (i j : Nat) (fs : DSt → M (List D)) (sd : DSt) : M O := (fs sd).bind fun ds => match ds with
  | [d, e] => .ok (.nx ((sd.set i (some (.im d))).set j (some (.im e))))
  | _ => .bad
theorem psd_par (i j : Nat) {x y : Str} {fs : DSt → M (List D)} {px py pt : Pos} {kt k2 pt2} (hc : X.calm = true) (hN : X.N.Nodup) (ha : PAd X E [a, b] fs)
    (hw : swappedStores [.Tuple [.Name x px, .Name y py] kt pt] (.Tuple [a, b] k2 pt2) X.env = pure (some [x, y])) (hi : X.N[i]? = some x := by rfl) (hj : X.N[j]? = some y := by rfl) (hij : i ≠ j := by decide)
    (hx : X.env.scope.names.lookup x = some .local := by rfl) (hy : X.env.scope.names.lookup y = some .local := by rfl)
    (hs : swapsWithSole [.Tuple [.Name x px, .Name y py] kt pt] (.Tuple [a, b] k2 pt2) pos.line X.env = pure false := by rfl) :
    PSd X E (.Assign [.Tuple [.Name x px, .Name y py] kt pt] (.Tuple [a, b] k2 pt2) pos) (sPar i j fs) := by
  obtain ⟨t, p, q⟩ := ha
  refine ⟨_, ps_par hc hN hi hj hij hx hy p hw hs, fun H0 B Hf sd σ H D sr h => ?_⟩
  refine q H0 B Hf sd σ H _ sr (PoS.bind sr h fun ds vs Hf1 H1 _ g1 sr1 rs h1 => ?_)
  split at h1
  · rename_i d e
    obtain ⟨v, w, rfl, rv, rw'⟩ := reps2 rs
    exact ⟨v, w, rfl, h1 _ Hf1 H1 (Same.refl _) ((sr1.set_im i rv).set_im j rw')⟩
  · exact h1.elim

/-! ### defs -/
def S.toD : S → M D
  | .im d => .ok d
  | .ow ds => .ok (.lst ds)
  | .od _ => .bad
  | .dk _ => .bad
  | .xc _ => .bad
/-- a def that raises nothing, by a function of its arguments -/
def spN (K : PySem.W.Frag) (F : List D → M S) : Sp := fun vs H Q _ => ∃ Hf ds s, Same Hf H ∧ Reps K Hf ds vs ∧ F ds = .ok s ∧ ∀ v Hf' H', Gr Hf H Hf' H' → RS K H Hf' H' s v → Q v H'
def fin' (r : M O) : M S := r.bind fun o => match o with
  | .rt s => .ok s
  | .nx _ => .ok (.im .non)
  | _ => .bad
def fnD (n m : Nat) (f : DSt → M O) (ds : List D) : M S := if ds.length = n then fin' (f (ds.map (fun d => some (S.im d)) ++ List.replicate m none)) else .bad
theorem sr_start {K : PySem.W.Frag} {N : List Str} {Hf H : Hp} {ds : List D} {vs : List V} {m : Nat} (e : Same Hf H) (r : Reps K Hf ds vs) (hN : N.length = ds.length + m) :
    SR K H (fun a => H a ≠ none ∧ Hf a = none) Hf (ds.map (fun d => some (S.im d)) ++ List.replicate m none) (L2.start N vs) H where
  sub := e
  all := Same.refl _
  ban := fun _ h => h.2
  bt := fun _ h => h.1
  len := by
    unfold L2.start
    have := r.length
    simp only [List.length_append, List.length_map, List.length_replicate]
    omega
  imS := fun i d hi hz => by
    unfold L2.start
    by_cases hl : i < ds.length
    · rw [List.getElem?_append_left (by simpa using hl), List.getElem?_map] at hi
      cases q : ds[i]? with
      | none => rw [q] at hi; cases hi
      | some d' =>
        rw [q] at hi
        cases hi
        obtain ⟨v, e1, e2⟩ := r.get q
        refine ⟨v, ?_, e2⟩
        have : i < vs.length := (List.getElem?_eq_some_iff.mp e1).1
        rw [List.getElem?_append_left (by simpa using this), List.getElem?_map, e1]
        rfl
    · rw [List.getElem?_append_right (by simpa using hl), List.getElem?_replicate] at hi
      split at hi <;> cases hi
  ow := fun i t hi ho => by
    by_cases hl : i < ds.length
    · rw [List.getElem?_append_left (by simpa using hl), List.getElem?_map] at hi
      cases q : ds[i]? with
      | none => rw [q] at hi; cases hi
      | some d' => rw [q] at hi; cases hi; cases ho
    · rw [List.getElem?_append_right (by simpa using hl), List.getElem?_replicate] at hi
      split at hi <;> cases hi
  sep := fun i j t _ p _ hi ho _ _ _ _ => by
    by_cases hl : i < ds.length
    · rw [List.getElem?_append_left (by simpa using hl), List.getElem?_map] at hi
      cases q : ds[i]? with
      | none => rw [q] at hi; cases hi
      | some d' => rw [q] at hi; cases hi; cases ho
    · rw [List.getElem?_append_right (by simpa using hl), List.getElem?_replicate] at hi
      split at hi <;> cases hi
theorem fn_d {P : Program} {w : World} {K : PySem.W.Frag} {mg : Str → Option Value} {base : Heap} {x qual : Str} {st : Stmt} {f : Addr} {fd : FuncData} {N ps : List Str} {k m n : Nat} {fb : DSt → M O} (F : Fun K x qual st f fd) (sc : FnScope N ps (defScope st))
    (hn : ps.length = n) (hN : N.length = n + m)
    (hbody : ∀ (cdv : Value) (A : Around) (outer : List Env) (s : Shared) (H : Hp) (E : XK), Room k (A.deeper (envOfC qual (defScope st) s.heap.objs.size f cdv)) →
      PSsd (cxOf CX0 P w K mg base N qual (defScope st) f cdv A outer s H E).nox E0 (defBody st) fb) : FnOk P w K mg base CX0 (k + 1) f fd ps (spN K (fnD n m fb)) := by
  refine F.ok sc (fun vs H Q E h => ?_) (fun cdv A outer s H vs Q E hr h => ?_)
  · obtain ⟨Hf, ds, s, e, r, hF, _⟩ := h
    unfold fnD at hF
    split at hF
    · rename_i hl
      rw [← r.length, hl, hn]
    · cases hF
  · obtain ⟨Hf, ds, s', e, r, hF, q⟩ := h
    obtain ⟨t, p, qt⟩ := hbody cdv A outer s H E hr
    unfold fnD at hF
    split at hF
    · rename_i hl
      refine ⟨t, p, qt H _ Hf _ (L2.start N vs) H _ (sr_start (N := N) (m := m) e r (by omega)) ?_⟩
      generalize fb (List.map (fun d => some (S.im d)) ds ++ List.replicate m none) = ro at hF
      have back : ∀ {v : V} {Hf' H' : Hp} {s : DL.S}, Same Hf Hf' → Fin' H (fun a => H a ≠ none ∧ Hf a = none) Hf' H' → RS K H Hf' H' s v → s = s' → Q v H' := fun {v Hf' H' s} e1 e2 e3 e4 => by
        subst e4
        exact q v Hf' H' ⟨e1, e2.sub, e2.all, fun a h1 h2 => e2.ban a ⟨h1, h2⟩⟩ e3
      cases ro with
      | ok o =>
        cases o with
        | rt s2 =>
          have e' : s2 = s' := by cases hF; rfl
          exact fun v Hf' H' e1 e2 e3 => back e1 e2 e3 e'
        | nx sd' =>
          have e' : DL.S.im .non = s' := by cases hF; rfl
          exact fun σ' Hf' H' e1 sr' => back (v := .non) (s := DL.S.im .non) e1 sr'.fin (show Rep K Hf' .non .non from rep_non.mpr rfl) e'
        | bk sd' => cases hF
        | ct sd' => cases hF
      | ex x => cases hF
      | bad => cases hF
    · cases hF
def eCall (F : List D → M S) (fs : DSt → M (List D)) (sd : DSt) : M D := (fs sd).bind fun ds => match F ds with
  | .ok s => s.toD
  | _ => .bad
theorem pd_call {k : Nat} {f : Addr} {fd : FuncData} {ps : List Str} {F : List D → M S} {x : Str} {p : Pos} {es : List Expr} {fs : DSt → M (List D)} (G : FnOk X.prog X.w X.K X.mg X.base CX0 k f fd ps (spN X.K F)) (hr : Room k X.A) (hm : X.mg x = some (.ref f)) (hk : PySem.W.keepIn X.K (.ref f) = true) (hb : Binds X.K fd ps [])
    (ha : PAd X E (a :: es) fs) (hg : Gl X x := by rfl) (hdb : (x == ("__debug__" : Str)) = false := by decide) (he : starEach (a :: es) X.env = (false, eval a X.env) :: starEach es X.env := by rfl) (hpl : (backTo pos (starEach es X.env)).any (·.1) = false := by rfl) :
    PEd X E (.Call (.Name x p) (a :: es) [] pos) (eCall F fs) := by
  obtain ⟨t, pt, qt⟩ := ha
  refine ⟨_, pe_call (dvs := []) (E := E0) G hr hg hm hk hb .nil pass0 pt hdb he hpl, fun H0 B Hf sd σ H Q sr h => ?_⟩
  refine qt H0 B Hf sd σ H _ sr (Po.bind h fun ds vs Hf1 H1 _ g1 rs h1 => ?_)
  split at h1
  · rename_i s e
    refine ⟨Hf1, ds, s, g1.sub, by rw [List.append_nil]; exact rs, e, fun v Hf' H' g2 rv => ?_⟩
    cases s with
    | im d => exact h1 v Hf' H' g2 rv
    | ow es =>
      obtain ⟨p, rfl, e1, e2, xs, e3, e4⟩ := rv
      refine h1 _ (upd Hf' p (.lst xs)) H' ⟨g2.fz.trans (same_upd e2 _), fun b u q => ?_, g2.all, fun a h1 h2 => ?_⟩ (rep_lst.mpr ⟨p, xs, rfl, SqL.of upd_same, e4.mono (same_upd e2 _)⟩)
      · by_cases hb : b = p
        · subst hb; rw [upd_same] at q; rw [e3]; exact q
        · rw [upd_ne hb] at q; exact g2.sub b u q
      · have : a ≠ p := fun z => h1 (z ▸ e1)
        rw [upd_ne this]; exact g2.ban a h1 h2
    | od kvs => exact h1.elim
    | dk kvs => exact h1.elim
    | xc x => exact h1.elim
  · exact h1.elim
end
end DL

set_option maxHeartbeats 4000000

namespace DL
open PySem PySem.Spec PyProof.Rows L2

/-! ### data that is alike -/
mutual
def D.eq : D → D → Bool
  | .non, .non => true
  | .bl a, .bl b => a == b
  | .bl a, .int b => (if a then 1 else 0) == b
  | .int a, .bl b => a == (if b then 1 else 0)
  | .int a, .int b => a == b
  | .str a, .str b => a == b
  | .tup xs, .tup ys => D.eqs xs ys
  | .lst xs, .lst ys => D.eqs xs ys
  | _, _ => false
def D.eqs : List D → List D → Bool
  | [], [] => true
  | x :: xs, y :: ys => D.eq x y && D.eqs xs ys
  | _, _ => false
end
mutual
def D.dep : D → Nat
  | .tup ds => D.deps ds + 1
  | .lst ds => D.deps ds + 1
  | _ => 0
def D.deps : List D → Nat
  | [] => 0
  | d :: ds => max (D.dep d) (D.deps ds)
end
mutual
theorem D.eq_refl : ∀ d : D, D.eq d d = true
  | .non => by rw [D.eq]
  | .bl b => by rw [D.eq]; simp
  | .int i => by rw [D.eq]; simp
  | .str x => by rw [D.eq]; simp
  | .tup ds => by rw [D.eq]; exact D.eqs_refl ds
  | .lst ds => by rw [D.eq]; exact D.eqs_refl ds
theorem D.eqs_refl : ∀ ds : List D, D.eqs ds ds = true
  | [] => by rw [D.eqs]
  | d :: ds => by rw [D.eqs, D.eq_refl d, D.eqs_refl ds]; rfl
end
theorem D.eqs_all : ∀ ds es : List D, D.eqs ds es = ((List.range (min ds.length es.length)).all (fun j => D.eq (ds.getD j .non) (es.getD j .non)) && ds.length == es.length)
  | [], [] => by rw [D.eqs]; rfl
  | [], _ :: _ => by rw [D.eqs]; simp; all_goals (intros; simp_all)
  | _ :: _, [] => by rw [D.eqs]; simp; all_goals (intros; simp_all)
  | d :: ds, e :: es => by
    have h : min (d :: ds).length (e :: es).length = min ds.length es.length + 1 := by simp only [List.length_cons]; omega
    rw [D.eqs, D.eqs_all ds es, h, List.range_succ_eq_map, List.all_cons, List.all_map, Bool.and_assoc]
    congr 1
    simp only [List.length_cons]
    congr 1
    by_cases q : ds.length = es.length
    · simp [q]
    · have q' : ¬ ds.length + 1 = es.length + 1 := by omega
      simp [q]

section
variable {X : Cx} {pins : List (Addr × Obj)} {σ : L2.St} {H : Hp} {s : Shared}
theorem seq_tl (I : Inv X pins σ H s) {a : Addr} {xs ys : List V} (h1 : SqT X.K H a xs) (h2 : SqL X.K H a ys) : False := by
  obtain ⟨its, _, ⟨o, e, c, _⟩, _⟩ := I.tuple h1
  obtain ⟨its2, _, p, _⟩ := I.list h2
  obtain ⟨o2, e2, c2, _⟩ := p.isList
  rw [e] at e2
  cases e2
  rw [c] at c2
  exact absurd c2 (by decide)
mutual
theorem rep_inj (I : Inv X pins σ H s) : ∀ (d d' : D) (v : V), Rep X.K H d v → Rep X.K H d' v → d = d'
  | .non, d', v, h1, h2 => by
    rw [rep_non] at h1; subst h1
    cases d' with
    | non => rfl
    | bl b => rw [rep_bl] at h2; cases h2
    | int b => rw [rep_int] at h2; cases h2
    | str b => rw [rep_str] at h2; cases h2
    | tup b => rw [rep_tup] at h2; obtain ⟨_, _, e, _⟩ := h2; cases e
    | lst b => rw [rep_lst] at h2; obtain ⟨_, _, e, _⟩ := h2; cases e
  | .bl a, d', v, h1, h2 => by
    rw [rep_bl] at h1; subst h1
    cases d' with
    | non => rw [rep_non] at h2; cases h2
    | bl b => rw [rep_bl] at h2; cases h2; rfl
    | int b => rw [rep_int] at h2; cases h2
    | str b => rw [rep_str] at h2; cases h2
    | tup b => rw [rep_tup] at h2; obtain ⟨_, _, e, _⟩ := h2; cases e
    | lst b => rw [rep_lst] at h2; obtain ⟨_, _, e, _⟩ := h2; cases e
  | .int a, d', v, h1, h2 => by
    rw [rep_int] at h1; subst h1
    cases d' with
    | non => rw [rep_non] at h2; cases h2
    | bl b => rw [rep_bl] at h2; cases h2
    | int b => rw [rep_int] at h2; cases h2; rfl
    | str b => rw [rep_str] at h2; cases h2
    | tup b => rw [rep_tup] at h2; obtain ⟨_, _, e, _⟩ := h2; cases e
    | lst b => rw [rep_lst] at h2; obtain ⟨_, _, e, _⟩ := h2; cases e
  | .str a, d', v, h1, h2 => by
    rw [rep_str] at h1; subst h1
    cases d' with
    | non => rw [rep_non] at h2; cases h2
    | bl b => rw [rep_bl] at h2; cases h2
    | int b => rw [rep_int] at h2; cases h2
    | str b => rw [rep_str] at h2; cases h2; rfl
    | tup b => rw [rep_tup] at h2; obtain ⟨_, _, e, _⟩ := h2; cases e
    | lst b => rw [rep_lst] at h2; obtain ⟨_, _, e, _⟩ := h2; cases e
  | .tup ds, d', v, h1, h2 => by
    obtain ⟨a, xs, rfl, ha, hr⟩ := rep_tupQ h1
    cases d' with
    | non => rw [rep_non] at h2; cases h2
    | bl b => rw [rep_bl] at h2; cases h2
    | int b => rw [rep_int] at h2; cases h2
    | str b => rw [rep_str] at h2; cases h2
    | tup es =>
      obtain ⟨b, ys, e, hb, hr2⟩ := rep_tupQ h2
      cases e
      have := I.tuple_inj ha hb
      subst this
      rw [reps_inj I ds es xs hr hr2]
    | lst es =>
      obtain ⟨b, ys, e, hb, hr2⟩ := rep_lst.mp h2
      cases e
      exact (seq_tl I ha hb).elim
  | .lst ds, d', v, h1, h2 => by
    obtain ⟨a, xs, rfl, ha, hr⟩ := rep_lst.mp h1
    cases d' with
    | non => rw [rep_non] at h2; cases h2
    | bl b => rw [rep_bl] at h2; cases h2
    | int b => rw [rep_int] at h2; cases h2
    | str b => rw [rep_str] at h2; cases h2
    | tup es =>
      obtain ⟨b, ys, e, hb, hr2⟩ := rep_tupQ h2
      cases e
      exact (seq_tl I hb ha).elim
    | lst es =>
      obtain ⟨b, ys, e, hb, hr2⟩ := rep_lst.mp h2
      cases e
      have := I.list_inj ha hb
      subst this
      rw [reps_inj I ds es xs hr hr2]
theorem reps_inj (I : Inv X pins σ H s) : ∀ (ds es : List D) (vs : List V), Reps X.K H ds vs → Reps X.K H es vs → ds = es
  | [], [], _, _, _ => rfl
  | [], e :: es, vs, h1, h2 => by
    rw [reps_nil] at h1; subst h1
    obtain ⟨_, _, z, _⟩ := reps_cons.mp h2
    cases z
  | d :: ds, [], vs, h1, h2 => by
    rw [reps_nil] at h2; subst h2
    obtain ⟨_, _, z, _⟩ := reps_cons.mp h1
    cases z
  | d :: ds, e :: es, vs, h1, h2 => by
    obtain ⟨v, r, rfl, a1, a2⟩ := reps_cons.mp h1
    obtain ⟨v', r', z, b1, b2⟩ := reps_cons.mp h2
    cases z
    rw [rep_inj I d e v a1 b1, reps_inj I ds es r a2 b2]
end

theorem EqAt.of_eq {A : Around} {u v : Value} {b c : Bool} (h : SeqAt.EqAt A s u v b) (e : b = c) : SeqAt.EqAt A s u v c := e ▸ h
structure Cm (A : Around) (s : Shared) (u v : Value) (b : Bool) : Prop where
  rc : SeqAt.RcAt A s u v b
  ne : SeqAt.RcNeAt A s u v (!b)
  eq : SeqAt.EqAt A s u v b

mutual
theorem cmp_at (I : Inv X pins σ H s) : ∀ (x y : D) (A : Around) (v w : V) (u1 u2 : Value), A.units + x.dep < cLine → Rep X.K H x v → Rep X.K H y w → RelV v u1 → RelV w u2 → Cm A s u1 u2 (D.eq x y)
  | .non, y, A, v, w, u1, u2, hu, rx, ry, r1, r2 => by
    rw [rep_non] at rx; subst rx
    have r1 : u1 = Value.none := r1
    subst r1
    have hu' : A.units < cLine := by omega
    cases y with
    | non => rw [rep_non] at ry; subst ry; cases (show u2 = Value.none from r2); rw [D.eq]; exact ⟨.none_none, .none_none, .same _⟩
    | bl b => rw [rep_bl] at ry; subst ry; cases (show u2 = Value.bool b from r2); rw [D.eq]; exact ⟨.none_bool b, .none_bool b, .none_bool b⟩; all_goals (intros; simp_all)
    | int b => rw [rep_int] at ry; subst ry; obtain ⟨t, q⟩ := (show ∃ t, u2 = Value.int b t from r2); subst q; rw [D.eq]; exact ⟨.none_int b t, .none_int b t, .none_int b t⟩; all_goals (intros; simp_all)
    | str b => rw [rep_str] at ry; subst ry; obtain ⟨t, q⟩ := (show ∃ t, u2 = Value.str b t from r2); subst q; rw [D.eq]; exact ⟨.none_str b t, .none_str b t, .none_str b t⟩; all_goals (intros; simp_all)
    | tup es =>
      obtain ⟨p, xs, rfl, hp, hr⟩ := rep_tupQ ry
      cases (show u2 = Value.ref p from r2)
      obtain ⟨its, _, ht, _⟩ := I.tuple hp
      rw [D.eq]
      exact ⟨.none_tuple ht hu', .none_tuple ht hu', .none_tuple ht hu'⟩
      all_goals (intros; simp_all)
    | lst es =>
      obtain ⟨p, xs, rfl, hp, hr⟩ := rep_lst.mp ry
      cases (show u2 = Value.ref p from r2)
      obtain ⟨its, _, ht, _⟩ := I.list hp
      rw [D.eq]
      exact ⟨.none_list ht.isList hu', .none_list ht.isList hu', .none_list ht.isList hu'⟩
      all_goals (intros; simp_all)
  | .bl a, y, A, v, w, u1, u2, hu, rx, ry, r1, r2 => by
    rw [rep_bl] at rx; subst rx
    have r1 : u1 = Value.bool a := r1
    subst r1
    have hu' : A.units < cLine := by omega
    cases y with
    | non => rw [rep_non] at ry; subst ry; cases (show u2 = Value.none from r2); rw [D.eq]; exact ⟨.bool_none a, .bool_none a, .bool_none a⟩; all_goals (intros; simp_all)
    | bl b => rw [rep_bl] at ry; subst ry; cases (show u2 = Value.bool b from r2); rw [D.eq]; exact ⟨.bool_bool a b, .bool_bool a b, .bool_bool a b⟩
    | int b => rw [rep_int] at ry; subst ry; obtain ⟨t, q⟩ := (show ∃ t, u2 = Value.int b t from r2); subst q; rw [D.eq]; exact ⟨.bool_int a b t, .bool_int a b t, .bool_int a b t⟩
    | str b => rw [rep_str] at ry; subst ry; obtain ⟨t, q⟩ := (show ∃ t, u2 = Value.str b t from r2); subst q; rw [D.eq]; exact ⟨.bool_str a b t, .bool_str a b t, .bool_str a b t⟩; all_goals (intros; simp_all)
    | tup es =>
      obtain ⟨p, xs, rfl, hp, hr⟩ := rep_tupQ ry
      cases (show u2 = Value.ref p from r2)
      obtain ⟨its, _, ht, _⟩ := I.tuple hp
      rw [D.eq]
      exact ⟨.bool_tuple a ht hu', .bool_tuple a ht hu', .bool_tuple a ht hu'⟩
      all_goals (intros; simp_all)
    | lst es =>
      obtain ⟨p, xs, rfl, hp, hr⟩ := rep_lst.mp ry
      cases (show u2 = Value.ref p from r2)
      obtain ⟨its, _, ht, _⟩ := I.list hp
      rw [D.eq]
      exact ⟨.bool_list a ht.isList hu', .bool_list a ht.isList hu', .bool_list a ht.isList hu'⟩
      all_goals (intros; simp_all)
  | .int a, y, A, v, w, u1, u2, hu, rx, ry, r1, r2 => by
    rw [rep_int] at rx; subst rx
    obtain ⟨t1, q1⟩ := (show ∃ t, u1 = Value.int a t from r1)
    subst q1
    have hu' : A.units < cLine := by omega
    cases y with
    | non => rw [rep_non] at ry; subst ry; cases (show u2 = Value.none from r2); rw [D.eq]; exact ⟨.int_none a t1, .int_none a t1, .int_none a t1⟩; all_goals (intros; simp_all)
    | bl b => rw [rep_bl] at ry; subst ry; cases (show u2 = Value.bool b from r2); rw [D.eq]; exact ⟨.int_bool a t1 b, .int_bool a t1 b, .int_bool a t1 b⟩
    | int b => rw [rep_int] at ry; subst ry; obtain ⟨t, q⟩ := (show ∃ t, u2 = Value.int b t from r2); subst q; rw [D.eq]; exact ⟨.int_int a t1 b t, .int_int a t1 b t, .int_int a t1 b t⟩
    | str b => rw [rep_str] at ry; subst ry; obtain ⟨t, q⟩ := (show ∃ t, u2 = Value.str b t from r2); subst q; rw [D.eq]; exact ⟨.int_str a t1 b t, .int_str a t1 b t, .int_str a t1 b t⟩; all_goals (intros; simp_all)
    | tup es =>
      obtain ⟨p, xs, rfl, hp, hr⟩ := rep_tupQ ry
      cases (show u2 = Value.ref p from r2)
      obtain ⟨its, _, ht, _⟩ := I.tuple hp
      rw [D.eq]
      exact ⟨.int_tuple a t1 ht hu', .int_tuple a t1 ht hu', .int_tuple a t1 ht hu'⟩
      all_goals (intros; simp_all)
    | lst es =>
      obtain ⟨p, xs, rfl, hp, hr⟩ := rep_lst.mp ry
      cases (show u2 = Value.ref p from r2)
      obtain ⟨its, _, ht, _⟩ := I.list hp
      rw [D.eq]
      exact ⟨.int_list a t1 ht.isList hu', .int_list a t1 ht.isList hu', .int_list a t1 ht.isList hu'⟩
      all_goals (intros; simp_all)
  | .str a, y, A, v, w, u1, u2, hu, rx, ry, r1, r2 => by
    rw [rep_str] at rx; subst rx
    obtain ⟨t1, q1⟩ := (show ∃ t, u1 = Value.str a t from r1)
    subst q1
    have hu' : A.units < cLine := by omega
    cases y with
    | non => rw [rep_non] at ry; subst ry; cases (show u2 = Value.none from r2); rw [D.eq]; exact ⟨.str_none a t1, .str_none a t1, .str_none a t1⟩; all_goals (intros; simp_all)
    | bl b => rw [rep_bl] at ry; subst ry; cases (show u2 = Value.bool b from r2); rw [D.eq]; exact ⟨.str_bool a t1 b, .str_bool a t1 b, .str_bool a t1 b⟩; all_goals (intros; simp_all)
    | int b => rw [rep_int] at ry; subst ry; obtain ⟨t, q⟩ := (show ∃ t, u2 = Value.int b t from r2); subst q; rw [D.eq]; exact ⟨.str_int a t1 b t, .str_int a t1 b t, .str_int a t1 b t⟩; all_goals (intros; simp_all)
    | str b => rw [rep_str] at ry; subst ry; obtain ⟨t, q⟩ := (show ∃ t, u2 = Value.str b t from r2); subst q; rw [D.eq]; exact ⟨.str_str a t1 b t, .str_str a t1 b t, .str_str a t1 b t⟩
    | tup es =>
      obtain ⟨p, xs, rfl, hp, hr⟩ := rep_tupQ ry
      cases (show u2 = Value.ref p from r2)
      obtain ⟨its, _, ht, _⟩ := I.tuple hp
      rw [D.eq]
      exact ⟨.str_tuple a t1 ht hu', .str_tuple a t1 ht hu', .str_tuple a t1 ht hu'⟩
      all_goals (intros; simp_all)
    | lst es =>
      obtain ⟨p, xs, rfl, hp, hr⟩ := rep_lst.mp ry
      cases (show u2 = Value.ref p from r2)
      obtain ⟨its, _, ht, _⟩ := I.list hp
      rw [D.eq]
      exact ⟨.str_list a t1 ht.isList hu', .str_list a t1 ht.isList hu', .str_list a t1 ht.isList hu'⟩
      all_goals (intros; simp_all)
  | .tup ds, y, A, v, w, u1, u2, hu, rx, ry, r1, r2 => by
    rw [D.dep] at hu
    have hu' : A.units < cLine := by omega
    obtain ⟨p1, xs1, rfl, hp1, hr1⟩ := rep_tupQ rx
    cases (show u1 = Value.ref p1 from r1)
    obtain ⟨its1, rv1, ht1, _⟩ := I.tuple hp1
    cases y with
    | non => rw [rep_non] at ry; subst ry; cases (show u2 = Value.none from r2); rw [D.eq]; exact ⟨.tuple_none ht1 hu', .tuple_none ht1 hu', .tuple_none ht1 hu'⟩; all_goals (intros; simp_all)
    | bl b => rw [rep_bl] at ry; subst ry; cases (show u2 = Value.bool b from r2); rw [D.eq]; exact ⟨.tuple_bool b ht1 hu', .tuple_bool b ht1 hu', .tuple_bool b ht1 hu'⟩; all_goals (intros; simp_all)
    | int b => rw [rep_int] at ry; subst ry; obtain ⟨t, q⟩ := (show ∃ t, u2 = Value.int b t from r2); subst q; rw [D.eq]; exact ⟨.tuple_int b t ht1 hu', .tuple_int b t ht1 hu', .tuple_int b t ht1 hu'⟩; all_goals (intros; simp_all)
    | str b => rw [rep_str] at ry; subst ry; obtain ⟨t, q⟩ := (show ∃ t, u2 = Value.str b t from r2); subst q; rw [D.eq]; exact ⟨.tuple_str b t ht1 hu', .tuple_str b t ht1 hu', .tuple_str b t ht1 hu'⟩; all_goals (intros; simp_all)
    | tup es =>
      obtain ⟨p2, xs2, rfl, hp2, hr2⟩ := rep_tupQ ry
      cases (show u2 = Value.ref p2 from r2)
      obtain ⟨its2, rv2, ht2, _⟩ := I.tuple hp2
      have l1 : its1.toArray.size = ds.length := by rw [List.size_toArray, ← rv1.length, ← hr1.length]
      have l2 : its2.toArray.size = es.length := by rw [List.size_toArray, ← rv2.length, ← hr2.length]
      have items := cmps_at I ds es A.in1 xs1 xs2 its1 its2 (by show A.units + 1 + _ < _; omega) hr1 hr2 rv1 rv2
      have he : ∀ j (h1 : j < its1.toArray.size) (h2 : j < its2.toArray.size), SeqAt.EqAt A.in1 s its1.toArray[j] its2.toArray[j] (D.eq (ds.getD j .non) (es.getD j .non)) := fun j h1 h2 => by
        refine items j _ _ _ _ ?_ ?_ ?_ ?_
        · rw [List.getD_eq_getElem?_getD, List.getElem?_eq_getElem (by omega)]; simp
        · rw [List.getD_eq_getElem?_getD, List.getElem?_eq_getElem (by omega)]; simp
        · simp
        · simp
      have rc := SeqAt.RcAt.tuples ht1 ht2 hu' he
      have ne := SeqAt.RcNeAt.tuples ht1 ht2 hu' he
      rw [l1, l2, ← D.eqs_all] at rc ne
      rw [D.eq]
      refine ⟨rc, ne, ?_⟩
      by_cases hpp : p1 = p2
      · subst hpp
        have := rep_inj I _ _ _ rx ry
        cases this
        rw [D.eqs_refl]
        exact .same _
      · exact .of_refs hpp rc
    | lst es =>
      obtain ⟨p2, xs2, rfl, hp2, hr2⟩ := rep_lst.mp ry
      cases (show u2 = Value.ref p2 from r2)
      obtain ⟨its2, rv2, ht2, _⟩ := I.list hp2
      rw [D.eq]
      exact ⟨.tuple_list ht1 ht2.isList hu', .tuple_list ht1 ht2.isList hu', .tuple_list ht1 ht2.isList hu'⟩
      all_goals (intros; simp_all)
  | .lst ds, y, A, v, w, u1, u2, hu, rx, ry, r1, r2 => by
    rw [D.dep] at hu
    have hu' : A.units < cLine := by omega
    obtain ⟨p1, xs1, rfl, hp1, hr1⟩ := rep_lst.mp rx
    cases (show u1 = Value.ref p1 from r1)
    obtain ⟨its1, rv1, pl1, _⟩ := I.list hp1
    have ht1 := pl1.isList
    cases y with
    | non => rw [rep_non] at ry; subst ry; cases (show u2 = Value.none from r2); rw [D.eq]; exact ⟨.list_none ht1 hu', .list_none ht1 hu', .list_none ht1 hu'⟩; all_goals (intros; simp_all)
    | bl b => rw [rep_bl] at ry; subst ry; cases (show u2 = Value.bool b from r2); rw [D.eq]; exact ⟨.list_bool b ht1 hu', .list_bool b ht1 hu', .list_bool b ht1 hu'⟩; all_goals (intros; simp_all)
    | int b => rw [rep_int] at ry; subst ry; obtain ⟨t, q⟩ := (show ∃ t, u2 = Value.int b t from r2); subst q; rw [D.eq]; exact ⟨.list_int b t ht1 hu', .list_int b t ht1 hu', .list_int b t ht1 hu'⟩; all_goals (intros; simp_all)
    | str b => rw [rep_str] at ry; subst ry; obtain ⟨t, q⟩ := (show ∃ t, u2 = Value.str b t from r2); subst q; rw [D.eq]; exact ⟨.list_str b t ht1 hu', .list_str b t ht1 hu', .list_str b t ht1 hu'⟩; all_goals (intros; simp_all)
    | tup es =>
      obtain ⟨p2, xs2, rfl, hp2, hr2⟩ := rep_tupQ ry
      cases (show u2 = Value.ref p2 from r2)
      obtain ⟨its2, rv2, ht2, _⟩ := I.tuple hp2
      rw [D.eq]
      exact ⟨.list_tuple ht1 ht2 hu', .list_tuple ht1 ht2 hu', .list_tuple ht1 ht2 hu'⟩
      all_goals (intros; simp_all)
    | lst es =>
      obtain ⟨p2, xs2, rfl, hp2, hr2⟩ := rep_lst.mp ry
      cases (show u2 = Value.ref p2 from r2)
      obtain ⟨its2, rv2, pl2, _⟩ := I.list hp2
      have ht2 := pl2.isList
      have l1 : its1.toArray.size = ds.length := by rw [List.size_toArray, ← rv1.length, ← hr1.length]
      have l2 : its2.toArray.size = es.length := by rw [List.size_toArray, ← rv2.length, ← hr2.length]
      have items := cmps_at I ds es A.in1 xs1 xs2 its1 its2 (by show A.units + 1 + _ < _; omega) hr1 hr2 rv1 rv2
      have he : ∀ j (h1 : j < its1.toArray.size) (h2 : j < its2.toArray.size), SeqAt.EqAt A.in1 s its1.toArray[j] its2.toArray[j] (D.eq (ds.getD j .non) (es.getD j .non)) := fun j h1 h2 => by
        refine items j _ _ _ _ ?_ ?_ ?_ ?_
        · rw [List.getD_eq_getElem?_getD, List.getElem?_eq_getElem (by omega)]; simp
        · rw [List.getD_eq_getElem?_getD, List.getElem?_eq_getElem (by omega)]; simp
        · simp
        · simp
      have both : SeqAt.RcAt A s (.ref p1) (.ref p2) (D.eqs ds es) ∧ SeqAt.RcNeAt A s (.ref p1) (.ref p2) (!D.eqs ds es) := by
        by_cases hl : ds.length = es.length
        · have rc := SeqAt.RcAt.lists ht1 ht2 (by omega) hu' he
          have ne := SeqAt.RcNeAt.lists ht1 ht2 (by omega) hu' he
          have e : D.eqs ds es = (List.range its1.toArray.size).all fun j => D.eq (ds.getD j .non) (es.getD j .non) := by
            rw [D.eqs_all, l1, ← hl, Nat.min_self]; simp
          rw [e]
          exact ⟨rc, ne⟩
        · have e : D.eqs ds es = false := by rw [D.eqs_all]; simp [hl]
          rw [e]
          have hs : (its1.toArray.size != its2.toArray.size) = true := by rw [l1, l2]; simpa using hl
          exact ⟨.lists_lengths ht1 ht2 hs hu', .lists_lengths ht1 ht2 hs hu'⟩
      rw [D.eq]
      refine ⟨both.1, both.2, ?_⟩
      by_cases hpp : p1 = p2
      · subst hpp
        have := rep_inj I _ _ _ rx ry
        cases this
        rw [D.eqs_refl]
        exact .same _
      · exact .of_refs hpp both.1
theorem cmps_at (I : Inv X pins σ H s) : ∀ (ds es : List D) (A : Around) (vs ws : List V) (us1 us2 : List Value), A.units + D.deps ds < cLine → Reps X.K H ds vs → Reps X.K H es ws → Vals vs us1 → Vals ws us2 →
    ∀ (j : Nat) (d e : D) (u1 u2 : Value), ds[j]? = some d → es[j]? = some e → us1[j]? = some u1 → us2[j]? = some u2 → SeqAt.EqAt A s u1 u2 (D.eq d e)
  | [], _, _, _, _, _, _, _, _, _, _, _, j, _, _, _, _, h, _, _, _ => by simp at h
  | _ :: _, [], _, _, _, _, _, _, _, _, _, _, j, _, _, _, _, _, h, _, _ => by simp at h
  | d0 :: ds, e0 :: es, A, vs, ws, us1, us2, hu, r1, r2, v1, v2, j, d, e, u1, u2, h1, h2, h3, h4 => by
    rw [D.deps] at hu
    obtain ⟨x, xr, rfl, a1, a2⟩ := reps_cons.mp r1
    obtain ⟨y, yr, rfl, b1, b2⟩ := reps_cons.mp r2
    cases v1 with
    | cons c1 c2 =>
      cases v2 with
      | cons d1 d2 =>
        cases j with
        | zero =>
          simp at h1 h2 h3 h4
          subst h1 h2 h3 h4
          exact (cmp_at I d0 e0 A x y _ _ (by omega) a1 b1 c1 d1).eq
        | succ j =>
          simp at h1 h2 h3 h4
          exact cmps_at I ds es A xr yr _ _ (by omega) a2 b2 c2 d2 j d e u1 u2 h1 h2 h3 h4
end
end

section
variable {X : Cx} {E : XK} {pos : Pos} {a b : Expr}
def gEq (x y : D) : M D := if x.dep ≤ 60 then .ok (.bl (D.eq x y)) else .bad
def gNe (x y : D) : M D := if x.dep ≤ 60 then .ok (.bl (!D.eq x y)) else .bad
theorem od_eq (hu : X.A.units + 64 < cLine) : OpD X E (compareOp .Eq) gEq := by
  refine ⟨fun x y H Q => ∃ dx dy, Rep X.K H dx x ∧ Rep X.K H dy y ∧ dx.dep ≤ 60 ∧ Q (.bl (D.eq dx dy)) H, fun pins s σ H x y v u Q I rx ry h => ?_, fun Hf H x y dx dy Q e rx ry q => ?_⟩
  · obtain ⟨dx, dy, h1, h2, h3, q⟩ := h
    exact (cmp_at I dx dy X.A x y v u (by omega) h1 h2 rx ry).rc _ _ _ _ ⟨.bl _, H, I, rfl, q⟩
  · unfold gEq at q
    split at q
    · rename_i hd
      exact ⟨dx, dy, rx.mono e, ry.mono e, hd, Po.ret e q (rep_bl.mpr rfl)⟩
    · exact q.elim
theorem od_ne (hu : X.A.units + 64 < cLine) : OpD X E (compareOp .NotEq) gNe := by
  refine ⟨fun x y H Q => ∃ dx dy, Rep X.K H dx x ∧ Rep X.K H dy y ∧ dx.dep ≤ 60 ∧ Q (.bl (!D.eq dx dy)) H, fun pins s σ H x y v u Q I rx ry h => ?_, fun Hf H x y dx dy Q e rx ry q => ?_⟩
  · obtain ⟨dx, dy, h1, h2, h3, q⟩ := h
    exact (cmp_at I dx dy X.A x y v u (by omega) h1 h2 rx ry).ne _ _ _ _ ⟨.bl _, H, I, rfl, q⟩
  · unfold gNe at q
    split at q
    · rename_i hd
      exact ⟨dx, dy, rx.mono e, ry.mono e, hd, Po.ret e q (rep_bl.mpr rfl)⟩
    · exact q.elim
end
end DL

set_option maxHeartbeats 4000000

namespace DL
open PySem PySem.Spec PyProof.Rows L2

/-! ### isinstance against a built-in kind -/
def tyD : D → String
  | .non => "NoneType"
  | .bl _ => "bool"
  | .int _ => "int"
  | .str _ => "str"
  | .tup _ => "tuple"
  | .lst _ => "list"
def isD (T : String) : D → Bool
  | .non => false
  | .bl _ => T == "bool" || T == "int"
  | .int _ => T == "int"
  | .str _ => T == "str"
  | .tup _ => T == "tuple"
  | .lst _ => T == "list"
theorem kit_ok (K : PySem.W.Frag) (d : D) {T : String} (hT : T ∈ ["int", "bool", "tuple", "list", "str"]) : PySem.W.kitOne K (.type (tyD d)) (.type T) = some (isD T d) := by
  simp only [List.mem_cons, List.not_mem_nil, or_false] at hT
  rcases hT with rfl | rfl | rfl | rfl | rfl <;> cases d <;> rfl
section
variable {X : Cx} {E : XK} {pos : Pos} {a b : Expr}
theorem call_isinst {T : String} (hT : T ∈ ["int", "bool", "tuple", "list", "str"]) : CallR X (.builtin "isinstance") (fun xs H Q => ∃ x d, xs = [x, .ty T] ∧ Rep X.K H d x ∧ Q (.bl (isD T d)) H) := by
  intro pins s σ H xs us Q I r h
  obtain ⟨x, d, rfl, hx, q⟩ := h
  obtain ⟨u, w', rfl, r1, r2⟩ := vals2 r
  cases (show w' = Value.type T from r2)
  have e := kit_ok X.K d hT
  have fin : ∀ tk, EP X pins σ Q (.bool (isD T d)) { s with toks := tk } := fun tk => ⟨.bl _, H, I.tok _, rfl, q⟩
  cases d with
  | non => rw [rep_non] at hx; subst hx; cases (show u = Value.none from r1); exact PySem.W.kia_one PySem.W.kitx_none I.kIn True.intro e (fun z => nomatch z) fin
  | bl y => rw [rep_bl] at hx; subst hx; cases (show u = Value.bool y from r1); exact PySem.W.kia_one PySem.W.kitx_bool I.kIn True.intro e (fun z => nomatch z) fin
  | int y => rw [rep_int] at hx; subst hx; obtain ⟨t, z⟩ := (show ∃ t, u = Value.int y t from r1); subst z; exact PySem.W.kia_one PySem.W.kitx_int I.kIn True.intro e (fun z => nomatch z) fin
  | str y => rw [rep_str] at hx; subst hx; obtain ⟨t, z⟩ := (show ∃ t, u = Value.str y t from r1); subst z; exact PySem.W.kia_one PySem.W.kitx_str I.kIn True.intro e (fun z => nomatch z) fin
  | tup ds =>
    obtain ⟨p, ys, rfl, hp, hr⟩ := rep_tupQ hx
    cases (show u = Value.ref p from r1)
    obtain ⟨its, _, ⟨o, h1, h2, _⟩, _⟩ := I.tuple hp
    exact PySem.W.kia_one PySem.W.kitx_tuple I.kIn ⟨o, h1, h2⟩ e (fun z => nomatch z) fin
  | lst ds =>
    obtain ⟨p, ys, rfl, hp, hr⟩ := rep_lst.mp hx
    cases (show u = Value.ref p from r1)
    obtain ⟨its, _, pl, _⟩ := I.list hp
    obtain ⟨o, h1, h2, _⟩ := pl.isList
    exact PySem.W.kia_one PySem.W.kitx_list I.kIn ⟨o, h1, h2⟩ e (fun z => nomatch z) fin
def eIs (T : String) (f : DSt → M D) (sd : DSt) : M D := (f sd).bind fun d => .ok (.bl (isD T d))
theorem pd_isinst (T : String) {p p2 : Pos} {f : DSt → M D} (hg : Gl X "isinstance") (hm : X.mg "isinstance" = none) (hmT : X.mg (Str.ofString T) = none) (hgT : Gl X (Str.ofString T)) (hvT : bootBuiltins (Str.ofString T) = some (.type T)) (h : PEd X E a f)
    (hT : T ∈ ["int", "bool", "tuple", "list", "str"] := by decide) (hnT : (Str.ofString T) ≠ "__name__" := by decide) (hdT : ((Str.ofString T) == ("__debug__" : Str)) = false := by decide)
    (he : starEach [a, .Name (Str.ofString T) p2] X.env = (false, eval a X.env) :: starEach [.Name (Str.ofString T) p2] X.env := by rfl) (he2 : starEach [.Name (Str.ofString T) p2] X.env = (false, eval (.Name (Str.ofString T) p2) X.env) :: starEach [] X.env := by rfl)
    (hpl : (backTo pos (starEach [.Name (Str.ofString T) p2] X.env)).any (·.1) = false := by rfl) (hv : bootBuiltins "isinstance" = some (.builtin "isinstance") := by rfl) :
    PEd X E (.Call (.Name "isinstance" p) [a, .Name (Str.ofString T) p2] [] pos) (eIs T f) := by
  obtain ⟨t, pt, qt⟩ := h
  refine ⟨_, pe_callB (call_isinst hT) hg hm hv (pa_cons pt (pa_cons (pe_bltn (v := .ty T) hgT hmT hvT rfl hnT hdT) pa_nil he2) he) (by decide) (by decide) he hpl, fun H0 B Hf sd σ H Q sr h => ?_⟩
  refine qt H0 B Hf sd σ H _ sr (Po.bind h fun d v Hf1 H1 _ g1 rv h1 => ?_)
  exact ⟨v, d, rfl, Rep.mono g1.sub rv, Po.ret (R := rV X.K) g1.sub h1 (rep_bl.mpr rfl)⟩

/-! ### all, any of a list of truths -/
def boolsOf : List D → Option (List Bool)
  | [] => some []
  | .bl b :: r => (boolsOf r).map (b :: ·)
  | _ :: _ => none
theorem boolsOf_reps {K : PySem.W.Frag} {H : Hp} : ∀ {ds : List D} {bs : List Bool} {xs : List V}, boolsOf ds = some bs → Reps K H ds xs → xs = bs.map V.bl
  | [], bs, xs, e, r => by
    rw [reps_nil.mp r]
    cases e
    rfl
  | .bl b :: ds, bs, xs, e, r => by
    obtain ⟨x, t, rfl, h1, h2⟩ := reps_cons.mp r
    unfold boolsOf at e
    cases q : boolsOf ds with
    | none => rw [q] at e; cases e
    | some cs =>
      rw [q] at e
      cases e
      rw [rep_bl.mp h1, boolsOf_reps q h2]
      rfl
  | .non :: _, _, _, e, _ => by cases e
  | .int _ :: _, _, _, e, _ => by cases e
  | .str _ :: _, _, _, e, _ => by cases e
  | .tup _ :: _, _, _, e, _ => by cases e
  | .lst _ :: _, _, _, e, _ => by cases e
theorem vals_bl {bs : List Bool} : ∀ {us : List Value}, Vals (bs.map V.bl) us → us = bs.map Value.bool := by
  induction bs with
  | nil => intro us r; cases r; rfl
  | cons b bs ih =>
    intro us r
    cases r with
    | cons r1 r2 => rw [ih r2]; cases (show _ = Value.bool b from r1); rfl
theorem range_all' (bs : List Bool) : ((List.range bs.length).all fun i => (bs[i]?).getD true) = bs.all id := by
  induction bs with
  | nil => rfl
  | cons b bs ih =>
    rw [List.length_cons, List.range_succ_eq_map, List.all_cons, List.all_map, List.all_cons]
    have : (((fun i => ((b :: bs)[i]?).getD true) ∘ Nat.succ) : Nat → Bool) = fun i => (bs[i]?).getD true := by funext i; simp
    rw [this, ih]
    simp
theorem range_any' (bs : List Bool) : ((List.range bs.length).any fun i => (bs[i]?).getD false) = bs.any id := by
  induction bs with
  | nil => rfl
  | cons b bs ih =>
    rw [List.length_cons, List.range_succ_eq_map, List.any_cons, List.any_map, List.any_cons]
    have : (((fun i => ((b :: bs)[i]?).getD false) ∘ Nat.succ) : Nat → Bool) = fun i => (bs[i]?).getD false := by funext i; simp
    rw [this, ih]
    simp
theorem kept_it {s : Shared} {h' : Heap} {o : Obj} (hk : ∀ b x, b ∉ [s.heap.objs.size] → (s.heap.push o).get? b = some x → h'.get? b = some x) : ∀ b x, s.heap.get? b = some x → h'.get? b = some x :=
  fun b x e => hk b x (fun hm => by rw [List.mem_singleton.mp hm] at e; exact Nat.lt_irrefl _ (Heap.lt_size e)) (Heap.get?_push_of_some _ e)
theorem call_allB (hc : X.calm = true) : CallR X (.builtin "all") (fun xs H Q => ∃ (p : Addr) (bs : List Bool), xs = [.ref p] ∧ SqL X.K H p (bs.map V.bl) ∧ Q (.bl (bs.all id)) H) := by
  intro pins s σ H xs us Q I r h
  obtain ⟨p, bs, rfl, hp, q⟩ := h
  obtain ⟨u, rfl, rx⟩ := vals1 r
  cases rx
  obtain ⟨its, rv, pl, _⟩ := I.list hp
  have hl := pl.isList
  have ei := vals_bl rv
  have hlt : p < s.heap.objs.size := by obtain ⟨_, e, _⟩ := hl; exact Heap.lt_size e
  refine call_all_walk (wpAny_pyIter_list hl ?_)
  refine ⟨s.heap.objs.size, [s.heap.objs.size, p], [s.heap.objs.size], its.toArray.size, _, _, fun i => (bs[i]?).getD true, rfl, Walks.list (A := X.A.in1) (I.ok.hd hc) _ p (Nat.ne_of_lt hlt) its.toArray,
    ⟨⟨_, Heap.get?_push_size _ rfl, rfl, rfl⟩, hl.push _⟩, fun i v s' Q' E' hP hQ => ?_, fun h' tk hk => ?_⟩
  · have hv : its[i]? = some v := by simpa using hP
    rw [ei, List.getElem?_map] at hv
    cases eb : bs[i]? with
    | none => rw [eb] at hv; cases hv
    | some b =>
      rw [eb] at hv
      cases hv
      simp only [eb, Option.getD_some] at hQ
      exact wpAny_truthy_bool hQ
  · have e : ((List.range its.toArray.size).all fun i => (bs[i]?).getD true) = bs.all id := by
      rw [List.size_toArray, ei, List.length_map]; exact range_all' bs
    rw [e]
    exact ⟨.bl _, H, I.kept (kept_it hk), rfl, q⟩
theorem call_anyB (hc : X.calm = true) : CallR X (.builtin "any") (fun xs H Q => ∃ (p : Addr) (bs : List Bool), xs = [.ref p] ∧ SqL X.K H p (bs.map V.bl) ∧ Q (.bl (bs.any id)) H) := by
  intro pins s σ H xs us Q I r h
  obtain ⟨p, bs, rfl, hp, q⟩ := h
  obtain ⟨u, rfl, rx⟩ := vals1 r
  cases rx
  obtain ⟨its, rv, pl, _⟩ := I.list hp
  have hl := pl.isList
  have ei := vals_bl rv
  have hlt : p < s.heap.objs.size := by obtain ⟨_, e, _⟩ := hl; exact Heap.lt_size e
  refine call_any_walk (wpAny_pyIter_list hl ?_)
  refine ⟨s.heap.objs.size, [s.heap.objs.size, p], [s.heap.objs.size], its.toArray.size, _, _, fun i => (bs[i]?).getD false, rfl, Walks.list (A := X.A.in1) (I.ok.hd hc) _ p (Nat.ne_of_lt hlt) its.toArray,
    ⟨⟨_, Heap.get?_push_size _ rfl, rfl, rfl⟩, hl.push _⟩, fun i v s' Q' E' hP hQ => ?_, fun h' tk hk => ?_⟩
  · have hv : its[i]? = some v := by simpa using hP
    rw [ei, List.getElem?_map] at hv
    cases eb : bs[i]? with
    | none => rw [eb] at hv; cases hv
    | some b =>
      rw [eb] at hv
      cases hv
      simp only [eb, Option.getD_some] at hQ
      exact wpAny_truthy_bool hQ
  · have e : ((List.range its.toArray.size).any fun i => (bs[i]?).getD false) = bs.any id := by
      rw [List.size_toArray, ei, List.length_map]; exact range_any' bs
    rw [e]
    exact ⟨.bl _, H, I.kept (kept_it hk), rfl, q⟩
def bAll : List D → M D
  | [.lst ds] => match boolsOf ds with
    | some bs => .ok (.bl (bs.all id))
    | none => .bad
  | _ => .bad
def bAny : List D → M D
  | [.lst ds] => match boolsOf ds with
    | some bs => .ok (.bl (bs.any id))
    | none => .bad
  | _ => .bad
theorem cd_all (hc : X.calm = true) : CallD X E (.builtin "all") bAll := by
  refine ⟨_, call_allB hc, fun Hf H xs ds Q e r q => ?_⟩
  unfold bAll at q
  split at q
  · split at q
    · rename_i bs hb
      obtain ⟨x, rfl, h⟩ := reps1 r
      obtain ⟨p, ys, rfl, hp, hr⟩ := rep_lst.mp h
      have := boolsOf_reps hb hr
      subst this
      exact ⟨p, bs, rfl, e.seq hp, Po.ret e q (rep_bl.mpr rfl)⟩
    · exact q.elim
  · exact q.elim
theorem cd_any (hc : X.calm = true) : CallD X E (.builtin "any") bAny := by
  refine ⟨_, call_anyB hc, fun Hf H xs ds Q e r q => ?_⟩
  unfold bAny at q
  split at q
  · split at q
    · rename_i bs hb
      obtain ⟨x, rfl, h⟩ := reps1 r
      obtain ⟨p, ys, rfl, hp, hr⟩ := rep_lst.mp h
      have := boolsOf_reps hb hr
      subst this
      exact ⟨p, bs, rfl, e.seq hp, Po.ret e q (rep_bl.mpr rfl)⟩
    · exact q.elim
  · exact q.elim

/-! ### sorted, of fewer than 64 ints -/
def insI (x : Int) : List Int → List Int
  | [] => [x]
  | y :: r => if x ≤ y then x :: y :: r else y :: insI x r
def sortI : List Int → List Int
  | [] => []
  | x :: r => insI x (sortI r)
theorem insI_perm (x : Int) : ∀ l : List Int, (insI x l).Perm (x :: l)
  | [] => List.Perm.refl _
  | y :: r => by
    unfold insI
    split
    · exact List.Perm.refl _
    · exact ((insI_perm x r).cons y).trans (List.Perm.swap x y r)
theorem sortI_perm : ∀ l : List Int, (sortI l).Perm l
  | [] => List.Perm.refl _
  | x :: r => (insI_perm x _).trans ((sortI_perm r).cons x)
theorem insI_sorted (x : Int) : ∀ l : List Int, l.Pairwise (· ≤ ·) → (insI x l).Pairwise (· ≤ ·)
  | [], _ => by simp [insI]
  | y :: r, h => by
    obtain ⟨h1, h2⟩ := List.pairwise_cons.mp h
    unfold insI
    split
    · rename_i hxy
      refine List.pairwise_cons.mpr ⟨fun z hz => ?_, h⟩
      rcases List.mem_cons.mp hz with rfl | hz
      · exact hxy
      · exact Int.le_trans hxy (h1 z hz)
    · rename_i hxy
      refine List.pairwise_cons.mpr ⟨fun z hz => ?_, insI_sorted x r h2⟩
      rcases List.mem_cons.mp ((insI_perm x r).mem_iff.mp hz) with rfl | hz
      · omega
      · exact h1 z hz
theorem sortI_sorted : ∀ l : List Int, (sortI l).Pairwise (· ≤ ·)
  | [] => List.Pairwise.nil
  | x :: r => insI_sorted x _ (sortI_sorted r)
def intsOf : List D → Option (List Int)
  | [] => some []
  | .int b :: r => (intsOf r).map (b :: ·)
  | _ :: _ => none
theorem intsOf_reps {K : PySem.W.Frag} {H : Hp} : ∀ {ds : List D} {bs : List Int} {xs : List V}, intsOf ds = some bs → Reps K H ds xs → xs = bs.map V.int
  | [], bs, xs, e, r => by
    rw [reps_nil.mp r]
    cases e
    rfl
  | .int b :: ds, bs, xs, e, r => by
    obtain ⟨x, t, rfl, h1, h2⟩ := reps_cons.mp r
    unfold intsOf at e
    cases q : intsOf ds with
    | none => rw [q] at e; cases e
    | some cs =>
      rw [q] at e
      cases e
      rw [rep_int.mp h1, intsOf_reps q h2]
      rfl
  | .non :: _, _, _, e, _ => by cases e
  | .bl _ :: _, _, _, e, _ => by cases e
  | .str _ :: _, _, _, e, _ => by cases e
  | .tup _ :: _, _, _, e, _ => by cases e
  | .lst _ :: _, _, _, e, _ => by cases e
theorem reps_of_ints {K : PySem.W.Frag} {H : Hp} : ∀ ns : List Int, Reps K H (ns.map D.int) (ns.map V.int)
  | [] => Reps.nil
  | _ :: ns => Reps.cons (rep_int.mpr rfl) (reps_of_ints ns)
theorem call_sortedI : CallR X (.builtin "sorted") (fun xs H Q => ∃ (p : Addr) (ns : List Int), xs = [.ref p] ∧ SqL X.K H p (ns.map V.int) ∧ ns.length < 64 ∧ ∀ l, H l = none → Q (.ref l) (upd H l (.lst ((sortI ns).map V.int)))) := by
  intro pins s σ H xs us Q I r h
  obtain ⟨p, ns, rfl, hp, hl, q⟩ := h
  obtain ⟨u, rfl, rx⟩ := vals1 r
  cases rx
  obtain ⟨its, rv, pl, hz⟩ := I.list hp
  have hi : IntsAre its ns := intsAre_of rv
  have hlen : its.length = ns.length := by rw [← rv.length, List.length_map]
  refine sorted_ints pl.isList hi (by omega) fun out ns' a1 a2 a3 => ?_
  have e : ns' = sortI ns := PySem.W.ksm_same (a2.trans (sortI_perm ns).symm) a3 (sortI_sorted ns)
  subst e
  obtain ⟨n, he⟩ := sortedAll_at s.heap its out
  refine ⟨.ref (s.heap.objs.size + 1), _, I.laid (t' := s.toks) (o := .lst ((sortI ns).map V.int)) (fun b o e => sortedAll_old e) (Nat.le_succ _) ?_, rfl, q _ (I.hok.fresh (Nat.le_succ _))⟩
  refine ⟨?_, out.toList, n, vals_ints a1, he⟩
  rw [List.length_map, (sortI_perm ns).length_eq, ← List.length_map (f := V.int)]
  exact hz
def bSorted : List D → M D
  | [.lst ds] => match intsOf ds with
    | some ns => if ns.length < 64 then .ok (.lst ((sortI ns).map D.int)) else .bad
    | none => .bad
  | _ => .bad
theorem cd_sorted : CallD X E (.builtin "sorted") bSorted := by
  refine ⟨_, call_sortedI, fun Hf H xs ds Q e r q => ?_⟩
  unfold bSorted at q
  split at q
  · split at q
    · rename_i ns hb
      split at q
      · rename_i hl
        obtain ⟨x, rfl, h⟩ := reps1 r
        obtain ⟨p, ys, rfl, hp, hr⟩ := rep_lst.mp h
        have := intsOf_reps hb hr
        subst this
        exact ⟨p, ns, rfl, e.seq hp, hl, fun l hl => q _ _ _ (Gr.alloc e hl _) (Gr.lst e hl (reps_of_ints _))⟩
      · exact q.elim
    · exact q.elim
  · exact q.elim

/-! ### + of ints, lists, tuples, texts -/
theorem op_catS : OpR X (binaryOp .Add) (fun x y H Q => ∃ l b xs zs, x = .ref l ∧ y = .ref b ∧ SqL X.K H l xs ∧ SqL X.K H b zs ∧ xs.length + zs.length ≤ sizeLine ∧ ∀ p, H p = none → Q (.ref p) (upd H p (.lst (xs ++ zs)))) := by
  intro pins s σ H x y v u Q I rx ry h
  obtain ⟨l, b, xs, zs, rfl, rfl, hH, hB, hz, q⟩ := h
  cases rx
  cases ry
  obtain ⟨its, r, pl, z⟩ := I.list hH
  obtain ⟨its2, r2, pl2, z2⟩ := I.list hB
  have l1 := r.length
  have l2 := r2.length
  obtain ⟨⟨cls, dd, data, sl⟩, ho, hc, n, hd⟩ := pl.isList
  obtain ⟨⟨cls2, dd2, data2, sl2⟩, ho2, hc2, n2, hd2⟩ := pl2.isList
  simp only at hc hd hc2 hd2
  subst hc hd hc2 hd2
  have e : its.toArray ++ its2.toArray = (its ++ its2).toArray := by simp
  refine concat_meets ⟨_, ho, rfl⟩ ⟨_, ho2, rfl⟩ noFill_list_add seq_list_add PySem.F.slot_list_add PySem.F.entry_list_add (PySem.F.args_list_add_2 _ _) (list_addW l b its.toArray its2.toArray n n2 dd dd2 sl sl2 (by rw [List.size_toArray, List.size_toArray]; omega)) ⟨ho, ho2, ?_⟩
  rw [e]
  exact ⟨.ref _, _, I.lnew (t' := s.toks) (r.append r2) (by rw [List.length_append]; omega), rfl, q _ I.fresh⟩
def gPlus : D → D → M D
  | .int i, .int j => .ok (.int (i + j))
  | .lst xs, .lst ys => if few (xs ++ ys) then .ok (.lst (xs ++ ys)) else .bad
  | .tup (x :: xs), .tup ys => if few (x :: xs ++ ys) then .ok (.tup (x :: xs ++ ys)) else .bad
  | .str i, .str j => if i.length + j.length ≤ sizeLine then .ok (.str (i ++ j)) else .bad
  | _, _ => .bad
theorem od_plus : OpD X E (binaryOp .Add) gPlus := by
  refine ⟨_, op_add.or (op_catS.or (op_catT.or op_add_str)), fun Hf H x y dx dy Q e rx ry q => ?_⟩
  unfold gPlus at q
  split at q
  · rename_i i j
    exact .inl ⟨i, j, rep_int.mp rx, rep_int.mp ry, Po.ret e q (rep_int.mpr rfl)⟩
  · rename_i xs ys
    split at q
    · rename_i hf
      obtain ⟨p1, us, rfl, h1, r1⟩ := rep_lst.mp rx
      obtain ⟨p2, ws, rfl, h2, r2⟩ := rep_lst.mp ry
      have hl := few_line hf (r1.append r2)
      rw [List.length_append] at hl
      exact .inr (.inl ⟨p1, p2, us, ws, rfl, rfl, e.seq h1, e.seq h2, hl, fun p hp => q _ _ _ (Gr.alloc e hp _) (Gr.lst e hp (r1.append r2))⟩)
    · exact q.elim
  · rename_i x0 xs ys
    split at q
    · rename_i hf
      obtain ⟨p1, us, rfl, h1, r1⟩ := rep_tupQ rx
      obtain ⟨p2, ws, rfl, h2, r2⟩ := rep_tupQ ry
      have hl := few_line hf (r1.append r2)
      rw [List.length_append] at hl
      have hne : us ≠ [] := fun z => by
        have := r1.length
        rw [z] at this
        cases this
      refine .inr (.inr (.inl ⟨p1, p2, us, ws, rfl, rfl, Same.seqT e h1, Same.seqT e h2, hne, hl, fun z => ?_, fun _ p hp => q _ _ _ (Gr.alloc e hp _) (Gr.tup e hp (r1.append r2))⟩))
      subst z
      have : ys = [] := List.length_eq_zero_iff.mp r2.length
      subst this
      rw [List.append_nil] at q
      exact Po.ret e q rx
    · exact q.elim
  · rename_i i j
    split at q
    · rename_i hl
      exact .inr (.inr (.inr ⟨i, j, rep_str.mp rx, rep_str.mp ry, hl, Po.ret e q (rep_str.mpr rfl)⟩))
    · exact q.elim
  · exact q.elim
def gTimes : D → D → M D := gMul
theorem od_times : OpD X E (binaryOp .Mult) gTimes := od_mul

/-! ### slices -/
def cutD (ds : List D) (lo hi : Option Int) : List D := (ds.drop (HT.sIx ds.length 0 lo)).take (HT.sIx ds.length ds.length hi - HT.sIx ds.length 0 lo)
theorem cut_reps {K : PySem.W.Frag} {H : Hp} {ds : List D} {xs : List V} (r : Reps K H ds xs) (lo hi : Option Int) : Reps K H (cutD ds lo hi) (cutV xs lo hi) := by
  unfold cutD cutV
  rw [← r.length]
  exact (r.drop _).take _
def gSl : D → Option Int → Option Int → M D
  | .lst ds, lo, hi => .ok (.lst (cutD ds lo hi))
  | .tup ds, lo, hi => if HT.sIx ds.length 0 lo = 0 ∧ HT.sIx ds.length ds.length hi = ds.length then .bad else .ok (.tup (cutD ds lo hi))
  | _, _, _ => .bad
def oNone (_ : DSt) : M (Option Int) := .ok none
def oSome (f : DSt → M D) (sd : DSt) : M (Option Int) := (f sd).bind fun d => match d with
  | .int i => .ok (some i)
  | _ => .bad
theorem pod_none : POd X E none oNone := ⟨_, po_none, fun _ _ _ _ _ _ _ sr h => Po.ret (R := rQ) sr.sub h rfl⟩
theorem pod_some {e : Expr} {f : DSt → M D} (h : PEd X E e f) : POd X E (some e) (oSome f) := by
  obtain ⟨t, p, q⟩ := h
  refine ⟨_, po_some p, fun H0 B Hf sd σ H Q sr h => ?_⟩
  refine q H0 B Hf sd σ H _ sr (Po.bind h fun d v Hf1 H1 _ g1 rv h1 => ?_)
  split at h1
  · exact ⟨_, rep_int.mp rv, Po.ret (R := rQ) g1.sub h1 rfl⟩
  · exact h1.elim
def eSl (f : DSt → M D) (lo hi : DSt → M (Option Int)) (sd : DSt) : M D := (f sd).bind fun d => (lo sd).bind fun l => (hi sd).bind fun h => gSl d l h
theorem pd_slice {e : Expr} {lo hi : Option Expr} {p2 : Pos} {f : DSt → M D} {fl fh : DSt → M (Option Int)} (h : PEd X E e f) (hl : POd X E lo fl) (hh : POd X E hi fh) : PEd X E (.Subscript e (.Slice lo hi none p2) pos) (eSl f fl fh) := by
  obtain ⟨t, p, q⟩ := h
  obtain ⟨tl, pl, ql⟩ := hl
  obtain ⟨th, ph, qh⟩ := hh
  refine ⟨_, pe_slice (sl_list.or sl_tup) p pl ph, fun H0 B Hf sd σ H Q sr h => ?_⟩
  refine q H0 B Hf sd σ H _ sr (Po.bind h fun d v Hf1 H1 _ g1 rv h1 => ?_)
  refine ql H0 B Hf1 sd σ H1 _ (sr.gr g1) (Po.bind h1 fun l l' Hf2 H2 _ g2 el h2 => ?_)
  have el : l = l' := el
  subst el
  refine qh H0 B Hf2 sd σ H2 _ ((sr.gr g1).gr g2) (Po.bind h2 fun u u' Hf3 H3 _ g3 eu h3 => ?_)
  have eu : u = u' := eu
  subst eu
  have rv3 := (Rep.mono g3.fz (Rep.mono g2.fz rv))
  unfold gSl at h3
  split at h3
  · rename_i ds
    obtain ⟨a, xs, rfl, ha, hr⟩ := rep_lst.mp rv3
    exact .inl ⟨a, xs, rfl, g3.sub.seq ha, fun p hp => h3 _ _ _ (Gr.alloc g3.sub hp _) (Gr.lst g3.sub hp (cut_reps hr _ _))⟩
  · rename_i ds
    split at h3
    · exact h3.elim
    · rename_i hw
      obtain ⟨a, xs, rfl, ha, hr⟩ := rep_tupQ rv3
      exact .inr ⟨a, xs, rfl, Same.seqT g3.sub ha, by rw [← hr.length]; exact hw, fun p hp => h3 _ _ _ (Gr.alloc g3.sub hp _) (Gr.tup g3.sub hp (cut_reps hr _ _))⟩
  · exact h3.elim

/-! ### what a loop walks -/
def ItOk (K : PySem.W.Frag) (Hf _H : Hp) (ds : List D) (J : It) : Prop := ∀ (i : Nat) (Hf1 H1 : Hp), Same Hf Hf1 → Same Hf1 H1 → match ds[i]? with
  | some d => J.go i H1 ∧ ∀ x H2, J.yld i H1 x H2 → ∃ Hf2, Gr Hf1 H1 Hf2 H2 ∧ Rep K Hf2 d x
  | none => J.stop i H1
def PId (X : Cx) (E : XK) (tg iter : Expr) (fi : DSt → M (List D)) : Prop :=
  ∃ wi : TI, PI X tg iter wi ∧ ∀ (H0 : Hp) (B : Addr → Prop) (Hf : Hp) (sd : DSt) (σ : L2.St) (H : Hp) (R : It → Hp → Prop), SR X.K H0 B Hf sd σ H → Po X.K E (ItOk X.K) Hf H (fi sd) R → wi σ H R
theorem itl_ok {K : PySem.W.Frag} {Hf H : Hp} {a : Addr} {xs : List V} {ds : List D} (h : SqL K Hf a xs) (r : Reps K Hf ds xs) : ItOk K Hf H ds (Itl K a) := by
  intro i Hf1 H1 e1 e2
  have h2 := e2.seq (e1.seq h)
  cases q : ds[i]? with
  | some d =>
    obtain ⟨x, ex, rx⟩ := r.get q
    refine ⟨⟨xs, x, h2, ex⟩, fun y H2 hy => ?_⟩
    obtain ⟨e, hy⟩ := hy
    subst e
    have ey := hy xs h2
    rw [ex] at ey
    cases ey
    exact ⟨Hf1, Gr.refl e2, rx.mono e1⟩
  | none =>
    refine ⟨xs, h2, ?_⟩
    have := r.none_of q
    exact List.getElem?_eq_none_iff.mp this
theorem itt_ok {K : PySem.W.Frag} {Hf H : Hp} {a : Addr} {xs : List V} {ds : List D} (h : SqT K Hf a xs) (r : Reps K Hf ds xs) : ItOk K Hf H ds (Itt K a) := by
  intro i Hf1 H1 e1 e2
  have h2 := Same.seqT e2 (Same.seqT e1 h)
  cases q : ds[i]? with
  | some d =>
    obtain ⟨x, ex, rx⟩ := r.get q
    refine ⟨⟨xs, x, h2, ex⟩, fun y H2 hy => ?_⟩
    obtain ⟨e, hy⟩ := hy
    subst e
    have ey := hy xs h2
    rw [ex] at ey
    cases ey
    exact ⟨Hf1, Gr.refl e2, rx.mono e1⟩
  | none =>
    refine ⟨xs, h2, ?_⟩
    have := r.none_of q
    exact List.getElem?_eq_none_iff.mp this
def rangeD (lo : Int) (n : Nat) : List D := (List.range n).map fun k => .int (lo + (k : Nat))
theorem itr_ok {K : PySem.W.Frag} {Hf H : Hp} (lo : Int) (n : Nat) : ItOk K Hf H (rangeD lo n) (Itr lo n) := by
  intro i Hf1 H1 e1 e2
  unfold rangeD
  rw [List.getElem?_map]
  by_cases hi : i < n
  · rw [List.getElem?_range hi]
    refine ⟨hi, fun y H2 hy => ?_⟩
    obtain ⟨e, hy⟩ := hy
    subst e
    exact ⟨Hf1, Gr.refl e2, rep_int.mpr hy⟩
  · rw [List.getElem?_eq_none (by simpa using hi)]
    exact Nat.le_of_not_lt hi
def iSeq (f : DSt → M D) (sd : DSt) : M (List D) := (f sd).bind fun d => match d with
  | .lst ds => .ok ds
  | .tup ds => .ok ds
  | _ => .bad
theorem pi_seq {tg l : Expr} {tl : TE} (hl : PE X l tl) : PI X tg l (fun σ H R => tl σ H fun x H1 => (∃ a, x = .ref a ∧ (∃ xs, SqL X.K H1 a xs) ∧ R (Itl X.K a) H1) ∨ ∃ a, x = .ref a ∧ (∃ xs, SqT X.K H1 a xs) ∧ R (Itt X.K a) H1) := by
  intro pins s σ H R I h
  refine thn (hl pins s σ H _ I h) fun v s1 ⟨x, H1, I1, r1, q1⟩ => ?_
  rcases q1 with ⟨a, e, ⟨xs, hq⟩, q⟩ | ⟨a, e, ⟨xs, hq⟩, q⟩
  · subst e
    cases r1
    obtain ⟨its, rv, p, hz⟩ := I1.list hq
    refine wpAny_pyIter_list p.isList ?_
    refine ⟨s1.heap.objs.size, [s1.heap.objs.size], _, _, H1, rfl, I1.kept (t' := s1.toks) fun b o e => Heap.get?_push_of_some _ e, turn_list a _, ⟨_, Heap.get?_push_size _ rfl, rfl, rfl⟩, fun b hb => ?_, q⟩
    have e : b = s1.heap.objs.size := by simpa using hb
    subst e
    exact I1.fpOk (Nat.le_refl _) (I1.hok.fresh (Nat.le_refl _))
  · subst e
    cases r1
    obtain ⟨its, rv, p, hz⟩ := I1.tuple hq
    refine wpAny_pyIter_tuple (show s1.heap.IsTuple a its.toArray from p) ?_
    refine ⟨s1.heap.objs.size, [s1.heap.objs.size], _, _, H1, rfl, I1.kept (t' := s1.toks) fun b o e => Heap.get?_push_of_some _ e, turn_tuple a _, ⟨_, Heap.get?_push_size _ rfl, rfl, rfl⟩, fun b hb => ?_, q⟩
    have e : b = s1.heap.objs.size := by simpa using hb
    subst e
    exact I1.fpOk (Nat.le_refl _) (I1.hok.fresh (Nat.le_refl _))
theorem pid_seq {tg l : Expr} {f : DSt → M D} (h : PEd X E l f) : PId X E tg l (iSeq f) := by
  obtain ⟨t, p, q⟩ := h
  refine ⟨_, pi_seq p, fun H0 B Hf sd σ H R sr h => ?_⟩
  refine q H0 B Hf sd σ H _ sr (Po.bind h fun d v Hf1 H1 _ g1 rv h1 => ?_)
  split at h1
  · rename_i ds
    obtain ⟨a, xs, rfl, ha, hr⟩ := rep_lst.mp rv
    exact .inl ⟨a, rfl, ⟨xs, g1.sub.seq ha⟩, Po.ret (R := ItOk X.K) g1.sub h1 (itl_ok ha hr)⟩
  · rename_i ds
    obtain ⟨a, xs, rfl, ha, hr⟩ := rep_tupQ rv
    exact .inr ⟨a, rfl, ⟨xs, Same.seqT g1.sub ha⟩, Po.ret (R := ItOk X.K) g1.sub h1 (itt_ok ha hr)⟩
  · exact h1.elim
def iRange1 (fs : DSt → M (List D)) (sd : DSt) : M (List D) := (fs sd).bind fun ds => match ds with
  | [.int j] => if -1000000 ≤ j ∧ j ≤ 1000000 then .ok (rangeD 0 j.toNat) else .bad
  | _ => .bad
theorem pid_range1 {tg a : Expr} {p : Pos} {fs : DSt → M (List D)} (hg : Gl X "range") (hm : X.mg "range" = none) (h : PAd X E [a] fs) (hs : starEach [a] X.env = [(false, eval a X.env)] := by rfl) : PId X E tg (.Call (.Name "range" p) [a] [] pos) (iRange1 fs) := by
  obtain ⟨t, pt, q⟩ := h
  refine ⟨_, pi_range1 hg hm pt hs, fun H0 B Hf sd σ H R sr h => ?_⟩
  refine q H0 B Hf sd σ H _ sr (Po.bind h fun ds vs Hf1 H1 _ g1 rs h1 => ?_)
  split at h1
  · split at h1
    · rename_i hj
      obtain ⟨v, rfl, rv⟩ := reps1 rs
      rw [rep_int.mp rv]
      exact ⟨_, rfl, by omega, by omega, Po.ret (R := ItOk X.K) g1.sub h1 (itr_ok 0 _)⟩
    · exact h1.elim
  · exact h1.elim
def loopD (g : D → DSt → M DSt) (f : DSt → M O) : List D → DSt → M O
  | [], sd => .ok (.nx sd)
  | d :: r, sd => match g d sd with
    | .ok sd1 => (f sd1).bind fun o => match o with
      | .nx sd2 => loopD g f r sd2
      | .ct sd2 => loopD g f r sd2
      | .bk sd2 => .ok (.nx sd2)
      | .rt s => .ok (.rt s)
    | _ => .bad
def sFor (fi : DSt → M (List D)) (g : D → DSt → M DSt) (f : DSt → M O) (sd : DSt) : M O := (fi sd).bind fun ds => loopD g f ds sd
theorem psd_for {tg iter : Expr} {body : List Stmt} {fi : DSt → M (List D)} {g : D → DSt → M DSt} {f : DSt → M O} (hp : PassesOwn (model X.prog X.w) X.A X.env X.xe) (hc : X.calm = true) (hi : PId X E tg iter fi) (hg : PGd X tg g) (hb : PSsd X E body f)
    (hs : ∀ x, foldedSetIterable iter X.env x = pure x := by intro _; rfl) : PSd X E (.For tg iter body [] pos) (sFor fi g f) := by
  obtain ⟨wi, pw, qw⟩ := hi
  obtain ⟨tg', pg, qg⟩ := hg
  obtain ⟨tb, pb, qb⟩ := hb
  refine ⟨_, ps_for hp hc pw pg pb hs, fun H0 B Hf sd σ H D sr h => ?_⟩
  refine qw H0 B Hf sd σ H _ sr (PoS.bind sr h fun ds J Hf1 H1 _ g1 sr1 J1 h1 => ?_)
  refine ⟨fun i m σ' H' => m = ds.length - i ∧ ∃ Hf' sd', Same Hf1 Hf' ∧ SR X.K H0 B Hf' sd' σ' H' ∧ PoS X.K E H0 B Hf' (loopD g f (ds.drop i) sd') D, ⟨ds.length, by simp, Hf1, sd, Same.refl _, sr1, by simpa using h1⟩, ?_⟩
  rintro i m σ2 H2 ⟨rfl, Hf2, sd2, e2, sr2, h2⟩
  have jj := J1 i Hf2 H2 e2 sr2.sub
  cases q : ds[i]? with
  | none =>
    rw [q] at jj
    refine .inl ⟨jj, ?_⟩
    rw [List.drop_eq_nil_of_le (List.getElem?_eq_none_iff.mp q)] at h2
    exact h2 σ2 Hf2 H2 (Same.refl _) sr2
  | some d =>
    rw [q] at jj
    obtain ⟨go, yl⟩ := jj
    have hlt : i < ds.length := (List.getElem?_eq_some_iff.mp q).1
    have hd : ds.drop i = d :: ds.drop (i + 1) := by
      rw [List.drop_eq_getElem_cons hlt]
      congr 1
      exact (List.getElem?_eq_some_iff.mp q).2
    rw [hd] at h2
    refine .inr ⟨go, fun σ' H' => ∃ Hf' sd', Same Hf1 Hf' ∧ SR X.K H0 B Hf' sd' σ' H' ∧ PoS X.K E H0 B Hf' (loopD g f (ds.drop (i + 1)) sd') D, fun σ' H' w => ⟨ds.length - (i + 1), by omega, rfl, w⟩, fun x H3 y3 => ?_⟩
    obtain ⟨Hf3, g3, rx⟩ := yl x H3 y3
    have sr3 := sr2.gr g3
    unfold loopD at h2
    split at h2
    · rename_i sd3 eg
      refine qg H0 B Hf3 sd2 σ2 H3 x d sd3 _ sr3 rx eg fun σ4 sr4 => ?_
      refine qb H0 B Hf3 sd3 σ4 H3 _ sr4 ?_
      have h2 := PoS.weak g3.fz h2
      cases ef : f sd3 with
      | ok o =>
        rw [ef] at h2
        cases o with
        | nx sd' => exact fun σ' Hf' H' e' sr' => ⟨Hf', sd', e2.trans (g3.fz.trans e'), sr', PoS.weak e' h2⟩
        | ct sd' => exact fun σ' Hf' H' e' sr' => ⟨Hf', sd', e2.trans (g3.fz.trans e'), sr', PoS.weak e' h2⟩
        | bk sd' => exact h2
        | rt s => exact h2
      | ex x => rw [ef] at h2; exact h2
      | bad => rw [ef] at h2; exact h2
    · exact h2.elim
end
end DL

set_option maxHeartbeats 4000000

namespace DL
open PySem PySem.Spec PyProof.Rows L2

/-! ### comprehensions -/
theorem codeAny_comp_any {prog : Program} {w : World} {A : Around} {R : Result → Shared → Prop} {s : Shared} {elt target iter : Expr} {scope : Scope} {pos : Pos} {it acc : Value} {env : Env} (I : Nat → Shared → Prop)
    (turn : ∀ n s, I n s → wpAny (model prog w) A (pyNext it) (fun r s₁ => match r with
      | none => R (.ok .next) s₁
      | some v => wpAny (model prog w) A (letOwnedTupleGo target it v) (fun _ s₂ => wpAny (model prog w) A (assign target env v) (fun _ s₃ => wpAny (model prog w) A (eval elt env) (fun x s₄ =>
          wpAny (model prog w) A (call (.builtin "list.append") [acc, x]) (fun _ s₅ => ∃ m, m < n ∧ I m s₅) (fun _ _ => False) s₄) (fun _ _ => False) s₃) (fun _ _ => False) s₂) (fun _ _ => False) s₁) (fun _ _ => False) s)
    (n : Nat) (h : I n s) :
    codeAny (model prog w) A (.compLoop (.ListComp elt [⟨target, iter, [], 0⟩] scope pos) 0 it acc env) R s := by
  refine codeAny_loop rfl I (fun n s hI => ?_) n h
  show wpAny _ A ((compTurn (.ListComp elt [⟨target, iter, [], 0⟩] scope pos) 0 it acc env).onRaise (fun x => do noteFrame x env; theTreesLotGoes x)) _ _ s
  refine wpAny_noted ?_
  rw [compTurn_list]
  refine wpAny_bind (wpAny_standAt (wpAny_bind (wpAny_mono (turn n s hI) (fun r s₁ h₁ => ?_) fun _ _ h' => h'.elim)))
  cases r with
  | none => exact wpAny_pure h₁
  | some v =>
    refine wpAny_bind (wpAny_mono h₁ (fun _ s₂ h₂ => ?_) fun _ _ h' => h'.elim)
    refine wpAny_bind (wpAny_mono h₂ (fun _ s₃ h₃ => ?_) fun _ _ h' => h'.elim)
    refine wpAny_bind (wpAny_tests_nil ?_)
    exact wpAny_bind (wpAny_bind (wpAny_mono h₃ (fun x s₄ h₄ => wpAny_bind (wpAny_mono h₄ (fun _ s₅ h₅ => wpAny_pure (wpAny_pure ⟨rfl, h₅⟩)) fun _ _ h' => h'.elim)) fun _ _ h' => h'.elim))

/-- the context of a comprehension's block -/
def compCx (X : Cx) (Nc : List Str) (scope : Scope) (cl : List (Str × Addr)) (s3 : Shared) (H3 : Hp) (C : Addr) (ex : List Addr) : Cx :=
  { X with N := Nc, s₀ := s3, H₀ := H3, env := compEnvC scope cl C X.env, outer := X.stack, stack := X.stack, ex := ex, fn := fun _ => false, pn := [], xe := fun _ _ => False }

/-- what the block sees of the def's names -/
structure CapOk (X : Cx) (Nc : List Str) (n0 : Nat) (caps : List Nat) (scope : Scope) (cl : List (Str × Addr)) : Prop where
  sub : ∀ y c, cl.lookup y = some c → X.env.cells.lookup y = some c
  has : ∀ y, (relabel scope X.env).names.lookup y = some .cell ∨ (relabel scope X.env).names.lookup y = some .free → ∃ c, cl.lookup y = some c
  cap : ∀ (i j : Nat) (x : Str), Nc[n0 + i]? = some x → caps[i]? = some j → X.N[j]? = some x ∧ X.env.scope.names.lookup x = some .cell ∧ (relabel scope X.env).names.lookup x = some .cell
  len : Nc.length = n0 + caps.length

def lstObj : Obj := { cls := .type "list", dict := none, data := .seq ([] : List Value).toArray }
section
variable {X : Cx} {pins : List (Addr × Obj)} {σ : L2.St} {H2 : Hp} {s2 : Shared} {Nc : List Str} {n0 : Nat} {caps : List Nat} {scope : Scope} {cl : List (Str × Addr)} {fp : List Addr}
theorem comp_inv (I2 : Inv X pins σ H2 s2) (f2 : ∀ b ∈ fp, FpOk X pins H2 b) (hold : ∀ b ∈ fp, ∃ o, s2.heap.get? b = some o) (hkind : scope.kind = .function) (cap : CapOk X Nc n0 caps scope cl) {h1 : Heap} {m0 : Str → Option Value} {tk : Nat}
    (hns : h1.Ns (s2.heap.objs.size + 1) m0) (hold1 : ∀ b o, s2.heap.get? b = some o → h1.get? b = some o) (hD : h1.get? s2.heap.objs.size = some lstObj) :
    Inv (compCx X Nc scope cl { s2 with heap := s2.heap.push lstObj } (upd H2 s2.heap.objs.size (.lst [])) (s2.heap.objs.size + 1) fp) [] (List.replicate n0 none ++ caps.map fun j => (σ[j]?).join) (upd H2 s2.heap.objs.size (.lst [])) { s2 with heap := h1, toks := tk } := by
  have fresh : H2 s2.heap.objs.size = none := I2.hok.fresh (Nat.le_refl _)
  have freshC : H2 (s2.heap.objs.size + 1) = none := I2.hok.fresh (Nat.le_succ _)
  have sz : (s2.heap.push lstObj).objs.size = s2.heap.objs.size + 1 := Heap.size_push _ _
  have lt : ∀ {b : Addr} {o : Obj}, s2.heap.get? b = some o → b < s2.heap.objs.size := fun e => Heap.lt_size e
  have ne0 : ∀ {b : Addr} {o : Obj}, s2.heap.get? b = some o → b ≠ s2.heap.objs.size := fun e => Nat.ne_of_lt (lt e)
  have clt : ∀ y c, cl.lookup y = some c → c < s2.heap.objs.size := fun y c e => by
    obtain ⟨v, q⟩ := I2.cell y c (cap.sub y c e)
    exact q.lt
  have frl : ∀ b ∈ frs X.stack, b < s2.heap.objs.size := fun b hb => by
    obtain ⟨_, o, ho, _⟩ := I2.stack.mem hb
    exact lt ho
  have kp : ∀ b o, (s2.heap.push lstObj).get? b = some o → h1.get? b = some o := fun b o e => by
    by_cases hb : b = s2.heap.objs.size
    · subst hb
      rw [Heap.get?_push_size _ rfl] at e
      cases e
      exact hD
    · rw [Heap.get?_push_ne _ _ _ hb] at e
      exact hold1 b o e
  have hok3 : HOk X.prog X.w (upd H2 s2.heap.objs.size (.lst [])) h1 := I2.hok.laid hold1 (Nat.le_refl _) ⟨Nat.zero_le _, [], 0, .nil, hD⟩
  refine ⟨⟨I2.ok.mod, ?_, I2.ok.glob, I2.ok.blt, ?_, ?_, ?_, ?_, I2.ok.hd, I2.ok.frames, .inl rfl, ?_, ?_, ?_, ?_, ?_, ?_, ?_⟩, rfl, I2.bare, ?_, ⟨m0, hns, ?_⟩, ?_, ?_, ?_, ?_, hok3, ?_⟩
  · show (relabel scope X.env).kind = .function
    exact hkind
  · show (s2.heap.push lstObj).objs.size ≤ s2.heap.objs.size + 1
    rw [sz]; exact Nat.le_refl _
  · intro x y c h1 h2
    exact I2.ok.inj x y c (cap.sub x c h1) (cap.sub y c h2)
  · intro x h
    exact cap.has x h
  · intro x c h
    cases h
  · intro b hb
    refine ⟨?_, fun x c e => ?_⟩
    · obtain ⟨o, e⟩ := hold b hb
      exact Nat.ne_of_lt (Nat.lt_succ_of_lt (lt e))
    · exact (f2 b hb).2.2.2.2.1 x c (cap.sub x c e)
  · intro b o e
    obtain ⟨q1, q2⟩ := I2.bs b o e
    exact ⟨Heap.get?_push_of_some _ q1, (upd_ne (ne0 q1)).trans q2⟩
  · show X.base.objs.size ≤ (s2.heap.push lstObj).objs.size
    rw [sz]
    exact Nat.le_succ_of_le (Nat.le_trans I2.ok.bsz I2.sz)
  · intro b o e hb
    obtain ⟨_, _, _, f4, _, _⟩ := f2 b hb
    rcases f4 with z | z
    · exact I2.ok.noex b o e z
    · exact absurd (Nat.lt_of_lt_of_le (Nat.lt_of_lt_of_le (Heap.lt_size e) I2.ok.bsz) z) (Nat.lt_irrefl _)
  · intro b hb hz
    rcases List.mem_cons.mp (I2.stkSub b hz) with e | hz
    · exact (f2 b hb).2.1 e
    · exact (f2 b hb).2.2.1 hz
  · exact I2.stack.of_keeps fun b o e _ => ⟨o, Heap.get?_push_of_some _ e, rfl⟩
  · intro b hb
    show upd H2 s2.heap.objs.size (.lst []) b = none
    rw [upd_ne (Nat.ne_of_lt (frl b hb))]
    exact I2.stkFree b hb
  · exact Un.kept kp
  · intro i x v e1 e2 e3
    have hi : n0 ≤ i := by
      refine Nat.le_of_not_lt fun hlt => ?_
      rw [List.getElem?_append_left (by simpa using hlt), List.getElem?_replicate] at e2
      split at e2 <;> cases e2
    obtain ⟨k, rfl⟩ := Nat.exists_eq_add_of_le hi
    rw [List.getElem?_append_right (by simp), List.length_replicate, Nat.add_sub_cancel_left, List.getElem?_map] at e2
    cases ej : caps[k]? with
    | none => rw [ej] at e2; cases e2
    | some j =>
      rw [ej] at e2
      have e2 : (σ[j]?).join = some v := by simpa using e2
      have es : σ[j]? = some (some v) := by
        cases z : σ[j]? with
        | none => rw [z] at e2; cases e2
        | some q => rw [z] at e2; have : q = some v := e2; rw [this]
      obtain ⟨a1, a2, a3⟩ := cap.cap k j x e1 ej
      obtain ⟨m, hn, hl⟩ := I2.loc
      obtain ⟨u, ru, lk⟩ := hl j x v a1 es (.inr (.inl a2))
      refine ⟨u, ru, ?_⟩
      rcases lk with ⟨z, _⟩ | ⟨_, c, ec, cell⟩
      · have z : X.env.scope.names.lookup x = some .local := z
        rw [a2] at z; cases z
      · obtain ⟨c', ec'⟩ := cap.has x (.inl a3)
        have := cap.sub x c' ec'
        rw [ec] at this
        cases this
        obtain ⟨o, ho, hd⟩ := cell
        exact .inr ⟨.inl a3, c, ec', o, hold1 _ _ ho, hd⟩
  · intro x c e
    obtain ⟨v, o, ho, hd⟩ := I2.cell x c (cap.sub x c e)
    exact ⟨v, o, hold1 _ _ ho, hd⟩
  · show upd H2 s2.heap.objs.size (.lst []) (s2.heap.objs.size + 1) = none
    rw [upd_ne (Nat.ne_of_gt (Nat.lt_succ_self _))]
    exact freshC
  · intro x c e
    show upd H2 s2.heap.objs.size (.lst []) c = none
    rw [upd_ne (Nat.ne_of_lt (clt x c e))]
    exact I2.freeC x c (cap.sub x c e)
  · intro p hp
    exact absurd (show p ∈ ([] : List (Addr × Obj)) from hp) (by simp)
  · rw [List.length_append, List.length_replicate, List.length_map]
    exact cap.len.symm

/-- back from the block -/
theorem comp_back (I2 : Inv X pins σ H2 s2) (f2 : ∀ b ∈ fp, FpOk X pins H2 b) {σ' : L2.St} {H' : Hp} {s' : Shared} {h' : Heap}
    (J : Inv (compCx X Nc scope cl { s2 with heap := s2.heap.push lstObj } (upd H2 s2.heap.objs.size (.lst [])) (s2.heap.objs.size + 1) fp) [] σ' H' s') (sb : Heap.SameBut (s2.heap.objs.size + 1) s'.heap h') :
    Inv X pins σ H' { s' with heap := h' } := by
  have I3 : Inv X pins σ (upd H2 s2.heap.objs.size (.lst [])) { s2 with heap := s2.heap.push lstObj } := I2.laid (t' := s2.toks) (fun b u e => Heap.get?_push_of_some _ e) (Nat.le_refl _) ⟨Nat.zero_le _, [], 0, .nil, Heap.get?_push_size _ rfl⟩
  have sz : (s2.heap.push lstObj).objs.size = s2.heap.objs.size + 1 := Heap.size_push _ _
  have same : ∀ {b : Addr} {o : Obj}, (s2.heap.push lstObj).get? b = some o → h'.get? b = s'.heap.get? b := fun {b o} e => sb.2 b (by
    have := Heap.lt_size e
    rw [sz] at this
    exact Nat.ne_of_lt this)
  have u : Un (frs X.stack) fp (upd H2 s2.heap.objs.size (.lst [])) H' (s2.heap.push lstObj) s'.heap := J.base
  refine I3.call' (s' := { s' with heap := h' }) (ch := fp) J.os ⟨fun b o e n h1 h2 => ?_, fun b o e n h1 h2 => ?_, u.free, fun b o e h1 => ?_, u.tups, u.frzs, u.tbls⟩ (fun b ob e => ?_) J.bare fun b hb => ?_
  · show h'.get? b = _
    rw [same e]; exact u.keep b o e n h1 h2
  · show ∃ sl, h'.get? b = _
    rw [same e]; exact u.slot b o e n h1 h2
  · show ∃ o', h'.get? b = _
    rw [same e]; exact u.there b o e h1
  · have fr : H' (s2.heap.objs.size + 1) = none := J.free
    refine (J.hok b ob e).stay (fun c w hc q => ?_) (fun _ q => q) fun _ _ q => q
    refine (sb.2 c ?_).trans q
    rintro rfl
    rcases hc with rfl | hc
    · rw [fr] at e; cases e
    · rw [fr] at hc; cases hc
  · obtain ⟨f0, f1, _, f3, f4, f5⟩ := f2 b hb
    exact ⟨f3, f1, f4, f5⟩
end

def capS : Option S → Option S
  | some (.im d) => some (.im d)
  | _ => none
def sdC (n0 : Nat) (caps : List Nat) (sd : DSt) : DSt := List.replicate n0 none ++ caps.map fun j => capS (sd[j]?).join
def mapD (gt : D → DSt → M DSt) (fe : DSt → M D) (sd0 : DSt) : List D → M (List D)
  | [] => .ok []
  | d :: ds => match gt d sd0 with
    | .ok sd1 => match fe sd1 with
      | .ok e => match mapD gt fe sd0 ds with
        | .ok es => .ok (e :: es)
        | _ => .bad
      | _ => .bad
    | _ => .bad
def fComp (fi : DSt → M (List D)) (n0 : Nat) (caps : List Nat) (gt : D → DSt → M DSt) (fe : DSt → M D) (sd : DSt) : M (List D) := (fi sd).bind fun ds => if few ds then mapD gt fe (sdC n0 caps sd) ds else .bad
/-! ### an expression whose value is a new list -/
def PoF (K : PySem.W.Frag) (E : XK) (Hf H : Hp) (r : M (List D)) (Q : VK) : Prop := match r with
  | .ok ds => ∀ p xs Hf' H', Gr Hf H Hf' H' → H p = none → Hf' p = none → H' p = some (.lst xs) → Reps K Hf' ds xs → Q (.ref p) H'
  | .ex x => ∀ c dx Hf' H', Gr Hf H Hf' H' → RepX K Hf' H' x c dx → E c dx H'
  | .bad => False
def PFd (X : Cx) (E : XK) (e : Expr) (f : DSt → M (List D)) : Prop :=
  ∃ t : TE, PE X e t ∧ ∀ (H0 : Hp) (B : Addr → Prop) (Hf : Hp) (sd : DSt) (σ : L2.St) (H : Hp) (Q : VK), SR X.K H0 B Hf sd σ H → PoF X.K E Hf H (f sd) Q → t σ H Q
theorem PoF.weak {K : PySem.W.Frag} {E : XK} {Hf H Hf1 H1 : Hp} {r : M (List D)} {Q : VK} (g : Gr Hf H Hf1 H1) (h : PoF K E Hf H r Q) : PoF K E Hf1 H1 r Q := by
  cases r with
  | ok a => exact fun p xs Hf' H' g' e1 e2 e3 e4 => h p xs Hf' H' (g.trans g') (g.all.free e1) e2 e3 e4
  | ex x => exact fun c dx Hf' H' g' q => h c dx Hf' H' (g.trans g') q
  | bad => exact h
theorem PoF.bind {K : PySem.W.Frag} {E : XK} {Hf H : Hp} {α β : Type} {R : Hp → Hp → α → β → Prop} {r : M α} {k : α → M (List D)} {Q : VK} {Q1 : β → Hp → Prop} (h : PoF K E Hf H (r.bind k) Q)
    (s : ∀ a b Hf1 H1, r = .ok a → Gr Hf H Hf1 H1 → R Hf1 H1 a b → PoF K E Hf1 H1 (k a) Q → Q1 b H1) : Po K E R Hf H r Q1 := by
  cases r with
  | ok a => exact fun b Hf' H' g q => s a b Hf' H' rfl g q (PoF.weak g h)
  | ex x => exact h
  | bad => exact h
def eNew (f : DSt → M (List D)) (sd : DSt) : M D := (f sd).bind fun ds => .ok (.lst ds)
/-- the new list frozen at once -/
theorem pd_new {X : Cx} {E : XK} {e : Expr} {f : DSt → M (List D)} (h : PFd X E e f) : PEd X E e (eNew f) := by
  obtain ⟨t, p, q⟩ := h
  refine ⟨t, p, fun H0 B Hf sd σ H Q sr h => q H0 B Hf sd σ H Q sr ?_⟩
  unfold eNew at h
  cases e : f sd with
  | ok ds =>
    rw [e] at h
    intro p xs Hf' H' g e1 e2 e3 e4
    refine h _ (upd Hf' p (.lst xs)) H' ⟨g.fz.trans (same_upd e2 _), fun b u z => ?_, g.all, fun a h1 h2 => ?_⟩ (rep_lst.mpr ⟨p, xs, rfl, SqL.of upd_same, e4.mono (same_upd e2 _)⟩)
    · by_cases hb : b = p
      · subst hb; rw [upd_same] at z; rw [e3]; exact z
      · rw [upd_ne hb] at z; exact g.sub b u z
    · have : a ≠ p := fun z => h1 (z ▸ e1)
      rw [upd_ne this]; exact g.ban a h1 h2
  | ex x => rw [e] at h; exact h
  | bad => rw [e] at h; exact h
theorem mapD_noex {gt : D → DSt → M DSt} {fe : DSt → M D} {sd0 : DSt} {x : XV} : ∀ {ds : List D}, mapD gt fe sd0 ds = .ex x → False
  | [], h => by cases h
  | d :: ds, h => by
    unfold mapD at h
    split at h
    · split at h
      · split at h <;> cases h
      · cases h
    · cases h
theorem SR.ofIm {K : PySem.W.Frag} {Hf H : Hp} {sd : DSt} {σ : L2.St} (e : Same Hf H) (hl : sd.length = σ.length) (him : ∀ (i : Nat) (d : D), sd[i]? = some (some (.im d)) → ∃ v, σ[i]? = some (some v) ∧ Rep K Hf d v) (hno : ∀ (i : Nat) (t : S), sd[i]? = some (some t) → ∃ d, t = .im d) :
    SR K H (fun a => H a ≠ none ∧ Hf a = none) Hf sd σ H :=
  ⟨e, Same.refl _, fun _ h => h.2, fun _ h => h.1, hl, fun i t h _ => (by obtain ⟨d, rfl⟩ := hno i t h; exact him i d h), fun i t h ho => (by obtain ⟨d, rfl⟩ := hno i t h; cases ho), fun i _ t _ _ _ h ho _ _ _ _ => (by obtain ⟨d, rfl⟩ := hno i t h; cases ho)⟩
theorem sdC_lt {n0 : Nat} {caps : List Nat} {sd : DSt} {i : Nat} {s : S} (h : (sdC n0 caps sd)[i]? = some (some s)) : n0 ≤ i := by
  refine Nat.le_of_not_lt fun hlt => ?_
  unfold sdC at h
  rw [List.getElem?_append_left (by simpa using hlt), List.getElem?_replicate] at h
  split at h <;> cases h
theorem sdC_at {n0 : Nat} {caps : List Nat} {sd : DSt} {i : Nat} {s : S} (h : (sdC n0 caps sd)[i]? = some (some s)) : ∃ k j d, i = n0 + k ∧ caps[k]? = some j ∧ sd[j]? = some (some (.im d)) ∧ s = .im d := by
  obtain ⟨k, rfl⟩ := Nat.exists_eq_add_of_le (sdC_lt h)
  unfold sdC at h
  rw [List.getElem?_append_right (by simp), List.length_replicate, Nat.add_sub_cancel_left, List.getElem?_map] at h
  cases ej : caps[k]? with
  | none => rw [ej] at h; cases h
  | some j =>
    rw [ej] at h
    have h : capS (sd[j]?).join = some s := by simpa using h
    cases z : sd[j]? with
    | none => rw [z] at h; cases h
    | some q =>
      rw [z] at h
      cases q with
      | none => cases h
      | some q =>
        cases q with
        | im d => cases h; exact ⟨k, j, d, rfl, ej, z, rfl⟩
        | ow _ => cases h
        | od _ => cases h
        | dk _ => cases h
        | xc _ => cases h
theorem sdC_no {n0 : Nat} {caps : List Nat} {sd : DSt} (i : Nat) (t : S) (h : (sdC n0 caps sd)[i]? = some (some t)) : ∃ d, t = .im d := by
  obtain ⟨_, _, d, _, _, _, e⟩ := sdC_at h
  exact ⟨d, e⟩
/-- the targets of a comprehension's block touch the first n0 names alone -/
def Keep (n0 : Nat) (gt : D → DSt → M DSt) : Prop := ∀ d sd sd1, gt d sd = .ok sd1 → sd1.length = sd.length ∧ (∀ i : Nat, n0 ≤ i → sd1[i]? = sd[i]?) ∧ True
theorem keep_name {n0 k : Nat} (h : k < n0) : Keep n0 (gNm k) := fun d sd sd1 e => by
  cases e
  exact ⟨List.length_set, fun i hi => List.getElem?_set_ne (by omega), trivial⟩

theorem pfd_comp {X : Cx} {E : XK} {pos : Pos} {tg elt iter : Expr} {scope : Scope} {Nc : List Str} {n0 : Nat} {caps : List Nat} {cl : List (Str × Addr)} {fi : DSt → M (List D)} {gt : D → DSt → M DSt} {fe : DSt → M D}
    (hc : X.calm = true) (hclos : closureFor scope X.env = pure cl) (cap : CapOk X Nc n0 caps scope cl) (hkind : scope.kind = .function) (hcell : ∀ y ∈ scope.names, y.2 ≠ .cell) (hnames : ∀ y ∈ scope.names, y.2 = .local → scope.names.lookup y.1 = some .local)
    (hk : Keep n0 gt) (hi : PId X E tg iter fi) (hg : ∀ s3 H3 C ex, PGd (compCx X Nc scope cl s3 H3 C ex) tg gt) (he : ∀ s3 H3 C ex, PEd (compCx X Nc scope cl s3 H3 C ex) E0 elt fe)
    (hs : ∀ x, foldedSetIterable iter X.env x = pure x := by intro _; rfl) :
    PFd X E (.ListComp elt [⟨tg, iter, [], 0⟩] scope pos) (fComp fi n0 caps gt fe) := by
  refine ⟨fun σ H Q => ∃ H0 B Hf sd, SR X.K H0 B Hf sd σ H ∧ PoF X.K E Hf H (fComp fi n0 caps gt fe sd) Q, ?_, fun H0 B Hf sd σ H Q sr h => ⟨H0, B, Hf, sd, sr, h⟩⟩
  rintro pins s σ H Q I ⟨H0, B, Hf, sd, sr, h⟩
  obtain ⟨wi, pw, qw⟩ := hi
  rw [eval_ListComp]
  refine wpAny_comprehension_free (use := none) rfl hs hclos hkind hnames ?_
  have step := pw pins s σ H (fun J H2 => ∃ ds Hf2, Gr Hf H Hf2 H2 ∧ ItOk X.K Hf2 H2 ds J ∧ PoF X.K E Hf2 H2 (if few ds then mapD gt fe (sdC n0 caps sd) ds else .bad) Q) I
    (qw H0 B Hf sd σ H _ sr (PoF.bind h fun ds J Hf2 H2 _ g2 jok h2 => ⟨ds, Hf2, g2, jok, h2⟩))
  refine thn step fun v s1 h1 => thn h1 fun itv s2 h2 => ?_
  obtain ⟨it, fp, tn, J, H2, rfl, I2, T, st2, f2, ds, Hf2, g2, jok, hq⟩ := h2
  have sr2 := sr.gr g2
  split at hq
  case isFalse => exact hq.elim
  case isTrue hfew =>
  have fresh : H2 s2.heap.objs.size = none := I2.hok.fresh (Nat.le_refl _)
  have holdf : ∀ b ∈ fp, ∃ o, s2.heap.get? b = some o := fun b hb => let ⟨o, e, _⟩ := T.obj 0 _ st2 b hb; ⟨o, e⟩
  refine wpAny_newObj_type (wpAny_newFunctionEnv hcell (by intro y hy; simp at hy) (fun h₁ hns₁ hsb₁ => ?_) hkind)
  have hC : (s2.heap.push lstObj).objs.size = s2.heap.objs.size + 1 := Heap.size_push _ _
  have hns : h₁.Ns (s2.heap.objs.size + 1) (fun x => ([] : List (Str × Value)).reverse.lookup x) := hC ▸ hns₁
  have hsb : Heap.SameBut (s2.heap.objs.size + 1) ((s2.heap.push lstObj).push { cls := .type "dict", data := .dict #[] }) h₁ := hC ▸ hsb₁
  have hold1 : ∀ b o, s2.heap.get? b = some o → h₁.get? b = some o := fun b o e => by
    have hb : b < s2.heap.objs.size := Heap.lt_size e
    exact (hsb.2 b (Nat.ne_of_lt (Nat.lt_succ_of_lt hb))).trans (Heap.get?_push_of_some _ (Heap.get?_push_of_some _ e))
  have hD : h₁.get? s2.heap.objs.size = some lstObj := (hsb.2 _ (Nat.ne_of_lt (Nat.lt_succ_self _))).trans (Heap.get?_push_of_some _ (Heap.get?_push_size _ rfl))
  have J0 := comp_inv I2 f2 holdf hkind cap (tk := s2.toks + ([] : List (Str × Value)).length) hns hold1 hD
  have hg := hg { s2 with heap := s2.heap.push lstObj } (upd H2 s2.heap.objs.size (.lst [])) (s2.heap.objs.size + 1) fp
  have he := he { s2 with heap := s2.heap.push lstObj } (upd H2 s2.heap.objs.size (.lst [])) (s2.heap.objs.size + 1) fp
  -- the block's context
  generalize hXc : compCx X Nc scope cl { s2 with heap := s2.heap.push lstObj } (upd H2 s2.heap.objs.size (.lst [])) (s2.heap.objs.size + 1) fp = Xc at J0 hg he
  have eP : Xc.prog = X.prog := by subst hXc; rfl
  have eW : Xc.w = X.w := by subst hXc; rfl
  have eK : Xc.K = X.K := by subst hXc; rfl
  have eA : Xc.A = X.A := by subst hXc; rfl
  have eX : Xc.xe = fun _ _ => False := by subst hXc; rfl
  have eE : Xc.env = compEnvC scope cl (s2.heap.objs.size + 1) X.env := by subst hXc; rfl
  have eC : Xc.calm = true := by subst hXc; exact hc
  have fpc : ∀ {H' : Hp}, (∀ b ∈ fp, H' b = none) → ∀ b ∈ fp, FpOk Xc [] H' b := fun {H'} hn b hb => by
    subst hXc
    obtain ⟨f0, f1, f2', f3, f4, f5⟩ := f2 b hb
    obtain ⟨o, eo⟩ := holdf b hb
    refine ⟨hn b hb, Nat.ne_of_lt (Nat.lt_succ_of_lt (Heap.lt_size eo)), fun hz => ?_, .inl hb, fun x c e => f4 x c (cap.sub x c e), fun p hp => absurd (show p ∈ ([] : List (Addr × Obj)) from hp) (by simp)⟩
    rcases List.mem_cons.mp (I2.stkSub b hz) with e | hz
    · exact f1 e
    · exact f2' hz
  have nfp : ∀ b ∈ fp, b ≠ s2.heap.objs.size := fun b hb => by
    obtain ⟨o, eo⟩ := holdf b hb
    exact Nat.ne_of_lt (Heap.lt_size eo)
  obtain ⟨tg', pg, qg⟩ := hg
  obtain ⟨te, pe, qe⟩ := he
  have loop : ∀ s₃ : Shared, s₃ = { s2 with heap := h₁, toks := s2.toks + ([] : List (Str × Value)).length } →
      codeAny (model X.prog X.w) X.A (.compLoop (.ListComp elt [⟨tg, iter, [], 0⟩] scope pos) 0 (.ref it) (.ref s2.heap.objs.size) (compEnvC scope cl (s2.heap.objs.size + 1) X.env))
        (compPost (model X.prog X.w) X.A X.xe none (EP X pins σ Q) (.ref s2.heap.objs.size) (s2.heap.objs.size + 1)) s₃ := by
    rintro s₃ rfl
    refine codeAny_comp_any (fun n s' => ∃ i vs es H' Hf' σ', n = ds.length - i ∧ i ≤ ds.length ∧ Inv Xc [] σ' H' s' ∧ tn i s'.heap ∧ (∀ b ∈ fp, H' b = none) ∧
      H' s2.heap.objs.size = some (.lst vs) ∧ Hf' s2.heap.objs.size = none ∧ Gr Hf2 H2 Hf' H' ∧ Reps X.K Hf' es vs ∧ vs.length = i ∧
      (sdC n0 caps sd).length = σ'.length ∧ (∀ (j : Nat) (d : D), (sdC n0 caps sd)[j]? = some (some (.im d)) → ∃ v, σ'[j]? = some (some v) ∧ Rep X.K Hf' d v) ∧
      PoF X.K E Hf2 H2 ((mapD gt fe (sdC n0 caps sd) (ds.drop i)).bind fun fs => .ok (es ++ fs)) Q) ?_ ds.length ?_
    · rintro n s' ⟨i, vs, es, H', Hf', σ', rfl, hil, J1, st1, fr1, hd1, hf1, g1, rs1, hl1, hlen1, him1, hq1⟩
      have jj := jok i Hf' H' g1.fz g1.sub
      cases q : ds[i]? with
      | none =>
        rw [q] at jj
        have tdone := T.done Xc eP eW eK eC i [] s' _ H' (fun _ _ => False) J1 (fpc fr1) st1 jj
        rw [eA] at tdone
        refine wpAny_mono tdone (fun r s4 hr => ?_) fun _ _ z => z
        obtain ⟨rfl, J4⟩ := hr
        rw [List.drop_eq_nil_of_le (List.getElem?_eq_none_iff.mp q)] at hq1
        subst hXc
        obtain ⟨m, hn4, _⟩ := J4.loc
        refine ⟨m, hn4, fun h' sb => ?_⟩
        refine ⟨.ref s2.heap.objs.size, H', comp_back I2 f2 J4 sb, rfl, ?_⟩
        have hq2 : PoF X.K E Hf2 H2 (.ok es) Q := by
          have : es ++ ([] : List D) = es := List.append_nil es
          rw [← this]; exact hq1
        exact hq2 _ vs Hf' H' g1 fresh hf1 hd1 rs1
      | some d =>
        rw [q] at jj
        obtain ⟨go, yl⟩ := jj
        have hlt : i < ds.length := (List.getElem?_eq_some_iff.mp q).1
        have hdr : ds.drop i = d :: ds.drop (i + 1) := by
          rw [List.drop_eq_getElem_cons hlt]
          congr 1
          exact (List.getElem?_eq_some_iff.mp q).2
        -- the element's data
        obtain ⟨sd1, e1, eg, ee, hq2⟩ : ∃ sd1 e1, gt d (sdC n0 caps sd) = .ok sd1 ∧ fe sd1 = .ok e1 ∧ PoF X.K E Hf2 H2 ((mapD gt fe (sdC n0 caps sd) (ds.drop (i + 1))).bind fun fs => .ok ((es ++ [e1]) ++ fs)) Q := by
          rw [hdr] at hq1
          unfold mapD at hq1
          split at hq1
          · rename_i sd1 eg
            split at hq1
            · rename_i e1 ee
              refine ⟨sd1, e1, eg, ee, ?_⟩
              cases em : mapD gt fe (sdC n0 caps sd) (ds.drop (i + 1)) with
              | ok fs =>
                rw [em] at hq1
                have : (es ++ [e1]) ++ fs = es ++ e1 :: fs := by simp
                rw [M.bind_ok, this]
                exact hq1
              | ex x => exact (mapD_noex em).elim
              | bad => rw [em] at hq1; exact hq1.elim
            · exact hq1.elim
          · exact hq1.elim
        have titem := T.item Xc eP eW eK eC i [] s' _ H' (fun _ _ => False) J1 (fpc fr1) st1 go
        rw [eA] at titem
        refine wpAny_mono titem (fun r s4 hr => ?_) fun _ _ z => z
        obtain ⟨u, rfl, h4⟩ := hr
        refine wpAny_mono h4 (fun _ s5 h5 => ?_) fun _ _ z => z
        obtain ⟨x, H5, J5, r5, y5, st5, fr5⟩ := h5
        obtain ⟨Hf5, g5, rx⟩ := yl x H5 y5
        have J5' := J5.pinned (fpc fr5) (T.obj _ _ st5)
        have hD5 : H5 s2.heap.objs.size = some (.lst vs) := g5.all _ _ hd1
        have hf5 : Hf5 s2.heap.objs.size = none := g5.ban _ (by rw [hd1]; simp) hf1
        have him5 : ∀ (j : Nat) (d : D), (sdC n0 caps sd)[j]? = some (some (.im d)) → ∃ v, σ'[j]? = some (some v) ∧ Rep X.K Hf5 d v := fun j d z => let ⟨v, z1, z2⟩ := him1 j d z; ⟨v, z1, z2.mono g5.fz⟩
        have sr5 : SR Xc.K H5 (fun a => H5 a ≠ none ∧ Hf5 a = none) Hf5 (sdC n0 caps sd) σ' H5 := eK ▸ SR.ofIm g5.sub hlen1 him5 sdC_no
        obtain ⟨kl, kk, kn⟩ := hk d _ sd1 eg
        have hg2 := pg _ s5 σ' H5 x u (fun σ6 H6 => te σ6 H6 fun v7 H7 => ∃ Hf7, Gr Hf5 H5 Hf7 H7 ∧ Rep X.K Hf7 e1 v7 ∧ (sdC n0 caps sd).length = σ6.length ∧ (∀ (j : Nat) (d : D), (sdC n0 caps sd)[j]? = some (some (.im d)) → ∃ v, σ6[j]? = some (some v) ∧ Rep X.K Hf7 d v)) J5' r5
          (qg H5 _ Hf5 _ σ' H5 x d sd1 _ sr5 (eK ▸ rx) eg fun σ6 sr6 => qe H5 _ Hf5 sd1 σ6 H5 _ sr6 (by
            rw [ee]
            intro v7 Hf7 H7 g7 r7
            have r7 : Rep Xc.K Hf7 e1 v7 := r7
            rw [eK] at r7
            refine ⟨Hf7, g7, r7, by rw [← kl]; exact sr6.len, fun j d z => ?_⟩
            have z2 : sd1[j]? = some (some (.im d)) := by rw [kk j (sdC_lt z)]; exact z
            obtain ⟨v, z3, z4⟩ := sr6.im j d z2
            rw [eK] at z4
            exact ⟨v, z3, z4.mono g7.fz⟩))
        rw [eP, eW, eA, eX, eE] at hg2
        refine wpAny_mono hg2 (fun _ s6 h6 => ?_) fun _ _ z => z
        obtain ⟨σ6, H6, J6, q6⟩ := h6
        have he2 := pe _ s6 σ6 H6 _ J6 q6
        rw [eP, eW, eA, eX, eE] at he2
        refine wpAny_mono he2 (fun y s7 h7 => ?_) fun _ _ z => z
        obtain ⟨v7, H7, J7, r7, Hf7, g7, rv7, hl7, him7⟩ := h7
        have hD7 : H7 s2.heap.objs.size = some (.lst vs) := g7.all _ _ hD5
        have hf7 : Hf7 s2.heap.objs.size = none := g7.ban _ (by rw [hD5]; simp) hf5
        have happ := mt_append (X := Xc) _ s7 σ6 H7 (.ref s2.heap.objs.size) [v7] (.ref s2.heap.objs.size) [y] (fun _ H8 => H8 = upd H7 s2.heap.objs.size (.lst (vs ++ [v7]))) J7 rfl (.cons r7 .nil)
          ⟨_, vs, v7, rfl, rfl, hD7, by
            have h1 := of_decide_eq_true hfew
            have h2 := sizeLine_eq
            omega, rfl⟩
        rw [eP, eW, eA, eX] at happ
        refine wpAny_mono happ (fun _ s8 h8 => ?_) fun _ _ z => z
        obtain ⟨_, H8, J8, _, e8⟩ := h8
        subst e8
        have g17 := (g1.trans g5).trans g7
        refine ⟨ds.length - (i + 1), by omega, i + 1, vs ++ [v7], es ++ [e1], _, Hf7, σ6, rfl, hlt, J8.unpinned, ?_, fun b hb => ?_, upd_same, hf7, ⟨g17.fz, fun b o z => ?_, fun b o z => ?_, g17.ban⟩, ?_, by rw [List.length_append, hl1]; rfl, hl7, him7, hq2⟩
        · exact T.keep _ _ _ st5 fun b hb o e => (J8.pin (b, o) (List.mem_append_right _ (List.mem_append_right _ (mem_pinsAt hb e)))).1
        · obtain ⟨o, e, _⟩ := T.obj _ _ st5 b hb
          exact (J8.pin (b, o) (List.mem_append_right _ (List.mem_append_right _ (mem_pinsAt hb e)))).2.1
        · have : b ≠ s2.heap.objs.size := ne_of_none z hf7
          rw [upd_ne this]; exact g17.sub b o z
        · have : b ≠ s2.heap.objs.size := ne_of_none z fresh
          rw [upd_ne this]; exact g17.all b o z
        · exact (rs1.mono (g5.fz.trans g7.fz)).append (Reps.cons rv7 Reps.nil)
    · refine ⟨0, [], [], _, Hf2, _, by simp, Nat.zero_le _, J0, T.keep 0 _ _ st2 fun b hb o e => hold1 b o e, fun b hb => ?_, upd_same, g2.sub.free fresh, ⟨Same.refl _, fun b o z => ?_, same_upd fresh _, fun _ _ z => z⟩, Reps.nil, rfl, ?_, fun j d z => ?_, ?_⟩
      · rw [upd_ne (nfp b hb)]; exact (f2 b hb).1
      · have : b ≠ s2.heap.objs.size := ne_of_none (g2.sub b o z) fresh
        rw [upd_ne this]; exact g2.sub b o z
      · unfold sdC; simp only [List.length_append, List.length_replicate, List.length_map]
      · obtain ⟨k, j', d', rfl, ej, es, ed⟩ := sdC_at z
        cases ed
        obtain ⟨v, z1, z2⟩ := sr2.im j' d es
        refine ⟨v, ?_, z2⟩
        rw [List.getElem?_append_right (by simp), List.length_replicate, Nat.add_sub_cancel_left, List.getElem?_map, ej]
        simp [z1]
      · have : ∀ r : M (List D), (r.bind fun fs => .ok ([] ++ fs)) = r := fun r => by cases r <;> simp
        rw [List.drop_zero, this]
        exact hq
  show codeAny (model X.prog X.w) X.A (.compStart (.ListComp elt [⟨tg, iter, [], 0⟩] scope pos) 0 (.ref it) (.ref s2.heap.objs.size) (compEnvC scope cl (s2.heap.push lstObj).objs.size X.env))
    (compPost (model X.prog X.w) X.A X.xe none (EP X pins σ Q) (.ref s2.heap.objs.size) (s2.heap.push lstObj).objs.size) { s2 with heap := h₁, toks := s2.toks + ([] : List (Str × Value)).length }
  rw [hC]
  exact codeAny_compStart_list (loop _ rfl) (T.self X.A 0 _ _ _ (T.keep 0 _ _ st2 fun b hb o e => hold1 b o e) (loop _ rfl))
theorem pd_comp {X : Cx} {E : XK} {pos : Pos} {tg elt iter : Expr} {scope : Scope} {Nc : List Str} {n0 : Nat} {caps : List Nat} {cl : List (Str × Addr)} {fi : DSt → M (List D)} {gt : D → DSt → M DSt} {fe : DSt → M D}
    (hc : X.calm = true) (hclos : closureFor scope X.env = pure cl) (cap : CapOk X Nc n0 caps scope cl) (hkind : scope.kind = .function) (hcell : ∀ y ∈ scope.names, y.2 ≠ .cell) (hnames : ∀ y ∈ scope.names, y.2 = .local → scope.names.lookup y.1 = some .local)
    (hk : Keep n0 gt) (hi : PId X E tg iter fi) (hg : ∀ s3 H3 C ex, PGd (compCx X Nc scope cl s3 H3 C ex) tg gt) (he : ∀ s3 H3 C ex, PEd (compCx X Nc scope cl s3 H3 C ex) E0 elt fe)
    (hs : ∀ x, foldedSetIterable iter X.env x = pure x := by intro _; rfl) :
    PEd X E (.ListComp elt [⟨tg, iter, [], 0⟩] scope pos) (eNew (fComp fi n0 caps gt fe)) := pd_new (pfd_comp hc hclos cap hkind hcell hnames hk hi hg he hs)
/-- a block that sees none of the def's names -/
theorem cap0 {X : Cx} {Nc : List Str} {n0 : Nat} {scope : Scope} (hn : Nc.length = n0) (h : ∀ y ∈ scope.names, y.2 ≠ .cell ∧ y.2 ≠ .free) : CapOk X Nc n0 [] scope [] := by
  have key : ∀ (l : List (Str × NameKind)) (y : Str) (k : NameKind), (∀ p ∈ l, p.2 ≠ .cell ∧ p.2 ≠ .free) → (l.map fun (n, k) => if (k == NameKind.free && X.env.scope.kind == .function && X.env.kindOf n == some .cell) then (n, NameKind.cell) else (n, k)).lookup y = some k → k ≠ .cell ∧ k ≠ .free := by
    intro l y k
    induction l with
    | nil => intro _ e; cases e
    | cons p r ih =>
      intro hp e
      obtain ⟨n, kk⟩ := p
      have h0 := hp (n, kk) List.mem_cons_self
      have hf : (kk == NameKind.free) = false := by
        have := h0.2
        cases kk <;> first | rfl | exact absurd rfl this
      rw [List.map_cons] at e
      simp only [hf, Bool.false_and, Bool.false_eq_true, if_false, List.lookup_cons] at e
      split at e
      · cases e; exact h0
      · exact ih (fun q hq => hp q (List.mem_cons_of_mem _ hq)) e
  refine ⟨fun y c e => (nomatch e), fun y e => ?_, fun i j x _ e => by simp at e, by simpa using hn⟩
  rcases e with e | e
  · exact absurd rfl (key _ y _ h e).1
  · exact absurd rfl (key _ y _ h e).2
end DL

set_option maxHeartbeats 4000000

namespace DL
open PySem PySem.Spec PyProof.Rows L2

/-! ### lists of our own -/
section
variable {X : Cx} {E : XK} {pos : Pos} {a b : Expr}
def fLst (fs : DSt → M (List D)) (sd : DSt) : M (List D) := (fs sd).bind fun ds => if few ds then .ok ds else .bad
theorem pfd_lst {es : List Expr} {fs : DSt → M (List D)} (h : PAd X E es fs) : PFd X E (.List es pos) (fLst fs) := by
  obtain ⟨t, p, q⟩ := h
  refine ⟨_, pe_lst p, fun H0 B Hf sd σ H Q sr h => ?_⟩
  refine q H0 B Hf sd σ H _ sr (PoF.bind h fun ds vs Hf1 H1 _ g1 rs h1 => ?_)
  split at h1
  · rename_i hf
    refine ⟨few_line hf rs, fun p hp => h1 p vs Hf1 _ ⟨Same.refl _, g1.sub.trans (same_upd hp _), same_upd hp _, fun _ _ e => e⟩ hp (g1.sub.free hp) upd_same rs⟩
  · exact h1.elim
def fCall (F : List D → M S) (fs : DSt → M (List D)) (sd : DSt) : M (List D) := (fs sd).bind fun ds => match F ds with
  | .ok (.ow es) => .ok es
  | _ => .bad
theorem pfd_call {k : Nat} {f : Addr} {fd : FuncData} {ps : List Str} {F : List D → M S} {x : Str} {p : Pos} {es : List Expr} {fs : DSt → M (List D)} (G : FnOk X.prog X.w X.K X.mg X.base CX0 k f fd ps (spN X.K F)) (hr : Room k X.A) (hm : X.mg x = some (.ref f)) (hk : PySem.W.keepIn X.K (.ref f) = true) (hb : Binds X.K fd ps [])
    (ha : PAd X E (a :: es) fs) (hg : Gl X x := by rfl) (hdb : (x == ("__debug__" : Str)) = false := by decide) (he : starEach (a :: es) X.env = (false, eval a X.env) :: starEach es X.env := by rfl) (hpl : (backTo pos (starEach es X.env)).any (·.1) = false := by rfl) :
    PFd X E (.Call (.Name x p) (a :: es) [] pos) (fCall F fs) := by
  obtain ⟨t, pt, qt⟩ := ha
  refine ⟨_, pe_call (dvs := []) (E := E0) G hr hg hm hk hb .nil pass0 pt hdb he hpl, fun H0 B Hf sd σ H Q sr h => ?_⟩
  refine qt H0 B Hf sd σ H _ sr (PoF.bind h fun ds vs Hf1 H1 _ g1 rs h1 => ?_)
  split at h1
  · rename_i es e
    refine ⟨Hf1, ds, _, g1.sub, by rw [List.append_nil]; exact rs, e, fun v Hf' H' g2 rv => ?_⟩
    obtain ⟨p, rfl, e1, e2, xs, e3, e4⟩ := rv
    exact h1 p xs Hf' H' g2 e1 e2 e3 e4
  · exact h1.elim
theorem PoS.bindF {K : PySem.W.Frag} {E : XK} {H0 Hf H : Hp} {B : Addr → Prop} {sd : DSt} {σ : L2.St} {r : M (List D)} {k : List D → M O} {D' : Ends} {Q1 : VK} (sr : SR K H0 B Hf sd σ H) (h : PoS K E H0 B Hf (r.bind k) D')
    (s : ∀ ds p xs Hf1 H1, r = .ok ds → Gr Hf H Hf1 H1 → SR K H0 B Hf1 sd σ H1 → H p = none → Hf1 p = none → H1 p = some (.lst xs) → Reps K Hf1 ds xs → PoS K E H0 B Hf1 (k ds) D' → Q1 (.ref p) H1) : PoF K E Hf H r Q1 := by
  cases r with
  | ok ds => exact fun p xs Hf' H' g e1 e2 e3 e4 => s ds p xs Hf' H' rfl g (sr.gr g) e1 e2 e3 e4 (PoS.weak g.fz h)
  | ex x => exact fun c dx Hf' H' g q => h c dx Hf' H' g.fz (sr.gr g).fin q
  | bad => exact h
/-- an object that is new since H, not frozen -/
theorem SR.set_new {K : PySem.W.Frag} {H0 Hf H H1 : Hp} {B : Addr → Prop} {sd : DSt} {σ : L2.St} (r0 : SR K H0 B Hf sd σ H) {Hf1 : Hp} (r : SR K H0 B Hf1 sd σ H1) (g : Same H H1) (i : Nat) {p : Addr} {t : S} (hp : H p = none) (hf : Hf1 p = none) (ho : t.own = true) (h : S.at K Hf1 H1 p t) :
    SR K H0 B Hf1 (sd.set i (some t)) (σ.set i (some (.ref p))) H1 where
  sub := r.sub
  all := r.all
  ban := r.ban
  bt := r.bt
  len := by rw [List.length_set, List.length_set]; exact r.len
  imS := fun j d' e z => by
    by_cases hj : i = j
    · subst hj
      have hi : i < sd.length := by
        have := (List.getElem?_eq_some_iff.mp e).1; simpa using this
      rw [List.getElem?_set_self hi] at e
      cases e
      rw [ho] at z; cases z
    · rw [List.getElem?_set_ne hj] at e ⊢
      exact r.imS j d' e z
  ow := fun j u e hu => by
    by_cases hj : i = j
    · subst hj
      have hi : i < sd.length := by
        have := (List.getElem?_eq_some_iff.mp e).1; simpa using this
      rw [List.getElem?_set_self hi] at e
      cases e
      exact ⟨p, by rw [List.getElem?_set_self (by rw [← r.len]; exact hi)], r0.all.free hp, hf, h⟩
    · rw [List.getElem?_set_ne hj] at e ⊢
      exact r.ow j u e hu
  sep := fun j k u w q hjk e1 o1 e2 o2 e3 e4 => by
    have new : ∀ {l : Nat}, i = l → (σ.set i (some (V.ref p)))[l]? = some (some (.ref q)) → q = p := fun {l} z e => by
      subst z
      have hi : i < σ.length := by
        have := (List.getElem?_eq_some_iff.mp e).1; simpa using this
      rw [List.getElem?_set_self hi] at e
      cases e; rfl
    have old : ∀ {l : Nat} {u : S}, i ≠ l → (sd.set i (some t))[l]? = some (some u) → u.own = true → (σ.set i (some (V.ref p)))[l]? = some (some (.ref q)) → q ≠ p := fun {l u} n e ou z => by
      rw [List.getElem?_set_ne n] at e z
      obtain ⟨q', e1, _, _, e4⟩ := r0.ow l u e ou
      rw [z] at e1
      cases e1
      obtain ⟨o, eo⟩ := at_some e4
      exact ne_of_none eo hp
    by_cases n1 : i = j
    · have n2 : i ≠ k := fun z => hjk (n1.symm.trans z)
      exact old n2 e2 o2 e4 (new n1 e3)
    · by_cases n2 : i = k
      · exact old n1 e1 o1 e3 (new n2 e4)
      · rw [List.getElem?_set_ne n1] at e1 e3
        rw [List.getElem?_set_ne n2] at e2 e4
        exact r.sep j k u w q hjk e1 o1 e2 o2 e3 e4
/-- x = a new list, that may change -/
def sOwn (i : Nat) (f : DSt → M (List D)) (sd : DSt) : M O := (f sd).bind fun ds => .ok (.nx (sd.set i (some (.ow ds))))
theorem psd_own (i : Nat) {x : Str} {e : Expr} {f : DSt → M (List D)} {pos' : Pos} (hN : X.N.Nodup) (h : PFd X E e f) (hi : X.N[i]? = some x := by rfl) (hx : Loc X.env.scope x := by first | exact Or.inl rfl | exact Or.inr rfl)
    (hs : swapsWith e (some (.Name x pos')) pos.line X.env = pure false := by rfl) (hf : X.fn x = true ∨ X.env.scope.names.lookup x = some .local := by first | exact .inl rfl | exact .inr rfl | assumption) :
    PSd X E (.Assign [.Name x pos'] e pos) (sOwn i f) := by
  obtain ⟨t, p, q⟩ := h
  refine ⟨_, ps_set hN hi hx p hs hf, fun H0 B Hf sd σ H D sr h => ?_⟩
  refine q H0 B Hf sd σ H _ sr (PoS.bindF sr h fun ds p xs Hf1 H1 _ g1 sr1 e1 e2 e3 e4 h1 => ?_)
  exact h1 _ Hf1 H1 (Same.refl _) (sr.set_new sr1 g1.all i e1 e2 rfl ⟨xs, e3, e4⟩)
/-- x.append(e) -/
def sApp (i : Nat) (f : DSt → M D) (sd : DSt) : M O := match sd[i]? with
  | some (some (.ow ds)) => (f sd).bind fun d => if few ds then .ok (.nx (sd.set i (some (.ow (ds ++ [d]))))) else .bad
  | _ => .bad
theorem psd_app (i : Nat) {x : Str} {e : Expr} {f : DSt → M D} {p1 p2 p3 : Pos} (h : PEd X E e f) (hi : X.N[i]? = some x := by rfl) (hv : Vis X.env.scope x := by first | exact Or.inl rfl | exact Or.inr (Or.inl rfl) | exact Or.inr (Or.inr rfl))
    (hd : (x == ("__debug__" : Str)) = false := by decide) (hcd : (x == ("__classdict__" : Str)) = false := by decide)
    (hse : starEach [e] X.env = (false, eval e X.env) :: starEach [] X.env := by rfl)
    (hbase : attributeBase (.Name x p1) "append" X.env (eval (.Name x p1) X.env) = eval (.Name x p1) X.env := by rfl)
    (hfew : ((backTo p3 (starEach [e] X.env)).all (fun x => !x.1) && (backToKw p3 (keywordEach [] X.env)).all (fun x => x.1.isSome)
      && decide ([e].length + ([] : List Keyword).length + (if ([] : List Keyword).isEmpty then 0 else 1) < 30)) = true := by rfl)
    (hline : (p2.endLine == p3.line) = true := by rfl) (hplain : (backTo p3 (starEach ([] : List Expr) X.env)).any (·.1) = false := by rfl)
    (hsw : swapsWith (.Call (.Attribute (.Name x p1) "append" p2) [e] [] p3) none pos.line X.env = pure false := by rfl) :
    PSd X E (.Expr (.Call (.Attribute (.Name x p1) "append" p2) [e] [] p3) pos) (sApp i f) := by
  obtain ⟨t, pt, q⟩ := h
  refine ⟨_, ps_expr (pe_bm PySem.F.plainAttrs_list PySem.F.slot_list_append PySem.F.type_list_append mt_append (pe_var hi hv hd hcd) (pa_cons pt pa_nil hse) hbase hfew hline hse hplain) hsw, fun H0 B Hf sd σ H D sr h => ?_⟩
  unfold sApp at h
  split at h
  · rename_i ds ei
    obtain ⟨p, z1, z2, z3, xs, z4, z5⟩ := sr.ow i _ ei rfl
    refine ⟨_, z1, .inl ⟨rfl, xs, SqL.of z4⟩, ?_⟩
    refine q H0 B Hf sd σ H _ sr (PoS.bind sr h fun d v Hf1 H1 _ g1 sr1 rv h1 => ?_)
    split at h1
    · rename_i hf
      have z5' := z5.mono g1.fz
      have hl : xs.length < sizeLine := by
        have h1 := of_decide_eq_true hf
        have h2 := sizeLine_eq
        rw [← z5.length, h2]; omega
      refine ⟨p, xs, v, rfl, rfl, g1.all _ _ z4, hl, ?_⟩
      exact h1 _ Hf1 _ (Same.refl _) (sr1.change ei rfl z1 rfl ⟨_, upd_same, z5'.append (Reps.cons rv Reps.nil)⟩)
    · exact h1.elim
  · exact h.elim
/-- x.extend(a new list) -/
def sExt (i : Nat) (f : DSt → M (List D)) (sd : DSt) : M O := match sd[i]? with
  | some (some (.ow ds)) => (f sd).bind fun es => if few (ds ++ es) then .ok (.nx (sd.set i (some (.ow (ds ++ es))))) else .bad
  | _ => .bad
theorem psd_ext (i : Nat) {x : Str} {e : Expr} {f : DSt → M (List D)} {p1 p2 p3 : Pos} (h : PFd X E e f) (hi : X.N[i]? = some x := by rfl) (hv : Vis X.env.scope x := by first | exact Or.inl rfl | exact Or.inr (Or.inl rfl) | exact Or.inr (Or.inr rfl))
    (hd : (x == ("__debug__" : Str)) = false := by decide) (hcd : (x == ("__classdict__" : Str)) = false := by decide)
    (hse : starEach [e] X.env = (false, eval e X.env) :: starEach [] X.env := by rfl)
    (hbase : attributeBase (.Name x p1) "extend" X.env (eval (.Name x p1) X.env) = eval (.Name x p1) X.env := by rfl)
    (hfew : ((backTo p3 (starEach [e] X.env)).all (fun x => !x.1) && (backToKw p3 (keywordEach [] X.env)).all (fun x => x.1.isSome)
      && decide ([e].length + ([] : List Keyword).length + (if ([] : List Keyword).isEmpty then 0 else 1) < 30)) = true := by rfl)
    (hline : (p2.endLine == p3.line) = true := by rfl) (hplain : (backTo p3 (starEach ([] : List Expr) X.env)).any (·.1) = false := by rfl)
    (hsw : swapsWith (.Call (.Attribute (.Name x p1) "extend" p2) [e] [] p3) none pos.line X.env = pure false := by rfl) :
    PSd X E (.Expr (.Call (.Attribute (.Name x p1) "extend" p2) [e] [] p3) pos) (sExt i f) := by
  obtain ⟨t, pt, q⟩ := h
  refine ⟨_, ps_expr (pe_bm PySem.F.plainAttrs_list PySem.F.slot_list_extend PySem.F.type_list_extend mt_extend (pe_var hi hv hd hcd) (pa_cons pt pa_nil hse) hbase hfew hline hse hplain) hsw, fun H0 B Hf sd σ H D sr h => ?_⟩
  unfold sExt at h
  split at h
  · rename_i ds ei
    obtain ⟨p, z1, z2, z3, xs, z4, z5⟩ := sr.ow i _ ei rfl
    refine ⟨_, z1, .inl ⟨rfl, xs, SqL.of z4⟩, ?_⟩
    refine q H0 B Hf sd σ H _ sr (PoS.bindF sr h fun es b ys Hf1 H1 _ g1 sr1 e1 e2 e3 e4 h1 => ?_)
    split at h1
    · rename_i hf
      have z5' := z5.mono g1.fz
      have hl := few_line hf (z5'.append e4)
      rw [List.length_append] at hl
      refine ⟨p, b, xs, ys, rfl, rfl, g1.all _ _ z4, e3, hl, ?_⟩
      exact h1 _ Hf1 _ (Same.refl _) (sr1.change ei rfl z1 rfl ⟨_, upd_same, z5'.append e4⟩)
    · exact h1.elim
  · exact h.elim
/-- return x, x our own list -/
def sRetO (i : Nat) (sd : DSt) : M O := match sd[i]? with
  | some (some (.ow ds)) => .ok (.rt (.ow ds))
  | _ => .bad
theorem psd_retO (i : Nat) {x : Str} {p1 : Pos} (hi : X.N[i]? = some x := by rfl) (hv : Vis X.env.scope x := by first | exact Or.inl rfl | exact Or.inr (Or.inl rfl) | exact Or.inr (Or.inr rfl))
    (hd : (x == ("__debug__" : Str)) = false := by decide) (hcd : (x == ("__classdict__" : Str)) = false := by decide) : PSd X E (.Return (some (.Name x p1)) pos) (sRetO i) := by
  refine ⟨_, ps_ret (pe_var hi hv hd hcd), fun H0 B Hf sd σ H D sr h => ?_⟩
  unfold sRetO at h
  split at h
  · rename_i ds ei
    obtain ⟨p, z1, z2, z3, z4⟩ := sr.ow i _ ei rfl
    exact ⟨_, z1, h _ Hf H (Same.refl _) sr.fin ⟨p, rfl, z2, z3, z4⟩⟩
  · exact h.elim
/-- from here on the list in slot i does not change any more -/
def frz (i : Nat) (sd : DSt) : DSt := match sd[i]? with
  | some (some (.ow ds)) => sd.set i (some (.im (.lst ds)))
  | _ => sd
def sFrz (i : Nat) (f : DSt → M O) (sd : DSt) : M O := f (frz i sd)
theorem psd_frz (i : Nat) {st : List Stmt} {f : DSt → M O} (h : PSsd X E st f) : PSsd X E st (sFrz i f) := by
  obtain ⟨t, p, q⟩ := h
  refine ⟨t, p, fun H0 B Hf sd σ H D sr h => ?_⟩
  unfold sFrz frz at h
  split at h
  · rename_i ds ei
    obtain ⟨Hf', e, sr'⟩ := sr.freeze ei
    exact q H0 B Hf' _ σ H D sr' (PoS.weak e h)
  · exact q H0 B Hf sd σ H D sr h

/-! ### in, not in -/
theorem any_reps {Xc : Cx} {pins : List (Addr × Obj)} {σ : L2.St} {H : Hp} {s : Shared} (I : Inv Xc pins σ H s) (dx : D) (e : Value → Bool) (he : ∀ d v u, Rep Xc.K H d v → RelV v u → e u = D.eq d dx) :
    ∀ {ds : List D} {xs : List V} {us : List Value}, Reps Xc.K H ds xs → Vals xs us → us.any e = ds.any fun d => D.eq d dx
  | [], xs, us, r, v => by
    rw [reps_nil.mp r] at v
    cases v
    rfl
  | d :: ds, xs, us, r, v => by
    obtain ⟨x, xr, rfl, r1, r2⟩ := reps_cons.mp r
    cases v with
    | cons v1 v2 => rw [List.any_cons, List.any_cons, he d x _ r1 v1, any_reps I dx e he r2 v2]
theorem mem_reps {Xc : Cx} {H : Hp} {ds : List D} : ∀ {xs : List V} {us : List Value} {u : Value}, Reps Xc.K H ds xs → Vals xs us → u ∈ us → ∃ d v, d ∈ ds ∧ Rep Xc.K H d v ∧ RelV v u := by
  induction ds with
  | nil =>
    intro xs us u r v hu
    rw [reps_nil.mp r] at v
    cases v
    cases hu
  | cons d ds ih =>
    intro xs us u r v hu
    obtain ⟨x, xr, rfl, r1, r2⟩ := reps_cons.mp r
    cases v with
    | cons v1 v2 =>
      rcases List.mem_cons.mp hu with rfl | hu
      · exact ⟨d, x, List.mem_cons_self, r1, v1⟩
      · obtain ⟨d', v', h1, h2, h3⟩ := ih r2 v2 hu
        exact ⟨d', v', List.mem_cons_of_mem _ h1, h2, h3⟩
def inD (dx : D) (ds : List D) : Bool := ds.any fun d => D.eq d dx
def rInD (K : PySem.W.Frag) (neg : Bool) : R2 := fun x y H Q => ∃ dx ds, Rep K H dx x ∧ (Rep K H (.lst ds) y ∨ Rep K H (.tup ds) y) ∧ D.deps ds ≤ 60 ∧ Q (.bl (if neg then !inD dx ds else inD dx ds)) H
theorem deps_mem : ∀ {ds : List D} {d : D}, d ∈ ds → d.dep ≤ D.deps ds
  | e :: ds, d, h => by
    rw [D.deps]
    rcases List.mem_cons.mp h with rfl | h
    · omega
    · have := deps_mem h; omega
open Classical in
theorem op_inD (hu : X.A.units + 64 < cLine) : OpR X (compareOp .In) (rInD X.K false) := by
  intro pins s σ H x y v u Q I rx ry h
  obtain ⟨dx, ds, hx, hy, hd, q⟩ := h
  let e : Value → Bool := fun u => decide (∃ d v, Rep X.K H d v ∧ RelV v u ∧ D.eq d dx = true)
  have he : ∀ d v u, Rep X.K H d v → RelV v u → e u = D.eq d dx := fun d v u r1 r2 => by
    cases z : D.eq d dx with
    | true => exact decide_eq_true ⟨d, v, r1, r2, z⟩
    | false =>
      refine decide_eq_false ?_
      rintro ⟨d', v', a1, a2, a3⟩
      have e1 : v' = v := RelV.inj a2 r2
      subst e1
      rw [rep_inj I d d' _ r1 a1, a3] at z
      cases z
  have each : ∀ {xs : List V} {us : List Value}, Reps X.K H ds xs → Vals xs us → ∀ w ∈ us, SeqAt.EqAt X.A.in1 s w v (e w) := fun {xs us} r1 r2 w hw => by
    obtain ⟨d, z, m1, m2, m3⟩ := mem_reps r1 r2 hw
    rw [he d z w m2 m3]
    refine (cmp_at I d dx X.A.in1 z x w v ?_ m2 hx m3 rx).eq
    have := deps_mem m1
    show X.A.units + 1 + _ < _
    omega
  rcases hy with hy | hy
  · obtain ⟨p, xs, rfl, hp, hr⟩ := rep_lst.mp hy
    cases ry
    obtain ⟨its, r, pl, hz⟩ := I.list hp
    refine SeqAt.in_listAt e pl.isList (fun w hw => each hr r w (by simpa using hw)) ⟨.bl _, H, I, rfl, ?_⟩
    rw [show its.toArray.any e = its.any e by simp, any_reps I dx e he hr r]
    exact q
  · obtain ⟨p, xs, rfl, hp, hr⟩ := rep_tupQ hy
    cases ry
    obtain ⟨its, r, pl, hz⟩ := I.tuple hp
    refine SeqAt.in_tupleAt e pl (fun w hw => each hr r w (by simpa using hw)) ⟨.bl _, H, I, rfl, ?_⟩
    rw [show its.toArray.any e = its.any e by simp, any_reps I dx e he hr r]
    exact q
open Classical in
theorem op_notinD (hu : X.A.units + 64 < cLine) : OpR X (compareOp .NotIn) (rInD X.K true) := by
  intro pins s σ H x y v u Q I rx ry h
  obtain ⟨dx, ds, hx, hy, hd, q⟩ := h
  let e : Value → Bool := fun u => decide (∃ d v, Rep X.K H d v ∧ RelV v u ∧ D.eq d dx = true)
  have he : ∀ d v u, Rep X.K H d v → RelV v u → e u = D.eq d dx := fun d v u r1 r2 => by
    cases z : D.eq d dx with
    | true => exact decide_eq_true ⟨d, v, r1, r2, z⟩
    | false =>
      refine decide_eq_false ?_
      rintro ⟨d', v', a1, a2, a3⟩
      have e1 : v' = v := RelV.inj a2 r2
      subst e1
      rw [rep_inj I d d' _ r1 a1, a3] at z
      cases z
  have each : ∀ {xs : List V} {us : List Value}, Reps X.K H ds xs → Vals xs us → ∀ w ∈ us, SeqAt.EqAt X.A.in1 s w v (e w) := fun {xs us} r1 r2 w hw => by
    obtain ⟨d, z, m1, m2, m3⟩ := mem_reps r1 r2 hw
    rw [he d z w m2 m3]
    refine (cmp_at I d dx X.A.in1 z x w v ?_ m2 hx m3 rx).eq
    have := deps_mem m1
    show X.A.units + 1 + _ < _
    omega
  rcases hy with hy | hy
  · obtain ⟨p, xs, rfl, hp, hr⟩ := rep_lst.mp hy
    cases ry
    obtain ⟨its, r, pl, hz⟩ := I.list hp
    refine SeqAt.notIn_listAt e pl.isList (fun w hw => each hr r w (by simpa using hw)) ⟨.bl _, H, I, rfl, ?_⟩
    rw [show its.toArray.any e = its.any e by simp, any_reps I dx e he hr r]
    exact q
  · obtain ⟨p, xs, rfl, hp, hr⟩ := rep_tupQ hy
    cases ry
    obtain ⟨its, r, pl, hz⟩ := I.tuple hp
    refine SeqAt.notIn_tupleAt e pl (fun w hw => each hr r w (by simpa using hw)) ⟨.bl _, H, I, rfl, ?_⟩
    rw [show its.toArray.any e = its.any e by simp, any_reps I dx e he hr r]
    exact q
def gIn : D → D → M D
  | x, .lst ds => if D.deps ds ≤ 60 then .ok (.bl (inD x ds)) else .bad
  | x, .tup ds => if D.deps ds ≤ 60 then .ok (.bl (inD x ds)) else .bad
  | _, _ => .bad
def gNotIn : D → D → M D
  | x, .lst ds => if D.deps ds ≤ 60 then .ok (.bl (!inD x ds)) else .bad
  | x, .tup ds => if D.deps ds ≤ 60 then .ok (.bl (!inD x ds)) else .bad
  | _, _ => .bad
theorem od_in (hu : X.A.units + 64 < cLine) : OpD X E (compareOp .In) gIn := by
  refine ⟨_, op_inD hu, fun Hf H x y dx dy Q e rx ry q => ?_⟩
  unfold gIn at q
  split at q
  · split at q
    · rename_i hd
      exact ⟨_, _, rx.mono e, .inl (ry.mono e), hd, Po.ret e q (rep_bl.mpr rfl)⟩
    · exact q.elim
  · split at q
    · rename_i hd
      exact ⟨_, _, rx.mono e, .inr (ry.mono e), hd, Po.ret e q (rep_bl.mpr rfl)⟩
    · exact q.elim
  · exact q.elim
theorem od_notin (hu : X.A.units + 64 < cLine) : OpD X E (compareOp .NotIn) gNotIn := by
  refine ⟨_, op_notinD hu, fun Hf H x y dx dy Q e rx ry q => ?_⟩
  unfold gNotIn at q
  split at q
  · split at q
    · rename_i hd
      exact ⟨_, _, rx.mono e, .inl (ry.mono e), hd, Po.ret e q (rep_bl.mpr rfl)⟩
    · exact q.elim
  · split at q
    · rename_i hd
      exact ⟨_, _, rx.mono e, .inr (ry.mono e), hd, Po.ret e q (rep_bl.mpr rfl)⟩
    · exact q.elim
  · exact q.elim
/-! ### is None -/
def D.isN : D → Bool
  | .non => true
  | _ => false
def gIsN : D → D → M D
  | x, .non => .ok (.bl x.isN)
  | _, _ => .bad
def gIsNotN : D → D → M D
  | x, .non => .ok (.bl (!x.isN))
  | _, _ => .bad
theorem isN_rep {K : PySem.W.Frag} {H : Hp} {d : D} {v : V} (r : Rep K H d v) : decide (v = .non) = d.isN := by
  cases d with
  | non => rw [rep_non.mp r]; rfl
  | bl b => rw [rep_bl.mp r]; rfl
  | int b => rw [rep_int.mp r]; rfl
  | str b => rw [rep_str.mp r]; rfl
  | tup b => obtain ⟨_, _, e, _⟩ := rep_tup.mp r; rw [e]; rfl
  | lst b => obtain ⟨_, _, e, _⟩ := rep_lst.mp r; rw [e]; rfl
theorem od_isN : OpD X E (compareOp .Is) gIsN := by
  refine ⟨_, op_isN, fun Hf H x y dx dy Q e rx ry q => ?_⟩
  unfold gIsN at q
  split at q
  · exact ⟨rep_non.mp ry, Po.ret e q (by rw [isN_rep rx]; exact rep_bl.mpr rfl)⟩
  · exact q.elim
theorem od_isNotN : OpD X E (compareOp .IsNot) gIsNotN := by
  refine ⟨_, op_notN, fun Hf H x y dx dy Q e rx ry q => ?_⟩
  unfold gIsNotN at q
  split at q
  · exact ⟨rep_non.mp ry, Po.ret e q (by rw [isN_rep rx]; exact rep_bl.mpr rfl)⟩
  · exact q.elim
end
end DL

set_option maxHeartbeats 4000000

namespace DL
open PySem PySem.Spec PyProof.Rows L2

/-! ### iterators with several objects of their own -/
section
variable {X : Cx} {pins : List (Addr × Obj)} {σ : L2.St} {H : Hp} {s : Shared} {h' : Heap} {t' : Nat} {fp : List Addr}
theorem _root_.L2.Inv.turnedT {T : Addr} {o : HO} (I : Inv X pins σ H s) (hf : ∀ b ∈ fp, FpOk X pins H b) (k : ∀ b u, b ∉ fp → s.heap.get? b = some u → h'.get? b = some u) (hT : s.heap.objs.size ≤ T) (new : ObjOk X.prog X.w (upd H T o) h' T o) :
    Inv X pins σ (upd H T o) { s with heap := h', toks := t' } := by
  have hn := I.hok.fresh hT
  have ne : ∀ b u, s.heap.get? b = some u → b ≠ T := fun b u e => Nat.ne_of_lt (Nat.lt_of_lt_of_le (Heap.lt_size e) hT)
  refine I.step (g' := s.gens) (d' := s.drawn) (ch := fp) (fun b hb => ?_) (fun b u _ _ hc e _ => k b u hc e) (fun b u _ _ hc e _ => ⟨u.slots, k b u hc e⟩) (fun b u _ e n => by rw [upd_ne (ne b u e)]; exact n) (fun b u hc e => ⟨u, k b u hc e⟩)
    (fun b xs e => by rw [upd_ne (ne_of_none e hn)]; exact e) (fun b u xs e => by rw [upd_ne (ne_of_none e hn)]; exact e) (fun b ps e => ⟨#[], by rw [upd_ne (ne_of_none e hn), e]; simp⟩) (fun m hm => ?_) (fun b u e => ?_) I.bare
  · obtain ⟨f0, f1, f2, f3, f4, f5⟩ := hf b hb
    exact ⟨f3, f1, f4, f5⟩
  · obtain ⟨ob, es, ep, ho, r⟩ := hm
    exact ⟨ob, es, ep, k _ ob (fun z => (hf _ z).2.1 rfl) ho, r⟩
  · by_cases hb : b = T
    · subst hb; rw [upd_same] at e; cases e; exact new
    · rw [upd_ne hb] at e
      have nf : ∀ c v, H c = some v → c ∉ fp := fun c v e z => by rw [(hf c z).1] at e; cases e
      refine (I.hok b u e).stay (fun c v hc q => k c v ?_ q) (fun c q => by rw [upd_ne (ne_of_none q hn)]; exact q) fun c xs q => by rw [upd_ne (ne_of_none q hn)]; exact q
      rcases hc with rfl | hc
      · exact nf _ _ e
      · exact nf _ _ hc
theorem _root_.L2.Inv.turnedF (I : Inv X pins σ H s) (hf : ∀ b ∈ fp, FpOk X pins H b) (k : ∀ b u, b ∉ fp → s.heap.get? b = some u → h'.get? b = some u) : Inv X pins σ H { s with heap := h', toks := t' } := by
  refine I.step (g' := s.gens) (d' := s.drawn) (ch := fp) (fun b hb => ?_) (fun b u _ _ hc e _ => k b u hc e) (fun b u _ _ hc e _ => ⟨u.slots, k b u hc e⟩) (fun b u _ e n => n) (fun b u hc e => ⟨u, k b u hc e⟩)
    (fun b xs e => e) (fun b u xs e => e) (fun b ps e => ⟨#[], by rw [e]; simp⟩) (fun m hm => ?_) (fun b u e => ?_) I.bare
  · obtain ⟨f0, f1, f2, f3, f4, f5⟩ := hf b hb
    exact ⟨f3, f1, f4, f5⟩
  · obtain ⟨ob, es, ep, ho, r⟩ := hm
    exact ⟨ob, es, ep, k _ ob (fun z => (hf _ z).2.1 rfl) ho, r⟩
  · have nf : ∀ c v, H c = some v → c ∉ fp := fun c v e z => by rw [(hf c z).1] at e; cases e
    refine (I.hok b u e).stay (fun c v hc q => k c v ?_ q) (fun c q => q) fun c xs q => q
    rcases hc with rfl | hc
    · exact nf _ _ e
    · exact nf _ _ hc
end

/-! ### enumerate(a list) -/
def Ite (K : PySem.W.Frag) (a : Addr) : It :=
  ⟨fun i H => ∃ xs x, SqL K H a xs ∧ xs[i]? = some x, fun i H x H' => ∃ p y, H p = none ∧ x = .ref p ∧ H' = upd H p (.tup [.int i, y]) ∧ ∀ xs, SqL K H a xs → xs[i]? = some y, fun i H => ∃ xs, SqL K H a xs ∧ xs.length ≤ i⟩
theorem turn_enum {P : Program} {w : World} {K : PySem.W.Frag} {es : List Expr} {k : Nat} {pos : Pos} (a e it : Addr) (hne : e ≠ it) : Turn P w K (.Tuple es k pos) (Ite K a) [e, it] e (fun i h => (∃ old, IsEnum h e it (i : Nat) old) ∧ h.IsListIter it a i) where
  mem := by simp
  obj := fun i h st b hb => by
    obtain ⟨⟨old, h1⟩, h2⟩ := st
    rcases List.mem_cons.mp hb with rfl | hb
    · exact ⟨_, h1, fun v z => by cases z⟩
    · have eb : b = it := by simpa using hb
      subst eb
      obtain ⟨o, e, c, d⟩ := h2
      exact ⟨o, e, fun v z => by rw [d] at z; cases z⟩
  keep := fun i h h' st kk => by
    obtain ⟨⟨old, h1⟩, h2⟩ := st
    exact ⟨⟨old, kk e (by simp) _ h1⟩, h2.at fun o q => kk it (by simp) o q⟩
  item := by
    intro X hP hw hK hc i pins s σ H E I hf st hg
    subst hP hw hK
    obtain ⟨⟨old, h1⟩, h2⟩ := st
    obtain ⟨xs, x, hq, hx⟩ := hg
    obtain ⟨its, rv, p, hz⟩ := I.list hq
    obtain ⟨u, hu, ru⟩ := rv.get hx
    refine wpAny_pyNext_enum_item h1 h2 p.isList (x := u) (by simpa using hu) hne fun h' a1 a2 a3 a4 a5 => ⟨_, rfl, wpAny_letOwnedTupleGo_enum a1 fun h'' b1 b2 => ?_⟩
    have ge : e ≠ s.heap.objs.size := Nat.ne_of_lt (Heap.lt_size h1)
    have kk : ∀ b u, b ∉ [e, it] → s.heap.get? b = some u → h''.get? b = some u := fun b u nb q => (b2.2 b (fun z => nb (by simp [z]))).trans (a5 b u (fun z => nb (by simp [z])) (fun z => nb (by simp [z])) q)
    have hT : h''.get? s.heap.objs.size = some { cls := .type "tuple", data := .seq #[.int i s.toks, u] } := (b2.2 _ (Ne.symm ge)).trans a3
    have git : it ≠ s.heap.objs.size := by obtain ⟨o, e, _⟩ := id h2; exact Nat.ne_of_lt (Heap.lt_size e)
    refine ⟨.ref s.heap.objs.size, _, I.turnedT (o := .tup [.int i, x]) (t' := s.toks + 1) hf kk (Nat.le_refl _) ⟨by show 2 ≤ sizeLine; decide, [.int i s.toks, u], .cons ⟨_, rfl⟩ (.cons ru .nil), ⟨_, hT, rfl, _, rfl⟩⟩, rfl,
      ⟨_, x, I.fresh, rfl, rfl, fun ys hy => by rw [I.list_inj hy hq]; exact hx⟩, ⟨⟨u, by simpa using b1⟩, a2.at fun o q => (b2.2 it (Ne.symm hne)).trans q⟩, fun b hb => ?_⟩
    have : b ≠ s.heap.objs.size := by
      rcases List.mem_cons.mp hb with rfl | hb
      · exact ge
      · have eb : b = it := by simpa using hb
        subst eb; exact git
    rw [upd_ne this]; exact (hf b hb).1
  done := by
    intro X hP hw hK hc i pins s σ H E I hf st hg
    subst hP hw hK
    obtain ⟨⟨old, h1⟩, h2⟩ := st
    obtain ⟨xs, hq, hx⟩ := hg
    obtain ⟨its, rv, p, hz⟩ := I.list hq
    have hl := rv.length
    exact wpAny_pyNext_enum_end (I.ok.hd hc) h1 h2 p.isList (by simp; omega) fun h' eb => ⟨rfl, I.turnedF (t' := s.toks) hf fun b u nb q => eb b u (fun z => nb (by simp [z])) q⟩
  self := fun _ _ _ _ _ st h => let ⟨⟨_, h1⟩, _⟩ := st; wpAny_pyIter_enum h1 h

/-! ### zip(two lists) -/
def Itz (K : PySem.W.Frag) (a b : Addr) : It :=
  ⟨fun i H => ∃ xs ys x y, SqL K H a xs ∧ SqL K H b ys ∧ xs[i]? = some x ∧ ys[i]? = some y,
   fun i H v H' => ∃ p x y, H p = none ∧ v = .ref p ∧ H' = upd H p (.tup [x, y]) ∧ (∀ xs, SqL K H a xs → xs[i]? = some x) ∧ ∀ ys, SqL K H b ys → ys[i]? = some y,
   fun i H => ∃ xs ys, SqL K H a xs ∧ SqL K H b ys ∧ (xs.length ≤ i ∨ ys.length ≤ i)⟩
structure ZA (z TI TO i1 i2 : Addr) : Prop where
  TIz : TI ≠ z
  TOz : TO ≠ z
  i1z : i1 ≠ z
  i2z : i2 ≠ z
  TITO : TI ≠ TO
  TIi1 : TI ≠ i1
  TIi2 : TI ≠ i2
  TOi1 : TO ≠ i1
  TOi2 : TO ≠ i2
  i12 : i1 ≠ i2
theorem za5 (n : Nat) : ZA (n + 4) (n + 2) (n + 3) n (n + 1) :=
  ⟨Nat.ne_of_lt (by omega), Nat.ne_of_lt (by omega), Nat.ne_of_lt (by omega), Nat.ne_of_lt (by omega), Nat.ne_of_lt (by omega), Nat.ne_of_gt (by omega), Nat.ne_of_gt (by omega), Nat.ne_of_gt (by omega), Nat.ne_of_gt (by omega), Nat.ne_of_lt (by omega)⟩
theorem ne_cls {h : Heap} {a b : Addr} {o u : Obj} (h1 : h.get? a = some o) (h2 : h.get? b = some u) (hc : o.cls ≠ u.cls) : a ≠ b := fun z => by
  subst z; rw [h1] at h2; cases h2; exact hc rfl
abbrev TnZ (a b z TI TO i1 i2 : Addr) (i : Nat) (h : Heap) : Prop := IsZip h z TI TO .none ∧ IsPair h TI (.ref i1) (.ref i2) ∧ (∃ p q, IsPair h TO p q) ∧ h.IsListIter i1 a i ∧ h.IsListIter i2 b i
theorem za_apart {h : Heap} {a b z TI TO i1 i2 : Addr} {i : Nat} {xs ys : Array Value} (A : ZA z TI TO i1 i2) (st : TnZ a b z TI TO i1 i2 i h) (h1 : h.IsList a xs) (h2 : h.IsList b ys) : ZipApart z TI TO i1 i2 a b := by
  obtain ⟨hz, hTI, ⟨p, q, hTO⟩, ⟨o1, e1, c1, _⟩, ⟨o2, e2, c2, _⟩⟩ := st
  obtain ⟨oa, ea, ca, _⟩ := h1
  obtain ⟨ob, eb, cb, _⟩ := h2
  have t1 : (Value.type "list" : Value) ≠ .type "zip" := by decide
  have t2 : (Value.type "list" : Value) ≠ .type "tuple" := by decide
  have t3 : (Value.type "list" : Value) ≠ .type "list_iterator" := by decide
  exact ⟨A.TIz, A.TOz, A.i1z, A.i2z, A.TITO, A.TIi1, A.TIi2, A.TOi1, A.TOi2, A.i12,
    ne_cls ea hz (by rw [ca]; exact t1), ne_cls ea hTO (by rw [ca]; exact t2), ne_cls ea e1 (by rw [ca, c1]; exact t3), ne_cls ea e2 (by rw [ca, c2]; exact t3),
    ne_cls eb hz (by rw [cb]; exact t1), ne_cls eb hTO (by rw [cb]; exact t2), ne_cls eb e1 (by rw [cb, c1]; exact t3), ne_cls eb e2 (by rw [cb, c2]; exact t3)⟩
theorem turn_zip {P : Program} {w : World} {K : PySem.W.Frag} {es : List Expr} {k : Nat} {pos : Pos} (a b z TI TO i1 i2 : Addr) (A : ZA z TI TO i1 i2) : Turn P w K (.Tuple es k pos) (Itz K a b) [z, TI, TO, i1, i2] z (TnZ a b z TI TO i1 i2) where
  mem := by simp
  obj := fun i h st c hc => by
    obtain ⟨hz, hTI, ⟨p, q, hTO⟩, ⟨o1, e1, c1, d1⟩, ⟨o2, e2, c2, d2⟩⟩ := st
    simp at hc
    rcases hc with rfl | rfl | rfl | rfl | rfl
    · exact ⟨_, hz, fun v z => by cases z⟩
    · exact ⟨_, hTI, fun v z => by cases z⟩
    · exact ⟨_, hTO, fun v z => by cases z⟩
    · exact ⟨o1, e1, fun v z => by rw [d1] at z; cases z⟩
    · exact ⟨o2, e2, fun v z => by rw [d2] at z; cases z⟩
  keep := fun i h h' st kk => by
    obtain ⟨hz, hTI, ⟨p, q, hTO⟩, h1, h2⟩ := st
    exact ⟨kk z (by simp) _ hz, kk TI (by simp) _ hTI, ⟨p, q, kk TO (by simp) _ hTO⟩, h1.at fun o e => kk i1 (by simp) o e, h2.at fun o e => kk i2 (by simp) o e⟩
  item := by
    intro X hP hw hK hc i pins s σ H E I hf st hg
    subst hP hw hK
    obtain ⟨xs, ys, x, y, hq1, hq2, hx, hy⟩ := hg
    obtain ⟨its1, rv1, p1, hz1⟩ := I.list hq1
    obtain ⟨its2, rv2, p2, hz2⟩ := I.list hq2
    obtain ⟨u1, hu1, ru1⟩ := rv1.get hx
    obtain ⟨u2, hu2, ru2⟩ := rv2.get hy
    have D := za_apart A st p1.isList p2.isList
    obtain ⟨hz, hTI, ⟨p, q, hTO⟩, h1, h2⟩ := id st
    refine wpAny_pyNext_zip_item D hz hTI hTO h1 h2 p1.isList p2.isList (x := u1) (y := u2) (by simpa using hu1) (by simpa using hu2) fun h' a1 a2 a3 a4 a5 a6 a7 => ⟨_, rfl, wpAny_letOwnedTupleGo_zip a1 fun h'' b1 b2 => ?_⟩
    have lt : ∀ {c o}, s.heap.get? c = some o → c ≠ s.heap.objs.size := fun e => Nat.ne_of_lt (Heap.lt_size e)
    have kk : ∀ b u, b ∉ [z, TI, TO, i1, i2] → s.heap.get? b = some u → h''.get? b = some u := fun b u nb q => (b2.2 b (fun z => nb (by simp [z]))).trans (a7 b u (fun z => nb (by simp [z])) (fun z => nb (by simp [z])) (fun z => nb (by simp [z])) (fun z => nb (by simp [z])) q)
    have hT : h''.get? s.heap.objs.size = some { cls := .type "tuple", data := .seq #[u1, u2] } := (b2.2 _ (Ne.symm (lt hz))).trans a5
    refine ⟨.ref s.heap.objs.size, _, I.turnedT (o := .tup [x, y]) (t' := s.toks) hf kk (Nat.le_refl _) ⟨by show 2 ≤ sizeLine; decide, [u1, u2], .cons ru1 (.cons ru2 .nil), ⟨_, hT, rfl, _, rfl⟩⟩, rfl,
      ⟨_, x, y, I.fresh, rfl, rfl, fun zs hy => by rw [I.list_inj hy hq1]; exact hx, fun zs hy' => by rw [I.list_inj hy' hq2]; exact hy⟩,
      ⟨b1, (b2.2 TI A.TIz).trans (a7 _ _ A.TIz A.TITO A.TIi1 A.TIi2 hTI), ⟨u1, u2, (b2.2 TO A.TOz).trans a2⟩, a3.at fun o q => (b2.2 i1 A.i1z).trans q, a4.at fun o q => (b2.2 i2 A.i2z).trans q⟩, fun b hb => ?_⟩
    have : b ≠ s.heap.objs.size := by
      obtain ⟨o1, e1, _⟩ := id h1
      obtain ⟨o2, e2, _⟩ := id h2
      have hb' := hb
      simp at hb'
      rcases hb' with rfl | rfl | rfl | rfl | rfl
      · exact lt hz
      · exact lt hTI
      · exact lt hTO
      · exact lt e1
      · exact lt e2
    rw [upd_ne this]; exact (hf b hb).1
  done := by
    intro X hP hw hK hc i pins s σ H E I hf st hg
    subst hP hw hK
    obtain ⟨xs, ys, hq1, hq2, hx⟩ := hg
    obtain ⟨its1, rv1, p1, hz1⟩ := I.list hq1
    obtain ⟨its2, rv2, p2, hz2⟩ := I.list hq2
    have hl1 := rv1.length
    have hl2 := rv2.length
    have D := za_apart A st p1.isList p2.isList
    obtain ⟨hz, hTI, ⟨p, q, hTO⟩, h1, h2⟩ := id st
    refine wpAny_pyNext_zip_end (I.ok.hd hc) D hz hTI hTO h1 h2 p1.isList p2.isList ?_ fun h' eb => ⟨rfl, I.turnedF (t' := s.toks) hf fun b u nb q => eb b u (fun z => nb (by simp [z])) (fun z => nb (by simp [z])) (fun z => nb (by simp [z])) (fun z => nb (by simp [z])) q⟩
    rcases hx with hx | hx
    · exact .inl (by simp; omega)
    · exact .inr (by simp; omega)
  self := fun _ _ _ _ _ st h => wpAny_pyIter_zip st.1 h

section
variable {X : Cx} {E : XK} {pos p p2 : Pos} {es : List Expr} {k : Nat}
def iEn (K : PySem.W.Frag) (tl : TA) : TI := fun σ H R => tl σ H fun vs H1 => ∃ a, vs = [.ref a] ∧ (∃ xs, SqL K H1 a xs) ∧ R (Ite K a) H1
theorem pi_enum {l : Expr} {tl : TA} (hg : Gl X "enumerate") (hm : X.mg "enumerate" = none) (hl : PA X [l] tl) (hs : starEach [l] X.env = [(false, eval l X.env)] := by rfl) : PI X (.Tuple es k p2) (.Call (.Name "enumerate" p) [l] [] pos) (iEn X.K tl) := by
  intro pins s σ H R I h
  refine Call_ (ld_blt I hg hm boot_enumerate (PyProof.Rows.callWith_type1 (thn (hl pos pins s σ H _ I h) fun us s1 ⟨vs, H1, I1, r1, q1⟩ => ?_) hs rfl))
  obtain ⟨a, rfl, ⟨xs, hq⟩, q⟩ := q1
  obtain ⟨u, rfl, rx⟩ := vals1 r1
  cases rx
  obtain ⟨its, rv, pl, hz⟩ := I1.list hq
  refine call_enumerate_list pl.isList fun h' e1 e2 e3 e4 => wpAny_pyIter_enum e1 ?_
  have I2 : Inv X pins σ H1 { s1 with heap := h' } := I1.kept (t' := s1.toks) e4
  refine ⟨s1.heap.objs.size + 1, [s1.heap.objs.size + 1, s1.heap.objs.size], _, _, H1, rfl, I2, turn_enum a (s1.heap.objs.size + 1) s1.heap.objs.size (Nat.succ_ne_self _), ⟨⟨_, by simpa using e1⟩, e2⟩, fun b hb => ?_, q⟩
  have hb : s1.heap.objs.size ≤ b := by simp at hb; rcases hb with rfl | rfl <;> omega
  exact I1.fpOk hb (I1.hok.fresh hb)
def iZi (K : PySem.W.Frag) (tl : TA) : TI := fun σ H R => tl σ H fun vs H1 => ∃ a b, vs = [.ref a, .ref b] ∧ (∃ xs, SqL K H1 a xs) ∧ (∃ ys, SqL K H1 b ys) ∧ R (Itz K a b) H1
theorem pi_zip {l m : Expr} {tl : TA} (hg : Gl X "zip") (hm : X.mg "zip" = none) (hl : PA X [l, m] tl) (hs : starEach [l, m] X.env = [(false, eval l X.env), (false, eval m X.env)] := by rfl) (hs2 : starEach [m] X.env = [(false, eval m X.env)] := by rfl) :
    PI X (.Tuple es k p2) (.Call (.Name "zip" p) [l, m] [] pos) (iZi X.K tl) := by
  intro pins s σ H R I h
  refine Call_ (ld_blt I hg hm boot_zip (PyProof.Rows.callWith_type1 (thn (hl pos pins s σ H _ I h) fun us s1 ⟨vs, H1, I1, r1, q1⟩ => ?_) (by rw [hs, hs2]) (by rw [hs2]; rfl)))
  obtain ⟨a, b, rfl, ⟨xs, hq⟩, ⟨ys, hq2⟩, q⟩ := q1
  obtain ⟨u, w', rfl, rx, ry⟩ := vals2 r1
  cases rx
  cases ry
  obtain ⟨its, rv, pl, hz⟩ := I1.list hq
  obtain ⟨its2, rv2, pl2, hz2⟩ := I1.list hq2
  refine call_zip_2 pl.isList pl2.isList fun h' e1 e2 e3 e4 e5 e6 e7 => wpAny_pyIter_zip e1 ?_
  have I2 : Inv X pins σ H1 { s1 with heap := h' } := I1.kept (t' := s1.toks) e7
  refine ⟨s1.heap.objs.size + 4, [s1.heap.objs.size + 4, s1.heap.objs.size + 2, s1.heap.objs.size + 3, s1.heap.objs.size, s1.heap.objs.size + 1], _, _, H1, rfl, I2, turn_zip a b (s1.heap.objs.size + 4) (s1.heap.objs.size + 2) (s1.heap.objs.size + 3) s1.heap.objs.size (s1.heap.objs.size + 1) (za5 _), ⟨e1, e2, ⟨_, _, e3⟩, e4, e5⟩, fun b hb => ?_, q⟩
  have hb : s1.heap.objs.size ≤ b := by simp at hb; rcases hb with rfl | rfl | rfl | rfl | rfl <;> omega
  exact I1.fpOk hb (I1.hok.fresh hb)
def enumD (n : Nat) : List D → List D
  | [] => []
  | d :: r => .tup [.int n, d] :: enumD (n + 1) r
theorem enumD_get : ∀ (ds : List D) (n i : Nat), (enumD n ds)[i]? = (ds[i]?).map fun d => .tup [.int ((n + i : Nat) : Int), d]
  | [], _, _ => by simp [enumD]
  | d :: r, n, 0 => by simp [enumD]
  | d :: r, n, i + 1 => by
    rw [enumD, List.getElem?_cons_succ, enumD_get r (n + 1) i, List.getElem?_cons_succ]
    congr 1; funext d; congr 3; omega
def iEnum (fs : DSt → M (List D)) (sd : DSt) : M (List D) := (fs sd).bind fun ds => match ds with
  | [.lst xs] => .ok (enumD 0 xs)
  | _ => .bad
theorem ite_ok {K : PySem.W.Frag} {Hf H : Hp} {a : Addr} {xs : List V} {ds : List D} (h : SqL K Hf a xs) (r : Reps K Hf ds xs) : ItOk K Hf H (enumD 0 ds) (Ite K a) := by
  intro i Hf1 H1 e1 e2
  have h2 := e2.seq (e1.seq h)
  rw [enumD_get]
  cases q : ds[i]? with
  | some d =>
    obtain ⟨x, ex, rx⟩ := r.get q
    refine ⟨⟨xs, x, h2, ex⟩, fun y H2 hy => ?_⟩
    obtain ⟨p, y', hp, rfl, rfl, hall⟩ := hy
    have ey := hall xs h2
    rw [ex] at ey
    cases ey
    exact ⟨_, Gr.alloc e2 hp _, Gr.tup e2 hp (Reps.cons (rep_int.mpr (by simp)) (Reps.cons (rx.mono e1) Reps.nil))⟩
  | none => exact ⟨xs, h2, List.getElem?_eq_none_iff.mp (r.none_of q)⟩
theorem pid_enum {l : Expr} {fs : DSt → M (List D)} (hg : Gl X "enumerate") (hm : X.mg "enumerate" = none) (h : PAd X E [l] fs) (hs : starEach [l] X.env = [(false, eval l X.env)] := by rfl) : PId X E (.Tuple es k p2) (.Call (.Name "enumerate" p) [l] [] pos) (iEnum fs) := by
  obtain ⟨t, pt, q⟩ := h
  refine ⟨_, pi_enum hg hm pt hs, fun H0 B Hf sd σ H R sr h => ?_⟩
  refine q H0 B Hf sd σ H _ sr (Po.bind h fun ds vs Hf1 H1 _ g1 rs h1 => ?_)
  split at h1
  · rename_i xs
    obtain ⟨v, rfl, rv⟩ := reps1 rs
    obtain ⟨a, ys, rfl, ha, hr⟩ := rep_lst.mp rv
    exact ⟨a, rfl, ⟨ys, g1.sub.seq ha⟩, Po.ret (R := ItOk X.K) g1.sub h1 (ite_ok ha hr)⟩
  · exact h1.elim
def zipD : List D → List D → List D := List.zipWith fun x y => .tup [x, y]
theorem zipD_get (xs ys : List D) (i : Nat) : (zipD xs ys)[i]? = match xs[i]?, ys[i]? with
    | some x, some y => some (.tup [x, y])
    | _, _ => none := by
  unfold zipD
  rw [List.getElem?_zipWith]
  cases xs[i]? <;> cases ys[i]? <;> rfl
def iZip (fs : DSt → M (List D)) (sd : DSt) : M (List D) := (fs sd).bind fun ds => match ds with
  | [.lst xs, .lst ys] => .ok (zipD xs ys)
  | _ => .bad
theorem itz_ok {K : PySem.W.Frag} {Hf H : Hp} {a b : Addr} {xs ys : List V} {ds es : List D} (h : SqL K Hf a xs) (r : Reps K Hf ds xs) (h' : SqL K Hf b ys) (r' : Reps K Hf es ys) : ItOk K Hf H (zipD ds es) (Itz K a b) := by
  intro i Hf1 H1 e1 e2
  have h2 := e2.seq (e1.seq h)
  have h3 := e2.seq (e1.seq h')
  rw [zipD_get]
  cases q : ds[i]? with
  | none => exact ⟨xs, ys, h2, h3, .inl (List.getElem?_eq_none_iff.mp (r.none_of q))⟩
  | some d =>
    cases q' : es[i]? with
    | none => exact ⟨xs, ys, h2, h3, .inr (List.getElem?_eq_none_iff.mp (r'.none_of q'))⟩
    | some e =>
      obtain ⟨x, ex, rx⟩ := r.get q
      obtain ⟨y, ey, ry⟩ := r'.get q'
      refine ⟨⟨xs, ys, x, y, h2, h3, ex, ey⟩, fun v H2 hy => ?_⟩
      obtain ⟨p, x', y', hp, rfl, rfl, hall, hall'⟩ := hy
      have ex' := hall xs h2
      rw [ex] at ex'
      cases ex'
      have ey' := hall' ys h3
      rw [ey] at ey'
      cases ey'
      exact ⟨_, Gr.alloc e2 hp _, Gr.tup e2 hp (Reps.cons (rx.mono e1) (Reps.cons (ry.mono e1) Reps.nil))⟩
theorem pid_zip {l m : Expr} {fs : DSt → M (List D)} (hg : Gl X "zip") (hm : X.mg "zip" = none) (h : PAd X E [l, m] fs) (hs : starEach [l, m] X.env = [(false, eval l X.env), (false, eval m X.env)] := by rfl) (hs2 : starEach [m] X.env = [(false, eval m X.env)] := by rfl) :
    PId X E (.Tuple es k p2) (.Call (.Name "zip" p) [l, m] [] pos) (iZip fs) := by
  obtain ⟨t, pt, q⟩ := h
  refine ⟨_, pi_zip hg hm pt hs hs2, fun H0 B Hf sd σ H R sr h => ?_⟩
  refine q H0 B Hf sd σ H _ sr (Po.bind h fun ds vs Hf1 H1 _ g1 rs h1 => ?_)
  split at h1
  · rename_i xs ys
    obtain ⟨v, w', rfl, rv, rw'⟩ := reps2 rs
    obtain ⟨a, us, rfl, ha, hr⟩ := rep_lst.mp rv
    obtain ⟨b, ws, rfl, hb, hr'⟩ := rep_lst.mp rw'
    exact ⟨a, b, rfl, ⟨us, g1.sub.seq ha⟩, ⟨ws, g1.sub.seq hb⟩, Po.ret (R := ItOk X.K) g1.sub h1 (itz_ok ha hr hb hr')⟩
  · exact h1.elim
end

/-! ### dicts of our own -/
def keyD : D → Option Key
  | .int i => some (.inl i)
  | .str x => some (.inr x)
  | _ => none
def keysD : List D → Option (List Key)
  | [] => some []
  | d :: r => match keyD d, keysD r with
    | some k, some ks => some (k :: ks)
    | _, _ => none
theorem keyD_rep {K : PySem.W.Frag} {H : Hp} {d : D} {k : Key} {v : V} (e : keyD d = some k) (r : Rep K H d v) : v = kV k := by
  cases d with
  | int i => cases e; exact rep_int.mp r
  | str x => cases e; exact rep_str.mp r
  | non => cases e
  | bl _ => cases e
  | tup _ => cases e
  | lst _ => cases e
theorem keysD_reps {K : PySem.W.Frag} {H : Hp} : ∀ {ds : List D} {ks : List Key} {vs : List V}, keysD ds = some ks → Reps K H ds vs → vs = ks.map kV
  | [], ks, vs, e, r => by cases e; rw [reps_nil.mp r]; rfl
  | d :: ds, ks, vs, e, r => by
    obtain ⟨x, xr, rfl, r1, r2⟩ := reps_cons.mp r
    unfold keysD at e
    split at e
    · rename_i k ks' e1 e2
      cases e
      rw [keyD_rep e1 r1, keysD_reps e2 r2]
      rfl
    · cases e
def putD {κ : Type} [DecidableEq κ] (kvs : List (κ × D)) (k : κ) (d : D) : List (κ × D) :=
  if (kvs.any fun kv => decide (kv.1 = k)) = true then kvs.map (fun kv => if kv.1 = k then (kv.1, d) else kv) else kvs ++ [(k, d)]
def hasD {κ : Type} [DecidableEq κ] (kvs : List (κ × D)) (k : κ) : Bool := kvs.any fun kv => decide (kv.1 = k)
def getD' {κ : Type} [DecidableEq κ] (kvs : List (κ × D)) (k : κ) : Option D := (kvs.find? fun kv => decide (kv.1 = k)).map (·.2)
section
variable {κ : Type} [DecidableEq κ]
variable {K : PySem.W.Frag} {H : Hp}
theorem RepKV.any {kvs : List (κ × D)} {ys : List (κ × V)} (r : RepKV K H kvs ys) (k : κ) : (kvs.any fun kv => decide (kv.1 = k)) = (ys.any fun kv => decide (kv.1 = k)) := by
  unfold RepKV at r
  induction r with
  | nil => rfl
  | cons h t ih => rw [List.any_cons, List.any_cons, ih, h.1]
theorem RepKV.get {kvs : List (κ × D)} {ys : List (κ × V)} (r : RepKV K H kvs ys) (k : κ) {d : D} (e : getD' kvs k = some d) : ∃ v, valV ys k = some v ∧ Rep K H d v := by
  unfold RepKV at r
  induction r with
  | nil => cases e
  | @cons p q ps qs h t ih =>
    by_cases hk : p.1 = k
    · have e1 : getD' (p :: ps) k = some p.2 := by simp [getD', List.find?_cons, hk]
      rw [e1] at e
      cases e
      exact ⟨q.2, valV_pos (h.1 ▸ hk), h.2⟩
    · have e1 : getD' (p :: ps) k = getD' ps k := by simp [getD', List.find?_cons, hk]
      rw [e1] at e
      obtain ⟨v, h1, h2⟩ := ih e
      exact ⟨v, by rw [valV_neg (fun z => hk (h.1.trans z))]; exact h1, h2⟩
theorem RepKV.none {kvs : List (κ × D)} {ys : List (κ × V)} (r : RepKV K H kvs ys) (k : κ) (e : getD' kvs k = .none) : valV ys k = .none := by
  unfold RepKV at r
  induction r with
  | nil => rfl
  | @cons p q ps qs h t ih =>
    by_cases hk : p.1 = k
    · have e1 : getD' (p :: ps) k = some p.2 := by simp [getD', List.find?_cons, hk]
      rw [e1] at e
      cases e
    · have e1 : getD' (p :: ps) k = getD' ps k := by simp [getD', List.find?_cons, hk]
      rw [e1] at e
      rw [valV_neg (fun z => hk (h.1.trans z))]; exact ih e
theorem RepKV.repl {kvs : List (κ × D)} {ys : List (κ × V)} (r : RepKV K H kvs ys) (k : κ) {d : D} {v : V} (h : Rep K H d v) : RepKV K H (kvs.map fun kv => if kv.1 = k then (kv.1, d) else kv) (ys.map fun kv => if kv.1 = k then (kv.1, v) else kv) := by
  unfold RepKV at r ⊢
  induction r with
  | nil => exact .nil
  | @cons p q ps qs hp t ih =>
    refine .cons ?_ ih
    show (if p.1 = k then (p.1, d) else p).1 = (if q.1 = k then (q.1, v) else q).1 ∧ Rep K H (if p.1 = k then (p.1, d) else p).2 (if q.1 = k then (q.1, v) else q).2
    by_cases hk : p.1 = k
    · rw [if_pos hk, if_pos (hp.1 ▸ hk)]; exact ⟨hp.1, h⟩
    · rw [if_neg hk, if_neg (fun z => hk (hp.1.trans z))]; exact hp
theorem RepKV.put {kvs : List (κ × D)} {ys : List (κ × V)} (r : RepKV K H kvs ys) (k : κ) {d : D} {v : V} (h : Rep K H d v) : RepKV K H (putD kvs k d) (putK ys k v) := by
  unfold putD putK
  rw [r.any k]
  split
  · exact r.repl k h
  · exact Paired.snoc r ⟨rfl, h⟩
theorem RepKV.length {kvs : List (κ × D)} {ys : List (κ × V)} (r : RepKV K H kvs ys) : kvs.length = ys.length := Paired.length r
end
section
variable {X : Cx} {E : XK} {pos p1 p2 pos' : Pos} {key value : Expr} {x : Str}
def sDNewT (i : Nat) (sd : DSt) : M O := .ok (.nx (sd.set i (some (.od []))))
def sDNewK (i : Nat) (sd : DSt) : M O := .ok (.nx (sd.set i (some (.dk []))))
theorem psd_dnewT (i : Nat) (hN : X.N.Nodup) (hi : X.N[i]? = some x := by rfl) (hx : Loc X.env.scope x := by first | exact Or.inl rfl | exact Or.inr rfl)
    (hs : swapsWith (.Dict [] [] p2) (some (.Name x pos')) pos.line X.env = pure false := by rfl) (hf : X.fn x = true ∨ X.env.scope.names.lookup x = some .local := by first | exact .inl rfl | exact .inr rfl | assumption) :
    PSd X E (.Assign [.Name x pos'] (.Dict [] [] p2) pos) (sDNewT i) := by
  refine ⟨_, ps_set hN hi hx pe_dnewT hs hf, fun H0 B Hf sd σ H D sr h => ?_⟩
  exact fun p hp => h _ Hf _ (Same.refl _) (sr.set_own i hp rfl ⟨[], upd_same, .nil⟩)
theorem psd_dnewK (i : Nat) (hN : X.N.Nodup) (hi : X.N[i]? = some x := by rfl) (hx : Loc X.env.scope x := by first | exact Or.inl rfl | exact Or.inr rfl)
    (hs : swapsWith (.Dict [] [] p2) (some (.Name x pos')) pos.line X.env = pure false := by rfl) (hf : X.fn x = true ∨ X.env.scope.names.lookup x = some .local := by first | exact .inl rfl | exact .inr rfl | assumption) :
    PSd X E (.Assign [.Name x pos'] (.Dict [] [] p2) pos) (sDNewK i) := by
  refine ⟨_, ps_set hN hi hx pe_dnewK hs hf, fun H0 B Hf sd σ H D sr h => ?_⟩
  exact fun p hp => h _ Hf _ (Same.refl _) (sr.set_own i hp rfl ⟨[], upd_same, .nil⟩)
/-- the slot of a dict, with a key: the pairs at it behind a store; whether it is there; its value -/
def dput : Option (Option S) → D → D → Option S
  | some (some (.od kvs)), .tup ds, v => match keysD ds with
    | some ks => if kvs.length ≤ 1000000 then some (.od (putD kvs ks v)) else none
    | none => none
  | some (some (.dk kvs)), k, v => match keyD k with
    | some k => if kvs.length ≤ 1000000 then some (.dk (putD kvs k v)) else none
    | none => none
  | _, _, _ => none
def dhas : Option (Option S) → D → Option Bool
  | some (some (.od kvs)), .tup ds => (keysD ds).map (hasD kvs)
  | some (some (.dk kvs)), k => (keyD k).map (hasD kvs)
  | _, _ => none
def dget : Option (Option S) → D → Option (Option D)
  | some (some (.od kvs)), .tup ds => (keysD ds).map (getD' kvs)
  | some (some (.dk kvs)), k => (keyD k).map (getD' kvs)
  | _, _ => none
def isDct : Option (Option S) → Bool
  | some (some (.od _)) => true
  | some (some (.dk _)) => true
  | _ => false
theorem dct_own {o : Option (Option S)} (h : isDct o = true) : ∃ t, o = some (some t) ∧ t.own = true := by
  unfold isDct at h
  split at h
  · exact ⟨_, rfl, rfl⟩
  · exact ⟨_, rfl, rfl⟩
  · cases h
theorem key_at {K : PySem.W.Frag} {Hf H : Hp} {ds : List D} {ks : List Key} {y : V} (e : keysD ds = some ks) (sub : Same Hf H) (r : Rep K Hf (.tup ds) y) : ∃ b, y = .ref b ∧ H b = some (.tup (ks.map kV)) := by
  obtain ⟨b, xs, rfl, hb, hr⟩ := rep_tup.mp r
  rw [keysD_reps e hr] at hb
  exact ⟨b, rfl, sub _ _ hb⟩
theorem dhas_get {K : PySem.W.Frag} {Hf H : Hp} {t : S} {k : D} {y : V} {b : Bool} {p : Addr} (e : dhas (some (some t)) k = some b) (sub : Same Hf H) (a : S.at K Hf H p t) (r : Rep K Hf k y) : ∃ o, DGet H p y o ∧ o.isSome = b := by
  unfold dhas at e
  split at e
  · rename_i kvs ds he
    cases he
    obtain ⟨ys, h1, h2⟩ := a
    obtain ⟨ks, e1, e2⟩ := Option.map_eq_some_iff.mp e
    obtain ⟨b', rfl, hb⟩ := key_at e1 sub r
    refine ⟨_, DGet.t h1 hb, ?_⟩
    rw [← e2, ← valV_any, ← h2.any]; rfl
  · rename_i kvs k' he
    cases he
    obtain ⟨ys, h1, h2⟩ := a
    obtain ⟨ks, e1, e2⟩ := Option.map_eq_some_iff.mp e
    rw [keyD_rep e1 r]
    refine ⟨_, DGet.k h1, ?_⟩
    rw [← e2, ← valV_any, ← h2.any]; rfl
  · cases e
theorem dget_get {K : PySem.W.Frag} {Hf H : Hp} {t : S} {k : D} {y : V} {o : Option D} {p : Addr} (e : dget (some (some t)) k = some o) (sub : Same Hf H) (a : S.at K Hf H p t) (r : Rep K Hf k y) : ∃ ov, DGet H p y ov ∧ match o with
    | some d => ∃ v, ov = some v ∧ Rep K Hf d v
    | none => ov = none := by
  cases t with
  | im d => simp [dget] at e
  | xc x => simp [dget] at e
  | ow ds => simp [dget] at e
  | od kvs =>
    cases k with
    | tup ds =>
      obtain ⟨ys, h1, h2⟩ := a
      obtain ⟨ks, e1, e2⟩ := Option.map_eq_some_iff.mp e
      obtain ⟨b', rfl, hb⟩ := key_at e1 sub r
      refine ⟨_, DGet.t h1 hb, ?_⟩
      cases o with
      | some d => exact h2.get ks e2
      | none => exact h2.none ks e2
    | non => simp [dget] at e
    | bl _ => simp [dget] at e
    | int _ => simp [dget] at e
    | str _ => simp [dget] at e
    | lst _ => simp [dget] at e
  | dk kvs =>
    obtain ⟨ys, h1, h2⟩ := a
    obtain ⟨ks, e1, e2⟩ := Option.map_eq_some_iff.mp (show (keyD k).map (getD' kvs) = some o from e)
    rw [keyD_rep e1 r]
    refine ⟨_, DGet.k h1, ?_⟩
    cases o with
    | some d => exact h2.get ks e2
    | none => exact h2.none ks e2
def sDPut (i : Nat) (fk fv : DSt → M D) (sd : DSt) : M O := if isDct sd[i]? then ((fv sd).bind fun v => (fk sd).bind fun k => match dput sd[i]? k v with
  | some t => .ok (.nx (sd.set i (some t)))
  | none => .bad) else .bad
theorem psd_dput (i : Nat) {fk fv : DSt → M D} (hu : X.A.units + 64 < cLine) (hk : PEd X E key fk) (hv : PEd X E value fv) (hi : X.N[i]? = some x := by rfl) (hvis : Vis X.env.scope x := by first | exact Or.inl rfl | exact Or.inr (Or.inl rfl) | exact Or.inr (Or.inr rfl))
    (hd : (x == ("__debug__" : Str)) = false := by decide) (hcd : (x == ("__classdict__" : Str)) = false := by decide) (hs : swapsWith value (some (.Subscript (.Name x p1) key pos')) pos.line X.env = pure false := by rfl) :
    PSd X E (.Assign [.Subscript (.Name x p1) key pos'] value pos) (sDPut i fk fv) := by
  obtain ⟨tk, pk, qk⟩ := hk
  obtain ⟨tv, pv, qv⟩ := hv
  refine ⟨_, ps_dput (by omega) (pe_var hi hvis hd hcd) pk pv hs, fun H0 B Hf sd σ H D sr h => ?_⟩
  unfold sDPut at h
  split at h
  case isFalse => exact h.elim
  case isTrue hdc =>
  obtain ⟨t, et, ot⟩ := dct_own hdc
  obtain ⟨p, z1, z2, z3, z4⟩ := sr.ow i t et ot
  refine qv H0 B Hf sd σ H _ sr (PoS.bind sr h fun dv v Hf1 H1 _ g1 sr1 rv h1 => ?_)
  refine ⟨_, z1, ?_⟩
  refine qk H0 B Hf1 sd σ H1 _ sr1 (PoS.bind sr1 h1 fun dk y Hf2 H2 _ g2 sr2 ry h2 => ?_)
  obtain ⟨p', z1', _, _, z4'⟩ := sr2.ow i t et ot
  rw [z1] at z1'
  cases z1'
  have rv2 := Rep.mono g2.fz rv
  have nl : ∀ {κ : Type} {kvs : List (κ × DL.D)} {ys : List (κ × V)}, RepKV X.K Hf2 kvs ys → kvs.length ≤ 1000000 → ys.length < sizeLine := fun {κ kvs ys} r hl => by
    have := Paired.length r
    have h2 := sizeLine_eq
    omega
  rw [et] at h2
  split at h2
  · rename_i u eu
    cases t with
    | im d => cases ot
    | xc x => cases ot
    | ow ds => simp [dput] at eu
    | od kvs =>
      obtain ⟨ys, a1, a2⟩ := z4'
      cases dk with
      | tup ds =>
        unfold dput at eu
        dsimp only at eu
        split at eu
        · rename_i ks ek
          split at eu
          · rename_i hl
            cases eu
            obtain ⟨b, rfl, hb⟩ := key_at ek sr2.sub ry
            exact ⟨p, _, rfl, DPut.t a1 hb (nl a2 hl), h2 _ Hf2 _ (Same.refl _) (sr2.change et ot z1 rfl ⟨_, upd_same, a2.put ks rv2⟩)⟩
          · cases eu
        · cases eu
      | non => simp [dput] at eu
      | bl _ => simp [dput] at eu
      | int _ => simp [dput] at eu
      | str _ => simp [dput] at eu
      | lst _ => simp [dput] at eu
    | dk kvs =>
      obtain ⟨ys, a1, a2⟩ := z4'
      have eu : (match keyD dk with
        | some k => if kvs.length ≤ 1000000 then some (S.dk (putD kvs k dv)) else none
        | none => none) = some u := eu
      split at eu
      · rename_i ks ek
        split at eu
        · rename_i hl
          cases eu
          rw [keyD_rep ek ry]
          exact ⟨p, _, rfl, DPut.k a1 (nl a2 hl), h2 _ Hf2 _ (Same.refl _) (sr2.change et ot z1 rfl ⟨_, upd_same, a2.put ks rv2⟩)⟩
        · cases eu
      · cases eu
  · exact h2.elim
def eDIn (i : Nat) (fk : DSt → M D) (sd : DSt) : M D := if isDct sd[i]? then ((fk sd).bind fun k => match dhas sd[i]? k with
  | some b => .ok (.bl b)
  | none => .bad) else .bad
def eDNotIn (i : Nat) (fk : DSt → M D) (sd : DSt) : M D := if isDct sd[i]? then ((fk sd).bind fun k => match dhas sd[i]? k with
  | some b => .ok (.bl (!b))
  | none => .bad) else .bad
theorem din_core {H0 : Hp} {B : Addr → Prop} {Hf : Hp} {sd : DSt} {σ : L2.St} {H : Hp} {Q : VK} {i : Nat} {fk : DSt → M D} {tk : TE} {g : Bool → Bool}
    (qk : ∀ (H0 : Hp) (B : Addr → Prop) (Hf : Hp) (sd : DSt) (σ : L2.St) (H : Hp) (Q : VK), SR X.K H0 B Hf sd σ H → Po X.K E (rV X.K) Hf H (fk sd) Q → tk σ H Q)
    (sr : SR X.K H0 B Hf sd σ H) (hdc : isDct sd[i]? = true) (h : Po X.K E (rV X.K) Hf H ((fk sd).bind fun k => match dhas sd[i]? k with
      | some b => .ok (.bl (g b))
      | none => .bad) Q) : tk σ H fun y H1 => ∃ v, σ[i]? = some (some v) ∧ ∃ a o, v = .ref a ∧ DGet H1 a y o ∧ Q (.bl (g o.isSome)) H1 := by
  obtain ⟨t, et, ot⟩ := dct_own hdc
  refine qk H0 B Hf sd σ H _ sr (Po.bind h fun dk y Hf1 H1 _ g1 ry h1 => ?_)
  obtain ⟨p, z1, z2, z3, z4⟩ := (sr.gr g1).ow i t et ot
  rw [et] at h1
  split at h1
  · rename_i b eb
    obtain ⟨o, d1, d2⟩ := dhas_get eb g1.sub z4 ry
    refine ⟨_, z1, p, o, rfl, d1, ?_⟩
    rw [d2]
    exact Po.ret (R := rV X.K) g1.sub h1 (rep_bl.mpr rfl)
  · exact h1.elim
theorem pd_din (i : Nat) {fk : DSt → M D} (hu : X.A.units + 64 < cLine) (hk : PEd X E key fk) (hi : X.N[i]? = some x := by rfl) (hvis : Vis X.env.scope x := by first | exact Or.inl rfl | exact Or.inr (Or.inl rfl) | exact Or.inr (Or.inr rfl))
    (hd : (x == ("__debug__" : Str)) = false := by decide) (hcd : (x == ("__classdict__" : Str)) = false := by decide) : PEd X E (.Compare key [.In] [.Name x p1] pos) (eDIn i fk) := by
  obtain ⟨tk, pk, qk⟩ := hk
  refine ⟨_, pe_cmp (pc_din (by omega) pk (pe_var hi hvis hd hcd)) (by rfl), fun H0 B Hf sd σ H Q sr h => ?_⟩
  unfold eDIn at h
  split at h
  case isFalse => exact h.elim
  case isTrue hdc => exact din_core (g := id) qk sr hdc h
theorem pd_dnotin (i : Nat) {fk : DSt → M D} (hu : X.A.units + 64 < cLine) (hk : PEd X E key fk) (hi : X.N[i]? = some x := by rfl) (hvis : Vis X.env.scope x := by first | exact Or.inl rfl | exact Or.inr (Or.inl rfl) | exact Or.inr (Or.inr rfl))
    (hd : (x == ("__debug__" : Str)) = false := by decide) (hcd : (x == ("__classdict__" : Str)) = false := by decide) : PEd X E (.Compare key [.NotIn] [.Name x p1] pos) (eDNotIn i fk) := by
  obtain ⟨tk, pk, qk⟩ := hk
  refine ⟨_, pe_cmp (pc_dnotin (by omega) pk (pe_var hi hvis hd hcd)) (by rfl), fun H0 B Hf sd σ H Q sr h => ?_⟩
  unfold eDNotIn at h
  split at h
  case isFalse => exact h.elim
  case isTrue hdc => exact din_core (g := not) qk sr hdc h
def eDGet (i : Nat) (fk : DSt → M D) (sd : DSt) : M D := if isDct sd[i]? then ((fk sd).bind fun k => match dget sd[i]? k with
  | some (some d) => .ok d
  | _ => .bad) else .bad
theorem pd_dget (i : Nat) {fk : DSt → M D} (hu : X.A.units + 64 < cLine) (hk : PEd X E key fk) (hsl : NoSl key) (hi : X.N[i]? = some x := by rfl) (hvis : Vis X.env.scope x := by first | exact Or.inl rfl | exact Or.inr (Or.inl rfl) | exact Or.inr (Or.inr rfl))
    (hd : (x == ("__debug__" : Str)) = false := by decide) (hcd : (x == ("__classdict__" : Str)) = false := by decide) : PEd X E (.Subscript (.Name x p1) key pos) (eDGet i fk) := by
  obtain ⟨tk, pk, qk⟩ := hk
  refine ⟨_, pe_dget (by omega) (pe_var hi hvis hd hcd) pk hsl, fun H0 B Hf sd σ H Q sr h => ?_⟩
  unfold eDGet at h
  split at h
  case isFalse => exact h.elim
  case isTrue hdc =>
  obtain ⟨t, et, ot⟩ := dct_own hdc
  obtain ⟨p, z1, _, _, _⟩ := sr.ow i t et ot
  refine ⟨_, z1, ?_⟩
  refine qk H0 B Hf sd σ H _ sr (Po.bind h fun dk y Hf1 H1 _ g1 ry h1 => ?_)
  obtain ⟨p', z1', z2, z3, z4⟩ := (sr.gr g1).ow i t et ot
  rw [z1] at z1'
  cases z1'
  rw [et] at h1
  split at h1
  · rename_i d ed
    obtain ⟨o, d1, v, rfl, d3⟩ := dget_get ed g1.sub z4 ry
    exact ⟨p, v, rfl, d1, Po.ret (R := rV X.K) g1.sub h1 d3⟩
  · exact h1.elim
end

/-! ### looking at a list of our own: a flat answer -/
def flatD : D → Bool
  | .non => true
  | .bl _ => true
  | .int _ => true
  | .str _ => true
  | _ => false
theorem flat_rep {K : PySem.W.Frag} {H H' : Hp} {d : D} {v : V} (h : flatD d = true) (r : Rep K H d v) : Rep K H' d v := by
  cases d with
  | non => exact rep_non.mpr (rep_non.mp r)
  | bl _ => exact rep_bl.mpr (rep_bl.mp r)
  | int _ => exact rep_int.mpr (rep_int.mp r)
  | str _ => exact rep_str.mpr (rep_str.mp r)
  | tup _ => cases h
  | lst _ => cases h
def eView (i : Nat) (f : DSt → M D) (sd : DSt) : M D := match f (frz i sd) with
  | .ok d => if flatD d then .ok d else .bad
  | _ => .bad
def tView (i : Nat) (f : DSt → M Bool) (sd : DSt) : M Bool := match f (frz i sd) with
  | .ok b => .ok b
  | _ => .bad
section
variable {X : Cx} {E : XK} {e : Expr}
theorem frz_sr {K : PySem.W.Frag} {H0 Hf H : Hp} {B : Addr → Prop} {sd : DSt} {σ : L2.St} (sr : SR K H0 B Hf sd σ H) (i : Nat) : ∃ Hf', Same Hf Hf' ∧ SR K H0 B Hf' (frz i sd) σ H := by
  unfold frz
  split
  · rename_i ds ei
    exact sr.freeze ei
  · exact ⟨Hf, Same.refl _, sr⟩
theorem pd_view (i : Nat) {f : DSt → M D} (h : PEd X E e f) : PEd X E e (eView i f) := by
  obtain ⟨t, p, q⟩ := h
  refine ⟨t, p, fun H0 B Hf sd σ H Q sr h => ?_⟩
  obtain ⟨Hf', e1, sr'⟩ := frz_sr sr i
  refine q H0 B Hf' _ σ H Q sr' ?_
  unfold eView at h
  cases ef : f (frz i sd) with
  | ok d =>
    rw [ef] at h
    dsimp only at h
    split at h
    · rename_i hfl
      exact fun v Hf2 H2 g r => h v Hf H2 ⟨Same.refl _, sr.sub.trans g.all, g.all, fun _ _ z => z⟩ (flat_rep hfl r)
    · exact h.elim
  | ex x => rw [ef] at h; exact h.elim
  | bad => rw [ef] at h; exact h.elim
theorem ptd_view (i : Nat) {f : DSt → M Bool} (h : PTd X E e f) : PTd X E e (tView i f) := by
  obtain ⟨t, p, q⟩ := h
  refine ⟨t, p, fun H0 B Hf sd σ H Q sr h => ?_⟩
  obtain ⟨Hf', e1, sr'⟩ := frz_sr sr i
  refine q H0 B Hf' _ σ H Q sr' ?_
  unfold tView at h
  cases ef : f (frz i sd) with
  | ok d =>
    rw [ef] at h
    exact fun v Hf2 H2 g r => h v Hf H2 ⟨Same.refl _, sr.sub.trans g.all, g.all, fun _ _ z => z⟩ r
  | ex x => rw [ef] at h; exact h.elim
  | bad => rw [ef] at h; exact h.elim
end

/-! ### a comprehension's block that sees names of the def -/
def clOf (cells : List (Str × Addr)) : List (Str × NameKind) → List (Str × Addr) → List (Str × Addr)
  | [], acc => acc
  | (n, k) :: r, acc => if k == NameKind.free then (match cells.lookup n with
    | some c => clOf cells r ((n, c) :: acc)
    | none => clOf cells r acc) else clOf cells r acc
theorem clOf_mem (cells : List (Str × Addr)) : ∀ (names : List (Str × NameKind)) (acc : List (Str × Addr)), (∀ p ∈ acc, cells.lookup p.1 = some p.2) → ∀ p ∈ clOf cells names acc, cells.lookup p.1 = some p.2
  | [], acc, h => h
  | (n, k) :: r, acc, h => by
    unfold clOf
    split
    · split
      · rename_i c hc
        refine clOf_mem cells r _ fun p hp => ?_
        rcases List.mem_cons.mp hp with rfl | hp
        · exact hc
        · exact h p hp
      · exact clOf_mem cells r acc h
    · exact clOf_mem cells r acc h
theorem clOf_keep (cells : List (Str × Addr)) : ∀ (names : List (Str × NameKind)) (acc : List (Str × Addr)), ∀ p ∈ acc, p ∈ clOf cells names acc
  | [], acc, p, h => h
  | (n, k) :: r, acc, p, h => by
    unfold clOf
    split
    · split
      · exact clOf_keep cells r _ p (List.mem_cons_of_mem _ h)
      · exact clOf_keep cells r acc p h
    · exact clOf_keep cells r acc p h
theorem clOf_has (cells : List (Str × Addr)) : ∀ (names : List (Str × NameKind)) (acc : List (Str × Addr)) (n : Str) (c : Addr), (n, NameKind.free) ∈ names → cells.lookup n = some c → (n, c) ∈ clOf cells names acc
  | [], _, _, _, h, _ => by cases h
  | (m, k) :: r, acc, n, c, h, hc => by
    unfold clOf
    rcases List.mem_cons.mp h with h | h
    · cases h
      rw [if_pos (by decide), hc]
      exact clOf_keep cells r _ _ List.mem_cons_self
    · split
      · split
        · exact clOf_has cells r _ n c h hc
        · exact clOf_has cells r _ n c h hc
      · exact clOf_has cells r _ n c h hc
theorem lookup_mem {β : Type} : ∀ {l : List (Str × β)} {n : Str} {c : β}, l.lookup n = some c → (n, c) ∈ l := fun h => PySem.mem_of_lookup h
theorem lookup_some {β : Type} : ∀ {l : List (Str × β)} {n : Str} {c : β}, (n, c) ∈ l → ∃ d, l.lookup n = some d
  | [], _, _, h => by cases h
  | (m, d) :: r, n, c, h => by
    rw [List.lookup_cons]
    by_cases e : n = m
    · subst e; exact ⟨d, by simp⟩
    · have e' : (n == m) = false := beq_eq_false_iff_ne.mpr e
      rw [e']
      rcases List.mem_cons.mp h with h | h
      · cases h; exact absurd rfl e
      · exact lookup_some h
theorem closure_eq {scope : Scope} {env : Env} (h : ∀ y ∈ scope.names, y.2 = .free → ∃ c, env.cells.lookup y.1 = some c) : closureFor scope env = pure (clOf env.cells scope.names []) := by
  have key : ∀ (names : List (Str × NameKind)) (acc : List (Str × Addr)), (∀ y ∈ names, y.2 = .free → ∃ c, env.cells.lookup y.1 = some c) →
      (forIn names acc fun (x : Str × NameKind) (cs : List (Str × Addr)) => (do
        if x.2 == .free then
          let c ← cellOf env x.1
          pure (ForInStep.yield ((x.1, c) :: cs))
        else pure (ForInStep.yield cs) : Sem _)) = pure (clOf env.cells names acc) := by
    intro names
    induction names with
    | nil => intro acc _; rfl
    | cons y r ih =>
      intro acc hy
      obtain ⟨n, k⟩ := y
      rw [List.forIn_cons]
      unfold clOf
      by_cases hk : (k == NameKind.free) = true
      · obtain ⟨c, hc⟩ := hy (n, k) List.mem_cons_self (by simpa using hk)
        have e1 : cellOf env n = pure c := by unfold cellOf; rw [hc]
        simp only [hk, if_true, e1, hc, pure_bind]
        exact ih _ fun z hz => hy z (List.mem_cons_of_mem _ hz)
      · simp only [hk, Bool.false_eq_true, if_false, pure_bind]
        exact ih _ fun z hz => hy z (List.mem_cons_of_mem _ hz)
  have e := key scope.names [] h
  unfold closureFor
  simp only [bind_pure]
  exact e
theorem capN {X : Cx} {Nc : List Str} {n0 : Nat} {caps : List Nat} {scope sc : Scope} (hsc : X.env.scope = sc) (hkf : sc.kind = .function) (hcell : ∀ y ∈ scope.names, y.2 ≠ .cell) (hfree : ∀ y ∈ scope.names, y.2 = .free → sc.names.lookup y.1 = some .cell)
    (hcl : ∀ y ∈ scope.names, y.2 = .free → ∃ c, X.env.cells.lookup y.1 = some c) (hl : Nc.length = n0 + caps.length)
    (hcap : ∀ (i j : Nat) (x : Str), Nc[n0 + i]? = some x → caps[i]? = some j → X.N[j]? = some x ∧ scope.names.lookup x = some .free) : CapOk X Nc n0 caps scope (clOf X.env.cells scope.names []) := by
  have frees : ∀ (l : List (Str × NameKind)) (y : Str), (∀ p ∈ l, p.2 ≠ .cell) → (∀ p ∈ l, p.2 = .free → sc.names.lookup p.1 = some .cell) →
      ((l.map fun (n, k) => if (k == NameKind.free && X.env.scope.kind == .function && X.env.kindOf n == some .cell) then (n, NameKind.cell) else (n, k)).lookup y = some .cell ∨ (l.map fun (n, k) => if (k == NameKind.free && X.env.scope.kind == .function && X.env.kindOf n == some .cell) then (n, NameKind.cell) else (n, k)).lookup y = some .free) → (y, NameKind.free) ∈ l := by
    intro l y
    induction l with
    | nil => intro _ _ e; rcases e with e | e <;> cases e
    | cons p r ih =>
      intro h1 h2 e
      obtain ⟨n, k⟩ := p
      have c1 := h1 (n, k) List.mem_cons_self
      rw [List.map_cons, List.lookup_cons] at e
      have hfst : (if (k == NameKind.free && X.env.scope.kind == .function && X.env.kindOf n == some .cell) then (n, NameKind.cell) else (n, k)).1 = n := by split <;> rfl
      by_cases ey : y = n
      · subst ey
        simp only [hfst, beq_self_eq_true] at e
        by_cases hk : k = .free
        · subst hk; exact List.mem_cons_self
        · have hk' : (k == NameKind.free) = false := beq_eq_false_iff_ne.mpr hk
          simp only [hk', Bool.false_and, Bool.false_eq_true, if_false] at e
          rcases e with e | e
          · cases e; exact absurd rfl c1
          · cases e; exact absurd rfl hk
      · have ey' : (y == n) = false := beq_eq_false_iff_ne.mpr ey
        simp only [hfst, ey'] at e
        exact List.mem_cons_of_mem _ (ih (fun p hp => h1 p (List.mem_cons_of_mem _ hp)) (fun p hp => h2 p (List.mem_cons_of_mem _ hp)) e)
  refine ⟨fun y c e => clOf_mem _ _ [] (fun p hp => by cases hp) _ (lookup_mem e), fun y e => ?_, fun i j x e1 e2 => ?_, hl⟩
  · have hm := frees scope.names y hcell hfree e
    obtain ⟨c, hc⟩ := hcl _ hm rfl
    obtain ⟨d, hd⟩ := lookup_some (clOf_has X.env.cells scope.names [] y c hm hc)
    exact ⟨d, hd⟩
  · obtain ⟨a1, a2⟩ := hcap i j x e1 e2
    have a3 := hfree _ (lookup_mem a2) rfl
    refine ⟨a1, by rw [hsc]; exact a3, ?_⟩
    have rl : ∀ (l : List (Str × NameKind)), l.lookup x = some .free → (l.map fun (n, k) => if (k == NameKind.free && X.env.scope.kind == .function && X.env.kindOf n == some .cell) then (n, NameKind.cell) else (n, k)).lookup x = some .cell := by
      intro l
      induction l with
      | nil => intro e; cases e
      | cons p r ih =>
        intro e
        obtain ⟨n, k⟩ := p
        rw [List.map_cons, List.lookup_cons]
        rw [List.lookup_cons] at e
        have hfst : (if (k == NameKind.free && X.env.scope.kind == .function && X.env.kindOf n == some .cell) then (n, NameKind.cell) else (n, k)).1 = n := by split <;> rfl
        by_cases ex : x = n
        · subst ex
          simp only [beq_self_eq_true] at e
          cases e
          have c3 : X.env.kindOf x = some .cell := by show X.env.scope.names.lookup x = _; rw [hsc]; exact a3
          have c4 : X.env.scope.kind = .function := by rw [hsc]; exact hkf
          simp only [hfst, beq_self_eq_true, c3, c4, Bool.and_true, if_true]
        · have ex' : (x == n) = false := beq_eq_false_iff_ne.mpr ex
          simp only [ex'] at e
          simp only [hfst, ex']
          exact ih e
    exact rl _ a2
end DL

set_option maxHeartbeats 4000000

namespace DL
open PySem PySem.Spec PyProof.Rows L2

/-! ### what a block sees, by looking -/
def capFB (sc names : List (Str × NameKind)) : Bool := names.all fun y => !(decide (y.2 = NameKind.free)) || decide (sc.lookup y.1 = some NameKind.cell)
theorem capF {sc scope : Scope} (h : capFB sc.names scope.names = true) : ∀ y ∈ scope.names, y.2 = .free → sc.names.lookup y.1 = some .cell := fun y hy hf => by
  have := List.all_eq_true.mp h y hy
  rw [Bool.or_eq_true] at this
  rcases this with z | z
  · rw [decide_eq_true hf] at z; cases z
  · exact of_decide_eq_true z
def capB (N : List Str) (names : List (Str × NameKind)) : List Str → List Nat → Bool
  | x :: xs, j :: js => decide (N[j]? = some x) && decide (names.lookup x = some NameKind.free) && capB N names xs js
  | _, _ => true
theorem capB_get {N : List Str} {names : List (Str × NameKind)} : ∀ {xs : List Str} {js : List Nat}, capB N names xs js = true → ∀ (i j : Nat) (x : Str), xs[i]? = some x → js[i]? = some j → N[j]? = some x ∧ names.lookup x = some .free
  | [], _, _, i, _, _, e, _ => by simp at e
  | _ :: _, [], _, i, _, _, _, e => by simp at e
  | x :: xs, j :: js, h, 0, j', x', e1, e2 => by
    unfold capB at h
    rw [Bool.and_eq_true, Bool.and_eq_true] at h
    simp at e1 e2
    subst e1 e2
    exact ⟨of_decide_eq_true h.1.1, of_decide_eq_true h.1.2⟩
  | x :: xs, j :: js, h, i + 1, j', x', e1, e2 => by
    unfold capB at h
    rw [Bool.and_eq_true] at h
    exact capB_get h.2 i j' x' (by simpa using e1) (by simpa using e2)
theorem capB_ok {X : Cx} {N : List Str} {Nc : List Str} {n0 : Nat} {caps : List Nat} {scope : Scope} (hN : X.N = N) (h : capB N scope.names (Nc.drop n0) caps = true) :
    ∀ (i j : Nat) (x : Str), Nc[n0 + i]? = some x → caps[i]? = some j → X.N[j]? = some x ∧ scope.names.lookup x = some .free := fun i j x e1 e2 => by
  rw [hN]
  exact capB_get h i j x (by rw [List.getElem?_drop]; exact e1) e2

section
variable {X : Cx} {E : XK} {pos p p1 p2 : Pos} {a e : Expr} {x : Str}
/-! ### new lists -/
def sRetF (f : DSt → M (List D)) (sd : DSt) : M O := (f sd).bind fun ds => .ok (.rt (.ow ds))
theorem psd_retF {f : DSt → M (List D)} (h : PFd X E e f) : PSd X E (.Return (some e) pos) (sRetF f) := by
  obtain ⟨t, p, q⟩ := h
  refine ⟨_, ps_ret p, fun H0 B Hf sd σ H D sr h => ?_⟩
  refine q H0 B Hf sd σ H _ sr (PoS.bindF sr h fun ds p xs Hf1 H1 _ g1 sr1 e1 e2 e3 e4 h1 => ?_)
  exact h1 _ Hf1 H1 (Same.refl _) sr1.fin ⟨p, rfl, sr.all.free e1, e2, xs, e3, e4⟩
def fList (fs : DSt → M (List D)) (sd : DSt) : M (List D) := (fs sd).bind fun ds => match ds with
  | [.lst xs] => .ok xs
  | [.tup xs] => .ok xs
  | _ => .bad
theorem pfd_list {fs : DSt → M (List D)} (hg : Gl X "list") (hm : X.mg "list" = none) (hv : bootBuiltins "list" = some (.type "list")) (ha : PAd X E [a] fs)
    (he : starEach [a] X.env = (false, eval a X.env) :: starEach [] X.env := by rfl) (hpl : (backTo pos (starEach ([] : List Expr) X.env)).any (·.1) = false := by rfl) : PFd X E (.Call (.Name "list" p) [a] [] pos) (fList fs) := by
  obtain ⟨t, pt, qt⟩ := ha
  refine ⟨_, pe_callTy call_list_of hg hm hv pt (by decide) (by decide) he hpl, fun H0 B Hf sd σ H Q sr h => ?_⟩
  refine qt H0 B Hf sd σ H _ sr (PoF.bind h fun ds vs Hf1 H1 _ g1 rs h1 => ?_)
  split at h1
  · obtain ⟨y, rfl, r⟩ := reps1 rs
    obtain ⟨q, ys, rfl, hp, hr⟩ := rep_lst.mp r
    exact ⟨q, ys, rfl, .inl (g1.sub.seq hp), fun l hl => h1 l ys Hf1 _ ⟨Same.refl _, g1.sub.trans (same_upd hl _), same_upd hl _, fun _ _ e => e⟩ hl (g1.sub.free hl) upd_same hr⟩
  · obtain ⟨y, rfl, r⟩ := reps1 rs
    obtain ⟨q, ys, rfl, hp, hr⟩ := rep_tupQ r
    exact ⟨q, ys, rfl, .inr (Same.seqT g1.sub hp), fun l hl => h1 l ys Hf1 _ ⟨Same.refl _, g1.sub.trans (same_upd hl _), same_upd hl _, fun _ _ e => e⟩ hl (g1.sub.free hl) upd_same hr⟩
  · exact h1.elim
/-- list(x), x our own list -/
def fCopyO (i : Nat) (sd : DSt) : M (List D) := match sd[i]? with
  | some (some (.ow ds)) => .ok ds
  | _ => .bad
theorem pfd_copyO (i : Nat) (hg : Gl X "list") (hm : X.mg "list" = none) (hv : bootBuiltins "list" = some (.type "list")) (hi : X.N[i]? = some x := by rfl) (hvis : Vis X.env.scope x := by first | exact Or.inl rfl | exact Or.inr (Or.inl rfl) | exact Or.inr (Or.inr rfl))
    (hd : (x == ("__debug__" : Str)) = false := by decide) (hcd : (x == ("__classdict__" : Str)) = false := by decide)
    (he : starEach [.Name x p1] X.env = (false, eval (.Name x p1) X.env) :: starEach [] X.env := by rfl) (hpl : (backTo pos (starEach ([] : List Expr) X.env)).any (·.1) = false := by rfl) : PFd X E (.Call (.Name "list" p) [.Name x p1] [] pos) (fCopyO i) := by
  refine ⟨_, pe_callTy call_list_of hg hm hv (pa_cons (pe_var hi hvis hd hcd) pa_nil he) (by decide) (by decide) he hpl, fun H0 B Hf sd σ H Q sr h => ?_⟩
  unfold fCopyO at h
  split at h
  · rename_i ds ei
    obtain ⟨q, z1, z2, z3, xs, z4, z5⟩ := sr.ow i _ ei rfl
    exact ⟨_, z1, q, xs, rfl, .inl (SqL.of z4), fun l hl => h l xs Hf _ ⟨Same.refl _, sr.sub.trans (same_upd hl _), same_upd hl _, fun _ _ e => e⟩ hl (sr.sub.free hl) upd_same z5⟩
  · exact h.elim

/-! ### - x -/
def UnD (X : Cx) (E : XK) (f : Value → Sem Value) (g : D → M D) : Prop :=
  ∃ r, UnR X f r ∧ ∀ (Hf H : Hp) (x : V) (dx : D) (Q : VK), Same Hf H → Rep X.K Hf dx x → Po X.K E (rV X.K) Hf H (g dx) Q → r x H Q
def gNeg : D → M D
  | .int i => .ok (.int (-i))
  | _ => .bad
theorem ud_neg : UnD X E (unaryOp .USub) gNeg := by
  refine ⟨_, un_neg, fun Hf H x dx Q e rx q => ?_⟩
  unfold gNeg at q
  split at q
  · exact ⟨_, rep_int.mp rx, Po.ret e q (rep_int.mpr rfl)⟩
  · exact q.elim
def eUn (g : D → M D) (f : DSt → M D) (sd : DSt) : M D := (f sd).bind g
theorem pd_un {op : UnaryOp} {g : D → M D} {f : DSt → M D} (ho : UnD X E (unaryOp op) g) (h : PEd X E a f) : PEd X E (.UnaryOp op a pos) (eUn g f) := by
  obtain ⟨r, hr, qr⟩ := ho
  obtain ⟨t, p, q⟩ := h
  refine ⟨_, pe_un hr p, fun H0 B Hf sd σ H Q sr h => ?_⟩
  exact q H0 B Hf sd σ H _ sr (Po.bind h fun d v Hf1 H1 _ g1 rv h1 => qr Hf1 H1 v d Q g1.sub rv h1)
end

/-! ### t[::-1] -/
section
variable {prog : Program} {w : World} {A : Around} {E : Value → Shared → Prop} {s : Shared}
theorem sliceApplied_rev {sl : Addr} {t : Tok} {n : Nat} {Q : Int × Int × Nat → Shared → Prop} (hs : s.heap.IsSliceOf sl .none .none (.int (-1) t))
    (h : Q ((n : Int) - 1, -1, n) s) : wpAny (model prog w) A (Builtin.Slice.sliceApplied (.ref sl) (pure (n : Int))) Q E s := by
  obtain ⟨os, hos, hcs, hds⟩ := id hs
  unfold Builtin.Slice.sliceApplied Builtin.Slice.sliceFields
  refine wpAny_bind (wpAny_bind (wpAny_field hos hds (x := .none) rfl (wpAny_bind (wpAny_field hos hds (x := .none) rfl (wpAny_bind (wpAny_field hos hds (x := .int (-1) t) rfl (wpAny_pure ?_)))))))
  refine wpAny_bind (slicePart_int ?_)
  show wpAny _ _ (if ((-1 : Int) == 0) = true then _ else _) _ _ s
  rw [if_neg (by decide)]
  refine wpAny_bind (slicePart_none (wpAny_bind (slicePart_none (wpAny_bind (wpAny_pure ?_)))))
  show wpAny _ _ (match Builtin.Slice.sliceAdjust none none (-1) (n : Int) with | (lo, hi) => pure (lo, (-1 : Int), Builtin.Slice.slicePlaces lo hi (-1))) _ _ s
  have e1 : Builtin.Slice.sliceAdjust none none (-1) (n : Int) = ((n : Int) - 1, -1) := by
    unfold Builtin.Slice.sliceAdjust
    simp
  have e2 : Builtin.Slice.slicePlaces ((n : Int) - 1) (-1) (-1) = n := by
    unfold Builtin.Slice.slicePlaces
    simp
    split <;> omega
  rw [e1]
  show wpAny _ _ (pure ((n : Int) - 1, (-1 : Int), Builtin.Slice.slicePlaces ((n : Int) - 1) (-1) (-1))) _ _ s
  rw [e2]
  exact wpAny_pure h
theorem fm_congr {α β : Type} {f g : α → Option β} : ∀ {l : List α}, (∀ a ∈ l, f a = g a) → l.filterMap f = l.filterMap g
  | [], _ => rfl
  | a :: l, h => by
    rw [List.filterMap_cons, List.filterMap_cons, h a List.mem_cons_self, fm_congr fun b hb => h b (List.mem_cons_of_mem _ hb)]
theorem pick_rev (xs : Array Value) : ((List.range xs.size).filterMap fun (m : Nat) => xs[(((xs.size : Int) - 1) + (m : Int) * (-1)).toNat]?).toArray = xs.toList.reverse.toArray := by
  have h := HT.pick_gen xs.toList.reverse.toArray 0 xs.size
  have e : (List.range xs.size).filterMap (fun (m : Nat) => xs[(((xs.size : Int) - 1) + (m : Int) * (-1)).toNat]?) = (List.range xs.size).filterMap (fun (m : Nat) => xs.toList.reverse.toArray[(((0 : Nat) : Int) + (m : Int) * 1).toNat]?) := by
    refine fm_congr fun m hm => ?_
    have hm := List.mem_range.mp hm
    have e1 : (((xs.size : Int) - 1) + (m : Int) * (-1)).toNat = xs.size - 1 - m := by omega
    have e2 : (((0 : Nat) : Int) + (m : Int) * 1).toNat = m := by omega
    rw [e1, e2]
    simp only [List.getElem?_toArray]
    rw [List.getElem?_reverse (by simpa using hm)]
    simp
  rw [e, h]
  have hl : xs.toList.reverse.length = xs.size := by simp
  show ((xs.toList.reverse.drop 0).take xs.size).toArray = _
  rw [List.drop_zero, ← hl, List.take_length]
theorem getItem_tuple_rev {t sl : Addr} {items : Array Value} {tk : Tok} {Q : Value → Shared → Prop} (ht : IsTup s.heap t items) (hs : s.heap.IsSliceOf sl .none .none (.int (-1) tk))
    (h : Q (.ref s.heap.objs.size) { s with heap := s.heap.push { cls := .type "tuple", data := .seq items.toList.reverse.toArray } })
    (hsz : items.size ≤ sizeLine) : wpAny (model prog w) A (getItem (.ref t) (.ref sl)) Q E s := by
  have htake : sizeOk (.seq items.toList.reverse.toArray) := by
    show items.toList.reverse.toArray.size ≤ sizeLine
    simpa using hsz
  obtain ⟨os, hos, hcs, hds⟩ := id hs
  have hTs : s.TypeIs (.ref sl) "slice" := ⟨os, hos, hcs⟩
  unfold getItem
  try with_reducible refine wpAny_holding ?_
  first | refine wpAny_bind (wpAny_pure ?_) | skip
  refine wpAny_bind (wpAny_sequenceKey ht.typeIs (by decide) ?_)
  refine wpAny_bind (wpAny_callSpecial?_slot (name := Str.ofString "__getitem__") ht.typeIs PyProof.Rows.slot_tuple_getitem
    (wpAny_call_entry PyProof.Rows.slot_tuple_getitem ht.typeIs entry_tuple_getitem ?_ (args_tuple_getitem _ _)))
  show wpAny _ _ (Builtin.Tuple.tupleItemsOf (.ref t) >>= _) _ _ s
  refine wpAny_bind (tupleItemsOf_ ht ?_)
  refine wpAny_bind (wpAny_typeOf hTs ?_)
  rw [if_pos (by decide)]
  refine wpAny_bind (sliceApplied_rev hs ?_)
  show wpAny _ _ (if (((items.size : Int) - 1) == 0 && (-1 : Int) == 1 && items.size == items.size) = true then _ else _) _ _ s
  rw [if_neg (by simp), pick_rev]
  first
    | exact wpAny_bind (m := Builtin.Tuple.tupleExact _) (wpAny_newObj_type (wpAny_pure ⟨_, rfl, wpAny_pure h⟩) htake)
    | exact wpAny_bind (m := Builtin.Tuple.tupleExact _) (wpAny_newObj_type (wpAny_bind (wpAny_pure (wpAny_pure ⟨_, rfl, wpAny_pure h⟩))) htake)
    | exact wpAny_bind (wpAny_bind (m := Builtin.Tuple.tupleExact _) (wpAny_newObj_type (wpAny_pure (wpAny_pure ⟨_, rfl, wpAny_pure h⟩)) htake))
    | exact wpAny_bind (wpAny_bind (m := Builtin.Tuple.tupleExact _) (wpAny_newObj_type (wpAny_pure ⟨_, rfl, wpAny_pure h⟩) htake))
end
theorem Vals.rev : ∀ {xs : List V} {us : List Value}, Vals xs us → Vals xs.reverse us.reverse
  | _, _, .nil => .nil
  | _, _, .cons r t => by
    rw [List.reverse_cons, List.reverse_cons]
    exact (Vals.rev t).append (.cons r .nil)
theorem Reps.rev {K : PySem.W.Frag} {H : Hp} : ∀ {ds : List D} {xs : List V}, Reps K H ds xs → Reps K H ds.reverse xs.reverse
  | [], xs, h => by rw [reps_nil.mp h]; exact Reps.nil
  | d :: ds, xs, h => by
    obtain ⟨x, r, rfl, h1, h2⟩ := reps_cons.mp h
    rw [List.reverse_cons, List.reverse_cons]
    exact (Reps.rev h2).append (Reps.cons h1 Reps.nil)
section
variable {X : Cx} {E : XK} {pos p2 p3 p4 : Pos} {e : Expr}
def tRevT (K : PySem.W.Frag) (te : TE) : TE := fun σ H Q => te σ H fun x H1 => ∃ a xs, x = .ref a ∧ SqT K H1 a xs ∧ ∀ p, H1 p = none → Q (.ref p) (upd H1 p (.tup xs.reverse))
theorem pe_revT {te : TE} {j} (he : PE X e te) : PE X (.Subscript e (.Slice none none (some (.UnaryOp .USub (.Constant (.int 1) j p3) p4)) p2) pos) (tRevT X.K te) := by
  intro pins s σ H Q I h
  refine Subscript_ (thn (he pins s σ H _ I h) fun v s1 ⟨x, H1, I1, r1, q1⟩ => ?_)
  refine wpAny_Slice ?_
  rw [evalPart_none]
  refine wpAny_pure (wpAny_pure ?_)
  rw [evalPart_some]
  refine thn (pe_un (un_neg (X := X)) (pe_int (X := X)) pins s1 σ H1 (fun y H2 => y = .int (-1) ∧ H2 = H1) I1 ⟨1, rfl, rfl, rfl⟩) fun vst s2 ⟨y, H2, I2, ry, ey, eH⟩ => ?_
  subst ey eH
  obtain ⟨tk, rfl⟩ := (show ∃ t, vst = Value.int (-1) t from ry)
  have I4 : Inv X pins σ H2 { s2 with heap := s2.heap.push { cls := .type "slice", data := .fields #[.none, .none, .int (-1) tk] } } := I2.kept (t' := s2.toks) fun b ob q => Heap.get?_push_of_some _ q
  obtain ⟨a, xs, rfl, hx, q⟩ := q1
  cases r1
  obtain ⟨its, r, ht, hz⟩ := I4.tuple hx
  have hlen : its.toArray.size = xs.length := by rw [List.size_toArray]; exact r.length.symm
  show wpAny (model X.prog X.w) X.A (subscriptTail e _ _ (.ref s2.heap.objs.size)) (EP X pins σ Q) X.xe { s2 with heap := s2.heap.push { cls := .type "slice", data := .fields #[.none, .none, .int (-1) tk] } }
  refine tail_any (ops := [.ref a, .ref s2.heap.objs.size]) ht.typeIs PyProof.Rows.slot_tuple_getitem.lookup (getItem_tuple_rev ht (Heap.IsSliceOf.new ..) ?_ (by rw [hlen]; exact hz)) (by with_unfolding_all rfl)
  refine ⟨.ref _, _, I4.laid (t' := s2.toks) (o := .tup xs.reverse) (fun b ob q => Heap.get?_push_of_some _ q) (Nat.le_refl _) ?_, rfl, q _ (I4.hok.fresh (Nat.le_refl _))⟩
  exact ⟨by rw [List.length_reverse]; exact hz, _, Vals.rev r, IsTup.new _ _⟩
def eRev (f : DSt → M D) (sd : DSt) : M D := (f sd).bind fun d => match d with
  | .tup ds => .ok (.tup ds.reverse)
  | _ => .bad
theorem pd_rev {f : DSt → M D} {j} (h : PEd X E e f) : PEd X E (.Subscript e (.Slice none none (some (.UnaryOp .USub (.Constant (.int 1) j p3) p4)) p2) pos) (eRev f) := by
  obtain ⟨t, p, q⟩ := h
  refine ⟨_, pe_revT p, fun H0 B Hf sd σ H Q sr h => ?_⟩
  refine q H0 B Hf sd σ H _ sr (Po.bind h fun d v Hf1 H1 _ g1 rv h1 => ?_)
  split at h1
  · obtain ⟨a, xs, rfl, ha, hr⟩ := rep_tupQ rv
    exact ⟨a, xs, rfl, Same.seqT g1.sub ha, fun p hp => h1 _ _ _ (Gr.alloc g1.sub hp _) (Gr.tup g1.sub hp (Reps.rev hr))⟩
  · exact h1.elim
end
end DL

set_option maxHeartbeats 4000000

namespace DL
open PySem PySem.Spec PyProof.Rows L2

section
variable {X : Cx} {E : XK} {pos : Pos} {a b c : Expr}
/-! ### what never runs -/
def sBad (_ : DSt) : M O := .bad
theorem psd_bad {st : Stmt} : PSd X E st sBad := ⟨_, ps_never, fun _ _ _ _ _ _ _ _ h => h.elim⟩

/-! ### a op b op c -/
def eChain (g g' : D → D → M D) (fa fb fc : DSt → M D) (sd : DSt) : M D := (fa sd).bind fun x => (fb sd).bind fun y => (g x y).bind fun r => (asB r).bind fun k => if k then ((fc sd).bind fun z => g' y z) else .ok (.bl false)
theorem chain_core {fa fb fc : DSt → M D} {g g' : D → D → M D} {ta tb tc : TE} {r r' : R2} {H0 : Hp} {B : Addr → Prop} {Hf : Hp} {sd : DSt} {σ : L2.St} {H : Hp} {Q : VK}
    (qa : ∀ (H0 : Hp) (B : Addr → Prop) (Hf : Hp) (sd : DSt) (σ : L2.St) (H : Hp) (Q : VK), SR X.K H0 B Hf sd σ H → Po X.K E (rV X.K) Hf H (fa sd) Q → ta σ H Q)
    (qb : ∀ (H0 : Hp) (B : Addr → Prop) (Hf : Hp) (sd : DSt) (σ : L2.St) (H : Hp) (Q : VK), SR X.K H0 B Hf sd σ H → Po X.K E (rV X.K) Hf H (fb sd) Q → tb σ H Q)
    (qc : ∀ (H0 : Hp) (B : Addr → Prop) (Hf : Hp) (sd : DSt) (σ : L2.St) (H : Hp) (Q : VK), SR X.K H0 B Hf sd σ H → Po X.K E (rV X.K) Hf H (fc sd) Q → tc σ H Q)
    (qr : ∀ (Hf H : Hp) (x y : V) (dx dy : D) (Q : VK), Same Hf H → Rep X.K Hf dx x → Rep X.K Hf dy y → Po X.K E (rV X.K) Hf H (g dx dy) Q → r x y H Q)
    (qr' : ∀ (Hf H : Hp) (x y : V) (dx dy : D) (Q : VK), Same Hf H → Rep X.K Hf dx x → Rep X.K Hf dy y → Po X.K E (rV X.K) Hf H (g' dx dy) Q → r' x y H Q)
    (sr : SR X.K H0 B Hf sd σ H) (h : Po X.K E (rV X.K) Hf H (eChain g g' fa fb fc sd) Q) : tChain r r' ta tb tc σ H Q := by
  refine qa H0 B Hf sd σ H _ sr (Po.bind h fun dx x Hf1 H1 _ g1 rx h1 => ?_)
  have sr1 := sr.gr g1
  refine qb H0 B Hf1 sd σ H1 _ sr1 (Po.bind h1 fun dy y Hf2 H2 _ g2 ry h2 => ?_)
  have sr2 := sr1.gr g2
  refine qr Hf2 H2 x y dx dy _ g2.sub (Rep.mono g2.fz rx) ry (Po.bind h2 fun dz z Hf3 H3 _ g3 rz h3 => ?_)
  have sr3 := sr2.gr g3
  obtain ⟨k, rfl, h4⟩ := Po.asB h3
  refine ⟨k, rep_bl.mp rz, ?_⟩
  cases k with
  | true =>
    rw [if_pos rfl] at h4 ⊢
    exact qc H0 B Hf3 sd σ H3 _ sr3 (Po.bind h4 fun dw w' Hf4 H4 _ g4 rw' h5 => qr' Hf4 H4 y w' dy dw Q g4.sub (Rep.mono g4.fz (Rep.mono g3.fz ry)) rw' h5)
  | false =>
    rw [if_neg Bool.false_ne_true] at h4 ⊢
    exact Po.ret (R := rV X.K) g3.sub h4 (rep_bl.mpr rfl)
theorem pd_chain {op op' : CmpOp} {g g' : D → D → M D} {fa fb fc : DSt → M D} (ho : OpD X E (compareOp op) g) (ho' : OpD X E (compareOp op') g') (ha : PEd X E a fa) (hb : PEd X E b fb) (hc : PEd X E c fc)
    (hm : lastMarks [op, op'] [b, c] = false := by with_unfolding_all rfl) : PEd X E (.Compare a [op, op'] [b, c] pos) (eChain g g' fa fb fc) := by
  obtain ⟨r, hr, qr⟩ := ho
  obtain ⟨r', hr', qr'⟩ := ho'
  obtain ⟨ta, pa, qa⟩ := ha
  obtain ⟨tb, pb, qb⟩ := hb
  obtain ⟨tc, pc, qc⟩ := hc
  exact ⟨_, pe_chain hr hr' pa pb pc hm, fun H0 B Hf sd σ H Q sr h => chain_core qa qb qc qr qr' sr h⟩
theorem ptd_chain {op op' : CmpOp} {g g' : D → D → M D} {fa fb fc : DSt → M D} (ho : OpD X E (compareOp op) g) (ho' : OpD X E (compareOp op') g') (ha : PEd X E a fa) (hb : PEd X E b fb) (hc : PEd X E c fc)
    (hm : lastMarks [op, op'] [b, c] = false := by with_unfolding_all rfl) : PTd X E (.Compare a [op, op'] [b, c] pos) (DL.tB (eChain g g' fa fb fc)) := by
  obtain ⟨r, hr, qr⟩ := ho
  obtain ⟨r', hr', qr'⟩ := ho'
  obtain ⟨ta, pa, qa⟩ := ha
  obtain ⟨tb, pb, qb⟩ := hb
  obtain ⟨tc, pc, qc⟩ := hc
  refine ⟨_, pt_chain hr hr' pa pb pc hm, fun H0 B Hf sd σ H Q sr h => ?_⟩
  refine chain_core qa qb qc qr qr' sr (Po.bind h fun d v Hf1 H1 _ g1 rv h1 => ?_)
  unfold DL.asB at h1
  split at h1
  · exact ⟨_, rep_bl.mp rv, Po.ret (R := rQ) g1.sub h1 rfl⟩
  · exact h1.elim

/-! ### range(a, b) -/
def iRange2 (fs : DSt → M (List D)) (sd : DSt) : M (List D) := (fs sd).bind fun ds => match ds with
  | [.int i, .int j] => if (-1000000 ≤ i ∧ i ≤ 1000000) ∧ -1000000 ≤ j ∧ j ≤ 1000000 then .ok (rangeD i (j - i).toNat) else .bad
  | _ => .bad
theorem pid_range2 {tg : Expr} {p : Pos} {fs : DSt → M (List D)} (hg : Gl X "range") (hm : X.mg "range" = none) (h : PAd X E [a, b] fs) (hs : starEach [a, b] X.env = [(false, eval a X.env), (false, eval b X.env)] := by rfl) (hs2 : starEach [b] X.env = [(false, eval b X.env)] := by rfl) :
    PId X E tg (.Call (.Name "range" p) [a, b] [] pos) (iRange2 fs) := by
  obtain ⟨t, pt, q⟩ := h
  refine ⟨_, pi_range2 hg hm pt hs hs2, fun H0 B Hf sd σ H R sr h => ?_⟩
  refine q H0 B Hf sd σ H _ sr (Po.bind h fun ds vs Hf1 H1 _ g1 rs h1 => ?_)
  split at h1
  · split at h1
    · rename_i hj
      obtain ⟨v, w', rfl, rv, rw'⟩ := reps2 rs
      rw [rep_int.mp rv, rep_int.mp rw']
      exact ⟨_, _, rfl, ⟨by omega, by omega, by omega, by omega⟩, Po.ret (R := ItOk X.K) g1.sub h1 (itr_ok _ _)⟩
    · exact h1.elim
  · exact h1.elim
end
end DL

set_option maxHeartbeats 4000000
set_option linter.all false

namespace DL
open PySem PySem.Spec PyProof.Rows L2

/-! ### exceptions: the record, its notes -/
/-- the exception's record at a: its class, its dict, the newest note at T (none yet: T is a itself), which says fl -/
def Nt (h : Heap) (a : Addr) (c : Value) (dx : Option Addr) (T : Addr) (fl : Value) : Prop :=
  ∃ oe vs, h.get? a = some oe ∧ oe.cls = c ∧ oe.dict = dx ∧ oe.data = .fields vs ∧ 1 < vs.size ∧
    ((T = a ∧ vs[1]? = some .none) ∨ (T ≠ a ∧ vs[1]? = some (.ref T) ∧ ∃ oT ts, h.get? T = some oT ∧ oT.data = .fields ts ∧ ts[3]? = some fl))
/-- all but a, T is as it was; of the frames the slots may be others -/
structure Ch (fr : List Addr) (a T : Addr) (h h' : Heap) : Prop where
  keep : ∀ b o, b ≠ a → b ≠ T → b ∉ fr → h.get? b = some o → h'.get? b = some o
  slot : ∀ b o, b ≠ a → b ≠ T → h.get? b = some o → ∃ sl, h'.get? b = some { o with slots := sl }

section
variable {M : Model} {A : Around} {E : Value → Shared → Prop} {s : Shared}
theorem entry_at {base : Heap} {env : Env} {outer : List Env} {L a : Addr} {oe : Obj} {vs : Array Value} {head : Value} {hadNext : Bool} {Q : Unit → Shared → Prop}
    (hA : A.frames = some (env :: outer)) (hF : s.heap.FunFrames base (env :: outer)) (hL : env.frame = some L) (ho : s.heap.get? a = some oe) (hv : oe.data = .fields vs) (hz : 1 < vs.size)
    (k : ∀ h' T, s.heap.objs.size ≤ T → Nt h' a oe.cls oe.dict T (rawInt L) → T ≠ a → Ch (frs (env :: outer)) a a s.heap h' → Q () { s with heap := h' }) :
    wpAny M A (do let p ← frameOf env; let pl ← entryPlaceOf L hadNext; let b ← EntryCells.newEntry head p .none (rawInt L) .none pl; setField (.ref a) 1 b) Q E s := by
  have na : a ∉ (env :: outer).filterMap (·.frame) := fun z => by
    obtain ⟨_, o, q, nf⟩ := hF.mem z
    rw [ho] at q; cases q; exact nf vs hv
  refine wpAny_bind (wpAny_frameOf_fun hA hF hL fun g sl => ?_)
  refine wpAny_bind (wpAny_entryPlaceOf fun pl hp => ?_)
  unfold EntryCells.newEntry newFields
  refine wpAny_bind (wpAny_newObj_type ?_ (hp.sizeOk5 _ _ _ _ _))
  have ga : g.get? a = some oe := (sl.2.1 a na).trans ho
  have nT : g.objs.size ≠ a := Nat.ne_of_gt (Heap.lt_size ga)
  refine wpAny_setField (Heap.get?_push_of_some _ ga) hv hz ?_
  have zs : s.heap.objs.size ≤ g.objs.size := by
    have := sl.1
    omega
  have da := Obj.data_mapFields hv (·.setIfInBounds 1 (Value.ref g.objs.size))
  refine k _ g.objs.size zs ⟨_, _, Heap.get?_update_self _ (Heap.get?_push_of_some _ ga) (Obj.isFreed_of_fields da), Obj.cls_mapFields _ _, ?_, da, by simpa using hz, .inr ⟨nT, by simp [hz], _, _, (Heap.get?_update_other _ _ (Ne.symm nT)).trans (Heap.get?_push_size g rfl), rfl, ?_⟩⟩ nT ⟨fun b o n1 n2 nf q => ?_, fun b o n1 n2 q => ?_⟩
  · obtain ⟨c, d, dt, sls⟩ := oe
    cases dt <;> first | rfl | cases hv
  · first | (simp; done) | (rcases hp with rfl | ⟨_, _, _, _, _, _, _, rfl⟩ <;> simp)
  · rw [Heap.get?_update_other _ _ (Ne.symm n1)]
    exact Heap.get?_push_of_some _ ((sl.2.1 b nf).trans q)
  · obtain ⟨x, e⟩ := sl.2.2 b o q
    exact ⟨x, by rw [Heap.get?_update_other _ _ (Ne.symm n1)]; exact Heap.get?_push_of_some _ e⟩

theorem Ch.trans {fr : List Addr} {a T T' U : Addr} {h h1 h2 : Heap} (x : Ch fr a T h h1) (y : Ch fr a T' h1 h2) (q : ∀ b o, b ≠ a → b ≠ U → h.get? b = some o → b ≠ T ∧ b ≠ T') : Ch fr a U h h2 :=
  ⟨fun b o n1 n2 nf e => y.keep b o n1 (q b o n1 n2 e).2 nf (x.keep b o n1 (q b o n1 n2 e).1 nf e), fun b o n1 n2 e => by
    obtain ⟨sl, e1⟩ := x.slot b o n1 (q b o n1 n2 e).1 e
    obtain ⟨sl', e2⟩ := y.slot b _ n1 (q b o n1 n2 e).2 e1
    exact ⟨sl', e2⟩⟩

/-- the frame is noted -/
theorem note_at {base : Heap} {env : Env} {outer : List Env} {L a T : Addr} {c : Value} {dx : Option Addr} {Q : Unit → Shared → Prop}
    (hA : A.frames = some (env :: outer)) (hF : s.heap.FunFrames base (env :: outer)) (hL : env.frame = some L) (hn : Nt s.heap a c dx T .none)
    (k : ∀ h' T', s.heap.objs.size ≤ T' → Nt h' a c dx T' (rawInt L) → T' ≠ a → Ch (frs (env :: outer)) a T s.heap h' → Q () { s with heap := h' }) : wpAny M A (noteFrame (.ref a) env) Q E s := by
  obtain ⟨oe, vs, ho, hc, hdx, hv, hz, hcase⟩ := hn
  subst hc hdx
  unfold noteFrame
  simp only [hL]
  rcases hcase with ⟨rfl, h1⟩ | ⟨nT, h1, oT, ts, hT, hts, h3⟩
  · refine wpAny_bind (wpAny_field ho hv h1 ?_)
    rw [if_neg (by decide)]
    exact entry_at hA hF hL ho hv hz k
  · refine wpAny_bind (wpAny_field ho hv h1 ?_)
    rw [if_pos (show (Value.ref T != Value.none) = true from by simp)]
    refine wpAny_bind (wpAny_field hT hts h3 ?_)
    rw [if_neg (show ¬ ((Value.none == rawInt L) = true) from by simp [rawInt])]
    refine wpAny_bind (wpAny_setField hT hts (Array.getElem?_eq_some_iff.mp h3).1 ?_)
    have oth : ∀ b, b ≠ T → (s.heap.update T (Obj.mapFields (·.setIfInBounds 3 Value.none))).get? b = s.heap.get? b := fun b nb => Heap.get?_update_other _ _ (Ne.symm nb)
    have nofr : ∀ b o, s.heap.get? b = some o → (∀ ws, o.data ≠ .fields ws) → b ≠ T := fun b o e nf z => by
      rw [z, hT] at e; cases e; exact nf ts hts
    refine entry_at hA (hF.of_keeps fun b o e nf => ⟨o, (oth b (nofr b o e nf)).trans e, rfl⟩) hL ((oth a (Ne.symm nT)).trans ho) hv hz fun h' T' z n1 n2 n3 => k h' T' ?_ n1 n2 ⟨fun b o b1 b2 bf e => n3.keep b o b1 b1 bf ((oth b b2).trans e), fun b o b1 b2 e => n3.slot b o b1 b1 ((oth b b2).trans e)⟩
    have := Heap.size_after_update s.heap T (Obj.mapFields (·.setIfInBounds 3 Value.none))
    show s.heap.objs.size ≤ T'
    have z' : (s.heap.update T (Obj.mapFields (·.setIfInBounds 3 Value.none))).objs.size ≤ T' := z
    omega
/-- the note says another thing -/
theorem flight_at {a T : Addr} {c fl : Value} {dx : Option Addr} {Q : Unit → Shared → Prop} (hn : Nt s.heap a c dx T fl) (nT : T ≠ a)
    (k : ∀ h', h'.objs.size = s.heap.objs.size → Nt h' a c dx T .none → (∀ b, b ≠ T → h'.get? b = s.heap.get? b) → Q () { s with heap := h' }) : wpAny M A (setFlight (.ref a) none) Q E s := by
  obtain ⟨oe, vs, ho, hc, hdx, hv, hz, hcase⟩ := hn
  rcases hcase with ⟨e, _⟩ | ⟨_, h1, oT, ts, hT, hts, h3⟩
  · exact absurd e nT
  have z3 := (Array.getElem?_eq_some_iff.mp h3).1
  refine wpAny_setFlight_none ho hv h1 hT hts z3 ?_
  have oth : ∀ b, b ≠ T → (s.heap.update T (Obj.mapFields (·.setIfInBounds 3 Value.none))).get? b = s.heap.get? b := fun b nb => Heap.get?_update_other _ _ (Ne.symm nb)
  have dT := Obj.data_mapFields hts (·.setIfInBounds 3 Value.none)
  exact k _ (Heap.size_after_update _ _ _) ⟨oe, vs, (oth a (Ne.symm nT)).trans ho, hc, hdx, hv, hz, .inr ⟨nT, h1, _, _, Heap.get?_update_self _ hT (Obj.isFreed_of_fields dT), dT, by simp [Array.getElem?_setIfInBounds, z3]⟩⟩ oth
/-- the frame is left -/
theorem leave_at {base : Heap} {env : Env} {outer : List Env} {L a T : Addr} {c : Value} {dx : Option Addr} {Q : Unit → Shared → Prop}
    (hA : A.frames = some (env :: outer)) (hF : s.heap.FunFrames base (env :: outer)) (hL : env.frame = some L) (hn : Nt s.heap a c dx T .none)
    (k : ∀ h' T', s.heap.objs.size ≤ T' → Nt h' a c dx T' .none → Ch (frs (env :: outer)) a T s.heap h' → Q () { s with heap := h' }) : wpAny M A (leaving env (.ref a)) Q E s := by
  unfold leaving
  refine wpAny_bind (note_at hA hF hL hn fun h' T' z n1 n2 n3 => ?_)
  refine flight_at (s := { s with heap := h' }) n1 n2 fun h2 _ n4 oth => ?_
  exact k h2 T' z n4 ⟨fun b o b1 b2 bf e => (oth b (Nat.ne_of_lt (Nat.lt_of_lt_of_le (Heap.lt_size e) z))).trans (n3.keep b o b1 b2 bf e), fun b o b1 b2 e => by
    obtain ⟨sl, q⟩ := n3.slot b o b1 b2 e
    exact ⟨sl, (oth b (Nat.ne_of_lt (Nat.lt_of_lt_of_le (Heap.lt_size e) z))).trans q⟩⟩
end
end DL

set_option maxHeartbeats 4000000
set_option linter.all false

namespace DL
open PySem PySem.Spec PyProof.Rows L2

theorem hok_ch {P : Program} {w : World} {H : Hp} {h h' : Heap} {fr : List Addr} {a T : Addr} (x : HOk P w H h) (c : Ch fr a T h h') (na : H a = none) (nT : H T = none) (nf : ∀ b ∈ fr, H b = none) : HOk P w H h' := fun b u e => by
  have ne : ∀ d v, H d = some v → d ≠ a ∧ d ≠ T ∧ d ∉ fr := fun d v q => ⟨fun z => (by rw [z, na] at q; cases q), fun z => (by rw [z, nT] at q; cases q), fun z => (by rw [nf d z] at q; cases q)⟩
  refine (x b u e).stay (fun d v hd q => ?_) (fun _ q => q) fun _ _ q => q
  have z : d ≠ a ∧ d ≠ T ∧ d ∉ fr := by
    rcases hd with rfl | hd
    · exact ne _ _ e
    · exact ne _ _ hd
  exact c.keep d v z.1 z.2.1 z.2.2 q

/-- how an exception lies behind a call -/
def CX1 (P : Program) (w : World) : CXT := fun outer H s E e s' => ∃ a H' c dx T, e = .ref a ∧ s'.os = s.os ∧ AllBare s'.gens ∧ Un (frs outer) [] H H' s.heap s'.heap ∧ HOk P w H' s'.heap ∧ Nt s'.heap a c dx T .none ∧
  H' a = none ∧ H' T = none ∧ s.heap.objs.size ≤ a ∧ s.heap.objs.size ≤ T ∧ E c dx H'
/-- an exception that was raised or came back here does what the context wants -/
def Out (X : Cx) (E : XK) : Prop := ∀ (pins : List (Addr × Obj)) (σ : L2.St) (H : Hp) (s : Shared) (a : Addr) (c : Value) (dx : Option Addr) (T : Addr), Inv X pins σ H s → Nt s.heap a c dx T .none → H a = none → H T = none →
  X.s₀.heap.objs.size ≤ a → X.s₀.heap.objs.size ≤ T → E c dx H → X.xe (.ref a) s
theorem Out.passes {X : Cx} {E : XK} (o : Out X E) : Passes (CX1 X.prog X.w) X E := by
  rintro pins σ H s e s' I ⟨a, H', c, dx, T, rfl, os, bare, un, hok, hn, na, nT, za, zT, q⟩
  exact o pins σ H' s' a c dx T (I.call' os un hok bare (fun b z => absurd z (by simp))) hn na nT (Nat.le_trans I.sz za) (Nat.le_trans I.sz zT) q
theorem out_fn {P : Program} {w : World} {K : PySem.W.Frag} {mg : Str → Option Value} {base : Heap} {N : List Str} {qual : Str} {scope : Scope} {f : Addr} {cd : Value} {A : Around} {outer : List Env} {s : Shared} {H : Hp} {E : XK} :
    Out (cxOf (CX1 P w) P w K mg base N qual scope f cd A outer s H E) E := by
  intro pins σ H1 s1 a c dx T I hn na nT za zT q
  have ok := I.ok
  show wpAny (model P w) (A.deeper (envOfC qual scope s.heap.objs.size f cd)) (leaving (envOfC qual scope s.heap.objs.size f cd) (.ref a)) _ _ s1
  refine leave_at (base := base) ok.frames I.stack rfl hn fun h' T' z n1 n2 => ?_
  have lt : ∀ {b : Addr} {o : Obj}, s.heap.get? b = some o → b ≠ a ∧ b ≠ T ∧ b ≠ s.heap.objs.size := fun {b o} e => by
    have h1 := Heap.lt_size e
    have za' : s.heap.objs.size ≤ a := za
    have zT' : s.heap.objs.size ≤ T := zT
    exact ⟨Nat.ne_of_lt (Nat.lt_of_lt_of_le h1 za'), Nat.ne_of_lt (Nat.lt_of_lt_of_le h1 zT'), Nat.ne_of_lt h1⟩
  have nfr : ∀ {b : Addr} {o : Obj}, s.heap.get? b = some o → b ∉ frs outer → b ∉ frs (envOfC qual scope s.heap.objs.size f cd :: outer) := fun {b o} e nf zz => by
    rcases List.mem_cons.mp (I.stkSub b zz) with q1 | q1
    · exact (lt e).2.2 q1
    · exact nf q1
  have ub := I.base
  refine ⟨a, H1, c, dx, T', rfl, I.os, I.bare, ⟨fun b o e n nf nx => ?_, fun b o e n bf nx => ?_, fun b o e n nx => ub.free b o e n nx, fun b o e nx => ?_, ub.tups, ub.frzs, ub.tbls⟩, hok_ch I.hok n2 na nT I.stkFree, n1, na, I.hok.fresh z, za, Nat.le_trans I.sz z, q⟩
  · exact n2.keep b o (lt e).1 (lt e).2.1 (nfr e nf) (ub.keep b o e n nf nx)
  · obtain ⟨sl, e1⟩ := ub.slot b o e n bf nx
    obtain ⟨sl', e2⟩ := n2.slot b _ (lt e).1 (lt e).2.1 e1
    exact ⟨sl', e2⟩
  · obtain ⟨o', e1⟩ := ub.there b o e nx
    obtain ⟨sl', e2⟩ := n2.slot b _ (lt e).1 (lt e).2.1 e1
    exact ⟨_, e2⟩

/-! ### defs that raise -/
def PoC (K : PySem.W.Frag) (Hf H : Hp) (r : M S) (Q : VK) (E : XK) : Prop := match r with
  | .ok s => ∀ v Hf' H', Gr Hf H Hf' H' → RS K H Hf' H' s v → Q v H'
  | .ex x => ∀ c dx Hf' H', Gr Hf H Hf' H' → RepX K Hf' H' x c dx → E c dx H'
  | .bad => False
def spX (K : PySem.W.Frag) (F : List D → M S) : Sp := fun vs H Q E => ∃ Hf ds, Same Hf H ∧ Reps K Hf ds vs ∧ PoC K Hf H (F ds) Q E
theorem fn_x {P : Program} {w : World} {K : PySem.W.Frag} {mg : Str → Option Value} {base : Heap} {x qual : Str} {st : Stmt} {f : Addr} {fd : FuncData} {N ps : List Str} {k m n : Nat} {fb : DSt → M O} (F : Fun K x qual st f fd) (sc : FnScope N ps (defScope st))
    (hn : ps.length = n) (hN : N.length = n + m)
    (hbody : ∀ (cdv : Value) (A : Around) (outer : List Env) (s : Shared) (H : Hp) (E : XK), Room k (A.deeper (envOfC qual (defScope st) s.heap.objs.size f cdv)) →
      PSsd (cxOf (CX1 P w) P w K mg base N qual (defScope st) f cdv A outer s H E) E (defBody st) fb) : FnOk P w K mg base (CX1 P w) (k + 1) f fd ps (spX K (fnD n m fb)) := by
  obtain ⟨oc, od, kV, doc, pm, an, cdv, ct, osl, rfl, lk, hcd⟩ := F.ex
  refine fn_of lk hcd sc (fun vs H Q E h => ?_) (fun A outer s H vs Q E hr h => ?_)
  · obtain ⟨Hf, ds, e, r, hF⟩ := h
    unfold fnD at hF
    split at hF
    · rename_i hl
      rw [← r.length, hl, hn]
    · exact hF.elim
  · obtain ⟨Hf, ds, e, r, q⟩ := h
    obtain ⟨t, p, qt⟩ := hbody cdv A outer s H E hr
    unfold fnD at q
    split at q
    · rename_i hl
      refine ⟨t, p, qt H _ Hf _ (L2.start N vs) H _ (sr_start (N := N) (m := m) e r (by omega)) ?_⟩
      generalize fb (List.map (fun d => some (S.im d)) ds ++ List.replicate m none) = ro at q
      have back : ∀ {Hf' H' : Hp}, Same Hf Hf' → Fin' H (fun a => H a ≠ none ∧ Hf a = none) Hf' H' → Gr Hf H Hf' H' := fun e1 e2 => ⟨e1, e2.sub, e2.all, fun a h1 h2 => e2.ban a ⟨h1, h2⟩⟩
      cases ro with
      | ok o =>
        cases o with
        | rt s2 => exact fun v Hf' H' e1 e2 e3 => q v Hf' H' (back e1 e2) e3
        | nx sd' => exact fun σ' Hf' H' e1 sr' => q .non Hf' H' (back e1 sr'.fin) (show Rep K Hf' .non .non from rep_non.mpr rfl)
        | bk sd' => exact q.elim
        | ct sd' => exact q.elim
      | ex x => exact fun c dx Hf' H' e1 e2 e3 => q c dx Hf' H' (back e1 e2) e3
      | bad => exact q.elim
    · exact q.elim
/-- a def that raises nothing here, too -/
theorem PoC.bind {K : PySem.W.Frag} {E : XK} {Hf H : Hp} {r : M S} {Q : VK} (h : Po K E (rV K) Hf H (r.bind S.toD) Q) : PoC K Hf H r Q E := by
  cases r with
  | bad => exact h
  | ex x => exact h
  | ok s =>
    cases s with
    | im d => exact fun v Hf' H' g rv => h v Hf' H' g rv
    | ow es =>
      rintro v Hf' H' g2 ⟨p, rfl, e1, e2, xs, e3, e4⟩
      refine h _ (upd Hf' p (.lst xs)) H' ⟨g2.fz.trans (same_upd e2 _), fun b u q => ?_, g2.all, fun a h1 h2 => ?_⟩ (rep_lst.mpr ⟨p, xs, rfl, SqL.of upd_same, e4.mono (same_upd e2 _)⟩)
      · by_cases hb : b = p
        · subst hb; rw [upd_same] at q; rw [e3]; exact q
        · rw [upd_ne hb] at q; exact g2.sub b u q
      · have : a ≠ p := fun z => h1 (z ▸ e1)
        rw [upd_ne this]; exact g2.ban a h1 h2
    | od kvs => exact h.elim
    | dk kvs => exact h.elim
    | xc x => exact h.elim
def eCallX (F : List D → M S) (fs : DSt → M (List D)) (sd : DSt) : M D := (fs sd).bind fun ds => (F ds).bind S.toD
section
variable {X : Cx} {E : XK} {pos : Pos} {a : Expr}
theorem pd_callX {k : Nat} {f : Addr} {fd : FuncData} {ps : List Str} {F : List D → M S} {x : Str} {p : Pos} {es : List Expr} {fs : DSt → M (List D)} (G : FnOk X.prog X.w X.K X.mg X.base (CX1 X.prog X.w) k f fd ps (spX X.K F)) (hr : Room k X.A) (hm : X.mg x = some (.ref f)) (hk : PySem.W.keepIn X.K (.ref f) = true) (hb : Binds X.K fd ps [])
    (ho : Out X E) (ha : PAd X E (a :: es) fs) (hg : Gl X x := by rfl) (hdb : (x == ("__debug__" : Str)) = false := by decide) (he : starEach (a :: es) X.env = (false, eval a X.env) :: starEach es X.env := by rfl) (hpl : (backTo pos (starEach es X.env)).any (·.1) = false := by rfl) :
    PEd X E (.Call (.Name x p) (a :: es) [] pos) (eCallX F fs) := by
  obtain ⟨t, pt, qt⟩ := ha
  refine ⟨_, pe_call (dvs := []) (E := E) G hr hg hm hk hb .nil ho.passes pt hdb he hpl, fun H0 B Hf sd σ H Q sr h => ?_⟩
  refine qt H0 B Hf sd σ H _ sr (Po.bind h fun ds vs Hf1 H1 _ g1 rs h1 => ?_)
  exact ⟨Hf1, ds, g1.sub, by rw [List.append_nil]; exact rs, PoC.bind h1⟩
end
end DL

set_option maxHeartbeats 4000000
set_option linter.all false
set_option maxRecDepth 100000

namespace DL
open PySem PySem.Spec PySem.Calls PySem.Builtin PySem.Builtin.ObjectAttr PyProof.Rows L2 PySem.W

/-! ### classes of exceptions -/
def exMro : List Value := [.type "ValueError", .type "Exception", .type "BaseException", .type "object"]
def exOnly : List Value → Bool
  | [] => false
  | .ref _ :: r => exOnly r
  | l => l == exMro
theorem exOnly_cases : ∀ {l : List Value}, exOnly l = true → l = exMro ∨ ∃ c r, l = .ref c :: r ∧ exOnly r = true
  | .ref c :: r, e => .inr ⟨c, r, rfl, e⟩
  | .type _ :: _, e => .inl (beq_iff_eq.mp e)
  | .none :: _, e => .inl (beq_iff_eq.mp e)
  | .bool _ :: _, e => .inl (beq_iff_eq.mp e)
  | .int _ _ :: _, e => .inl (beq_iff_eq.mp e)
  | .str _ _ :: _, e => .inl (beq_iff_eq.mp e)
  | [], e => nomatch e
  | v :: r, e => by
    cases v <;> first | exact .inr ⟨_, _, rfl, e⟩ | exact .inl (beq_iff_eq.mp e)
theorem ex_pass (self : Value) {l : List Value} (e : exOnly l = true) : refuseLoop self "__setattr__" l = pure () := by
  induction l with
  | nil => cases e
  | cons v r ih =>
    rcases exOnly_cases e with q | ⟨c, r', q, e'⟩
    · rw [q]; exact PySem.F.store_ValueError.passes self
    · cases q
      rw [refuseLoop_ref]
      exact ih e'
theorem ex_has {T : Value} (hT : exMro.contains T = true) {l : List Value} (e : exOnly l = true) : l.contains T = true := by
  induction l with
  | nil => cases e
  | cons v r ih =>
    rcases exOnly_cases e with q | ⟨c, r', q, e'⟩
    · rw [q]; exact hT
    · cases q
      rw [List.contains_cons, ih e', Bool.or_true]
theorem ex_hasnt {n : String} (hT : exMro.contains (.type n) = false) {l : List Value} (e : exOnly l = true) : l.contains (.type n) = false := by
  induction l with
  | nil => cases e
  | cons v r ih =>
    rcases exOnly_cases e with q | ⟨c, r', q, e'⟩
    · rw [q]; exact hT
    · cases q
      rw [List.contains_cons, ih e']; rfl

structure XCls (K : Frag) (C : Addr) : Prop where
  sa : findIn K (.ref C) "__setattr__" = some (some (.builtin "object.__setattr__"))
  ga : findIn K (.ref C) "__getattribute__" = some (some (.builtin "BaseException.__getattribute__"))
  gn : findIn K (.ref C) "__getattr__" = some none
  hd : hasDictIn K C = true
  ov : (clsIn K C).any (fun cd => exOnly cd.mro) = true

section
variable {prog : Program} {w : World} {A : Around} {s : Shared} {K : Frag} {x C : Addr} {name : Str} {v : Value} {R : Result → Shared → Prop}
theorem x_osa {ox : Obj} {od : Option Obj} {tk : Tok} (X : K.In s.heap) (I : PySem.W.InstAt s.heap x ox C od) (c : XCls K C) (ht : takerIn K C name = some none)
    (h : ∀ b, wpAny (model prog w) A.in1 (storeInOwnDict (.ref x) (.ref C) (.str name tk) name v b)
      (fun fin s' => match fin with | .done f => R (.ok f) s' | .again c' => c'.quiet = true ∧ codeAny (model prog w) A c' R s') (fun e s' => R (.error e) s') s) :
    codeAny (model prog w) A (.call (.builtin "object.__setattr__") ⟨[.ref x, .str name tk, v], []⟩) R s := by
  have SF := PySem.F.store_object
  obtain ⟨cd, hc, ho⟩ := any_some c.ov
  have ne : cd.mro.isEmpty = false := by
    cases q : cd.mro with
    | nil => rw [q] at ho; cases ho
    | cons _ _ => rfl
  have sub : Looks (model prog w) s.heap (isInstance (.ref x) (.type "object")) true :=
    I.type.andThen (looks_mroIn X (by unfold mroIn; rw [hc, Option.bind_some, if_neg (by rw [ne]; decide), ex_has (by decide +kernel) ho]))
  refine codeAny_call_builtin SF.slot.plain SF.entry (@check_slot (model prog w) _ _ s "object.__setattr__" "object" "__setattr__" (.ref x) [.str name tk, v] [] _ SF.kind SF.split sub (SF.args (.ref x) (.str name tk) v) ?_)
  obtain ⟨attr, ha, hr⟩ := Option.bind_eq_some_iff.mp ht
  have hm : Looks (model prog w) s.heap (mroOf (.ref C)) cd.mro := (looks_clsIn X hc).andThen .now
  have tk3 : Looks (model prog w) s.heap (storeTaker? attr) none := by
    cases attr with
    | none => exact .now
    | some a =>
      obtain ⟨b, hb, q⟩ := Option.map_eq_some_iff.mp hr
      refine (looks_takesIn X hb).andThen ?_
      cases b with
      | true => cases q
      | false => exact .now
  rw [osa_eq, refuse_eq]
  refine wpAny_bind (wpAny_bind (I.type.here (wpAny_bind (hm.here ?_))))
  rw [ex_pass _ ho]
  exact wpAny_pure (wpAny_bind (I.type.here (wpAny_bind ((looks_findIn X ha).here (wpAny_bind (tk3.here (h _)))))))

theorem x_set0 {E : Value → Shared → Prop} {vs : Array Value} {sl : Array (Option Value)} {Q : Unit → Shared → Prop} (X : K.In s.heap) (c : XCls K C) (hx : s.heap.get? x = some ⟨.ref C, none, .fields vs, sl⟩) (ht : takerIn K C name = some none)
    (h : ∀ h', h'.get? x = some ⟨.ref C, some s.heap.objs.size, .fields vs, sl⟩ → h'.Ns1 s.heap.objs.size (fun y => if y = name then some v else none) → (∀ b o, b ≠ x → s.heap.get? b = some o → h'.get? b = some o) →
      Q () { s with heap := h', toks := s.toks + 2 }) : wpAny (model prog w) A (setAttr (.ref x) name v) Q E s := by
  have I : PySem.W.InstAt s.heap x ⟨.ref C, none, .fields vs, sl⟩ C none := ⟨hx, rfl, rfl, True.intro⟩
  refine set_plain X I c.sa (x_osa (s := { s with toks := s.toks + 1 }) X I c ht fun b => ?_)
  obtain ⟨cd, hc, hd'⟩ := any_some c.hd
  refine wpAny_bind (wpAny_pure (wpAny_bind (wpAny_bind (wpAny_loadPart hx (wpAny_bind (Looks.here (s := { s with toks := s.toks + 1 }) (looks_clsIn X hc) ?_))))))
  rw [hd']
  have nx : x < s.heap.objs.size := Heap.lt_size hx
  have e1 : (s.heap.push { cls := .type "dict", data := .dict #[] }).get? x = some ⟨.ref C, none, .fields vs, sl⟩ := Heap.get?_push_of_some _ hx
  refine wpAny_bind (wpAny_alloc (wpAny_bind (wpAny_update e1 ?_)))
  refine wpAny_pure (a := some s.heap.objs.size) (wpAny_bind (wpAny_pure (wpAny_bind ?_)))
  have n0 : (s.heap.push { cls := .type "dict", data := .dict #[] }).Ns s.heap.objs.size (fun _ => none) := ⟨_, #[], _, Heap.get?_push_size s.heap rfl, rfl, (fun e he => absurd he (by simp)), fun _ => rfl⟩
  have n1 : ((s.heap.push { cls := .type "dict", data := .dict #[] }).update x fun o => { o with dict := some s.heap.objs.size }).Ns1 s.heap.objs.size (fun _ => none) :=
    (Heap.Ns1.of_empty n0).at fun o q => (Heap.get?_update_other _ _ (Nat.ne_of_lt nx)).trans q
  refine wpAny_nsSet1 (s := { s with heap := (s.heap.push { cls := .type "dict", data := .dict #[] }).update x fun o => { o with dict := some s.heap.objs.size }, toks := s.toks + 1 }) n1 fun h' hn2 hs2 => ?_
  obtain ⟨oD, esD, epD, hoD, hdD, hcD⟩ := hn2.count (PySem.Within.cons name v (ns := []) (fun y hy => absurd rfl hy))
  refine wpAny_bind (wpAny_lookBehind hoD (by rw [hdD]; exact pastItsLine_dict (Nat.le_trans hcD (by rw [List.length_cons]; simp))) ?_)
  refine wpAny_pure (h _ ?_ hn2 fun b o nb e => ?_)
  · exact (hs2.2 x (Nat.ne_of_lt nx)).trans (Heap.get?_update_self _ e1 rfl)
  · have hb : b < s.heap.objs.size := Heap.lt_size e
    exact (hs2.2 b (Nat.ne_of_lt hb)).trans ((Heap.get?_update_other _ _ (Ne.symm nb)).trans (Heap.get?_push_of_some _ e))
end
end DL

set_option maxHeartbeats 4000000
set_option linter.all false
set_option maxRecDepth 100000

namespace DL
open PySem PySem.Spec PySem.Calls PySem.Builtin PySem.Builtin.ObjectAttr PyProof.Rows L2 PySem.W

/-! ### an exception is made -/
theorem push_back {h : Heap} {o v : Obj} {b : Addr} (nb : b ≠ h.objs.size) (q : (h.push o).get? b = some v) : h.get? b = some v := by
  obtain ⟨q1, q2⟩ := (Heap.get?_eq_some _ _ _).1 q
  refine (Heap.get?_eq_some _ _ _).2 ⟨?_, q2⟩
  have q3 : (h.objs.push o)[b]? = some v := q1
  rw [Array.getElem?_push, if_neg nb] at q3
  exact q3
/-- an exception that was made, not raised yet -/
def XN (a C : Addr) (dx : Option Addr) : HO := .ext fun h => ∃ t sl, h.get? a = some ⟨.ref C, dx, .fields #[.ref t, .none, .none, .none, .bool false, .none], sl⟩
theorem xn_ok {P : Program} {w : World} {H : Hp} {h : Heap} {a C t : Addr} {dx : Option Addr} {sl : Array (Option Value)} (e : h.get? a = some ⟨.ref C, dx, .fields #[.ref t, .none, .none, .none, .bool false, .none], sl⟩) : ObjOk P w H h a (XN a C dx) :=
  ⟨⟨t, sl, e⟩, ⟨_, e⟩, fun _ _ ⟨t', sl', e1⟩ k => ⟨t', sl', k _ e1⟩⟩
theorem xn_get {P : Program} {w : World} {H : Hp} {h : Heap} {a C : Addr} {dx : Option Addr} (hk : HOk P w H h) (e : H a = some (XN a C dx)) : ∃ t sl, h.get? a = some ⟨.ref C, dx, .fields #[.ref t, .none, .none, .none, .bool false, .none], sl⟩ := (hk a _ e).1

section
variable {X : Cx} {pins : List (Addr × Obj)} {σ : L2.St} {H : Hp} {s : Shared} {a C : Addr} {f : Str} {y : V} {u : Value} {A : Around} {E : Value → Shared → Prop}
theorem xset_ok {Q : Unit → Shared → Prop} (I : Inv X pins σ H s) (e : H a = some (XN a C none)) (c : XCls X.K C) (n : NoAttr X.K C f) (ry : RelV y u)
    (h : ∀ dx s', H dx = none → dx ≠ a → Inv X pins σ (upd (upd H dx (.xd [(f, y)])) a (XN a C (some dx))) s' → Q () s') : wpAny (model X.prog X.w) A (setAttr (.ref a) f u) Q E s := by
  obtain ⟨t, sl, ea⟩ := xn_get I.hok e
  have la : a < s.heap.objs.size := Heap.lt_size ea
  have hf := I.hok.fresh (Nat.le_refl s.heap.objs.size)
  refine x_set0 I.kIn c ea n.taker fun h' e1 e2 e3 => h s.heap.objs.size _ hf (Nat.ne_of_gt la) ?_
  obtain ⟨od, es, ep, g1, g2⟩ := e2
  have I1 : Inv X pins σ (upd H s.heap.objs.size (.xd [(f, y)])) { s with heap := s.heap.push od, toks := s.toks } :=
    I.laid (fun b v q => Heap.get?_push_of_some _ q) (Nat.le_refl _) ⟨_, ⟨od, es, ep, Heap.get?_push_size _ (by
      have := g2.1
      obtain ⟨c1, c2, c3, c4⟩ := od
      cases this
      rfl), g2⟩, fun g => by
      show RelO (List.lookup g [(f, y)]) (if g = f then some u else none)
      by_cases q : g = f
      · subst q
        simp only [List.lookup, beq_self_eq_true, if_pos]
        exact ry
      · have hb : (g == f) = false := beq_eq_false_iff_ne.mpr q
        simp only [List.lookup, hb, if_neg q]
        trivial⟩
  refine I1.write (x := a) (e := a) (h' := h') (t' := s.toks + 2) (by rw [upd_ne (Nat.ne_of_lt la), e]; exact True.intro) (.inl rfl) (fun b v nb q => ?_) ⟨_, e1⟩ (xn_ok e1)
  by_cases hb : b = s.heap.objs.size
  · subst hb
    rw [Heap.get?_push_size _ (by
      have := g2.1
      obtain ⟨c1, c2, c3, c4⟩ := od
      cases this
      rfl)] at q
    cases q
    exact g1
  · exact e3 b v nb (push_back hb q)
end

section
variable {X : Cx} {o value : Expr} {ta tv : TE} {f : Str} {pos pos' : Pos}
/-- self.f = value, self an exception that was just made -/
def sX0 (K : Frag) (ta tv : TE) (f : Str) : TS := fun D σ H => tv σ H fun y H1 => ta σ H1 fun x H2 => ∃ a C, x = .ref a ∧ H2 a = some (XN a C none) ∧ XCls K C ∧ NoAttr K C f ∧
  ∀ dx, H2 dx = none → dx ≠ a → D.nx σ (upd (upd H2 dx (.xd [(f, y)])) a (XN a C (some dx)))
theorem ps_x0 (ha : PE X o ta) (hv : PE X value tv) (hs : swapsWith value (some (.Attribute o f pos')) pos.line X.env = pure false := by rfl) : PS X (.Assign [.Attribute o f pos'] value pos) (sX0 X.K ta tv f) := by
  intro pins s σ H D I h
  refine plainObj_wpAny_Assign_Attribute (thn (hv pins s σ H _ I h) fun u s1 ⟨y, H1, I1, ry, q⟩ => thn (ha pins s1 σ H1 _ I1 q) fun ov s2 ⟨x, H2, I2, rx, a, C, ex, ea, c, n, q2⟩ => ?_) hs
  subst ex
  obtain rfl : ov = Value.ref a := rx
  exact xset_ok I2 ea c n ry fun dx s3 z1 z2 I3 => ⟨σ, _, I3, q2 dx z1 z2⟩
end
/-- __init__ of one field -/
def spI (C : Addr) (f : Str) : Sp := fun vs H Q _ => ∃ a y, vs = [.ref a, y] ∧ H a = some (XN a C none) ∧ ∀ dx, H dx = none → dx ≠ a → Q .non (upd (upd H dx (.xd [(f, y)])) a (XN a C (some dx)))
theorem fn_init {P : Program} {w : World} {K : Frag} {mg : Str → Option Value} {base : Heap} {x qual self p f : Str} {st : Stmt} {g C : Addr} {fd : FuncData} {p1 p2 p3 p4 : Pos} (F : Fun K x qual st g fd) (sc : FnScope [self, p] [self, p] (defScope st))
    (hb : defBody st = [.Assign [.Attribute (.Name self p1) f p2] (.Name p p3) p4]) (c : XCls K C) (n : NoAttr K C f)
    (v1 : Vis (defScope st) self) (v2 : Vis (defScope st) p) (d1 : (self == ("__debug__" : Str)) = false := by decide) (d2 : (p == ("__debug__" : Str)) = false := by decide)
    (d3 : (self == ("__classdict__" : Str)) = false := by decide) (d4 : (p == ("__classdict__" : Str)) = false := by decide) : FnOk P w K mg base CX0 1 g fd [self, p] (spI C f) := by
  refine F.ok sc (fun vs H Q E h => ?_) (fun cdv A outer s H vs Q E hr h => ?_)
  · obtain ⟨a, y, rfl, _⟩ := h
    rfl
  · obtain ⟨a, y, rfl, h1, h2⟩ := h
    rw [hb]
    refine ⟨_, pss_one (ps_x0 (pe_var (i := 0) rfl v1 d1 d3) (pe_var (i := 1) rfl v2 d2 d4)), ?_⟩
    exact ⟨y, rfl, .ref a, rfl, a, C, rfl, h1, c, n, h2⟩
end DL

set_option maxHeartbeats 4000000
set_option linter.all false
set_option maxRecDepth 100000

namespace DL
open PySem PySem.Spec PySem.Calls PySem.Builtin PySem.Builtin.ObjectAttr PyProof.Rows L2 PySem.W

/-- a class of exceptions with an __init__ of its own, over ValueError by classes without one -/
def exInit (K : Frag) (C fI : Addr) : Bool := match K.lookup C with
  | some ⟨.type "type", _, .cls cd, sl⟩ => (match cd.mro, sl.toList with
    | .ref C' :: bm, [_, _, _, _, some (.builtin n), _] => C' == C && n == "ValueError.__new__" && !cd.hasDel && tailIn K exMro bm && nsOkIn K cd.ns && nsIn K cd.ns "__init__" == some (some (.ref fI))
    | _, _ => false)
  | _ => false
theorem nsMap_some_of {K : Frag} {h : Heap} {N : Addr} {mg : Str → Option Value} {n : Str} {v : Value} (X : K.In h) (G : h.Ns N mg) (e : nsIn K N n = some (some v)) : mg n = some v := by
  obtain ⟨o, es, ep, ho, hd, _, hf⟩ := G
  unfold nsIn at e
  split at e
  · rename_i c d es' n' sl q
    have := X _ _ q
    rw [ho] at this
    cases this
    cases hd
    split at e
    · rename_i en he
      cases e
      rw [← hf]
      unfold nsFind findBy
      rw [← Array.find?_toList, he]
      rfl
    · split at e <;> cases e
  · cases e
structure XC (K : Frag) (C fI : Addr) : Prop where
  at_ : ∃ bm N nm qn bs hdct sn sub ab col dd k0 k1 k2 k3 k5, ∀ h : Heap, K.In h → h.get? C = some (excClassObj nm qn C N bs bm hdct sn sub ab col dd k0 k1 k2 k3 k5 "ValueError.__new__") ∧ OwnTail h exMro bm ∧
    ∃ mN, h.Ns N mN ∧ mN "__init__" = some (.ref fI)
theorem xc_of {K : Frag} {C fI : Addr} (q : exInit K C fI = true) : XC K C fI := by
  unfold exInit at q
  split at q
  · rename_i dd cd sl ho
    split at q
    · rename_i C' bm k0 k1 k2 k3 n k5 hm hs
      simp only [Bool.and_eq_true, beq_iff_eq, Bool.not_eq_true'] at q
      obtain ⟨⟨⟨⟨⟨rfl, rfl⟩, hdel⟩, ht⟩, hok⟩, hni⟩ := q
      obtain ⟨nm, bs, mro, ns, qn, hd, sn, sub, ab, col, del⟩ := cd
      dsimp only at hm hdel hok hni
      subst hm hdel
      have hsl : sl = #[k0, k1, k2, k3, some (.builtin "ValueError.__new__"), k5] := by
        obtain ⟨l⟩ := sl
        simp only at hs
        rw [hs]
      subst hsl
      exact ⟨bm, ns, nm, qn, bs, hd, sn, sub, ab, col, dd, k0, k1, k2, k3, k5, fun h X => ⟨X _ _ ho, tail_of_in X ht, _, .of_isNs (isNs_of_in X hok), nsMap_some_of X (.of_isNs (isNs_of_in X hok)) hni⟩⟩
    · cases q
  · cases q

section
variable {prog : Program} {w : World} {A : Around} {E : Value → Shared → Prop} {h : Heap} {g : Array GenState} {d : Drawn} {t : Nat} {os : OsState}
variable {nm q : Str} {C N : Addr} {bs bm bmB : List Value} {hdct : Bool} {sn : List Str} {sub : List Value} {ab : Bool} {col : Option Bool} {dd : Option Addr} {k0 k1 k2 k3 k5 : Option Value} {B newId initId : String}
abbrev tupO (rest : List Value) : Obj := { cls := .type "tuple", data := .seq rest.toArray }
abbrev excO (C t : Addr) : Obj := { cls := .ref C, data := .fields #[.ref t, .none, .none, .none, .bool false, .none] }

theorem x_type_call (FB : ExcBaseFacts B newId initId bmB) (T : OwnTail h bmB bm) {mN : Str → Option Value} {rest : List Value} {fI : Addr} {oI : Obj} {Q : Fin → Shared → Prop}
    (hC : h.get? C = some (excClassObj nm q C N bs bm hdct sn sub ab col dd k0 k1 k2 k3 k5 newId)) (hN : h.Ns N mN) (hI : mN "__init__" = some (.ref fI)) (ho : h.get? fI = some oI) (hf : oI.cls = .type "function")
    (k : wpAny (model prog w) A (call (.ref fI) (.ref (h.objs.size + 1) :: rest)) (fun r s' => r = .none ∧ Q (.done (.ret (.ref (h.objs.size + 1)))) s') E ⟨(h.push (tupO rest)).push (excO C h.objs.size), g, d, t, os⟩) (hz : rest.length ≤ sizeLine) :
    wpAny (model prog w) A (Builtin.«type.__call__» ⟨.ref C :: rest, []⟩) Q E ⟨h, g, d, t, os⟩ := by
  repeat (first | with_reducible refine wpAny_loadPart_at hC ?_ | with_reducible refine wpAny_madeBy_exc hC ?_ | wp_step)
  refine codeAny_call_builtin_code (Code.quiet_builtin _ FB.quiet) (wpAny_check_new_subT FB T hC ?_)
  refine codeAny_exc_new_subT FB T hC ?_ hz
  show wpAny _ _ _ _ _ _
  have up : ∀ {b : Addr} {o : Obj}, h.get? b = some o → ((h.push (tupO rest)).push (excO C h.objs.size)).get? b = some o := fun e => Heap.get?_push_of_some _ (Heap.get?_push_of_some _ e)
  have c1 := up hC
  have f1 := up ho
  have n1 : ((h.push (tupO rest)).push (excO C h.objs.size)).Ns N mN := let ⟨o, es, ep, e, r⟩ := hN; ⟨o, es, ep, up e, r⟩
  have x1 : ((h.push (tupO rest)).push (excO C h.objs.size)).get? (h.objs.size + 1) = some (excO C h.objs.size) := by heap_get
  have cC : (Value.ref C :: bm).contains (.ref C) = true := by simp
  have t1 := T.keeps (h' := (h.push (tupO rest)).push (excO C h.objs.size)) fun b o e => up e
  unfold isInstance
  repeat (first | with_reducible refine wpAny_loadPart_at x1 ?_ | (with_reducible refine wpAny_isSubtype_exc c1 ?_; rw [cC]) | wp_step)
  show wpAny _ _ (typeLookup (.ref C) _) _ _ _
  refine wpAny_typeLookup_tail c1 n1 t1 FB.mroIs FB.init.lookup ?_
  rw [hI]
  refine wpAny_holding (wpAny_bind ?_)
  unfold bindSpecial
  refine wpAny_bind (wpAny_typeOf (T := "function") ⟨_, f1, hf⟩ ?_)
  rw [if_pos (by decide)]
  refine wpAny_pure (wpAny_bind (wpAny_mono k (fun r s' hr => ?_) fun _ _ x => x))
  obtain ⟨rfl, hQ⟩ := hr
  wp_walk
  exact hQ
theorem x_call (FB : ExcBaseFacts B newId initId bmB) (T : OwnTail h bmB bm) {mN : Str → Option Value} {rest : List Value} {fI : Addr} {oI : Obj} {Q : Value → Shared → Prop}
    (hC : h.get? C = some (excClassObj nm q C N bs bm hdct sn sub ab col dd k0 k1 k2 k3 k5 newId)) (hN : h.Ns N mN) (hI : mN "__init__" = some (.ref fI)) (ho : h.get? fI = some oI) (hf : oI.cls = .type "function")
    (k : wpAny (model prog w) (A.under (.builtin "type.__call__" ⟨.ref C :: rest, []⟩)) (call (.ref fI) (.ref (h.objs.size + 1) :: rest)) (fun r s' => r = .none ∧ Q (.ref (h.objs.size + 1)) s') E ⟨(h.push (tupO rest)).push (excO C h.objs.size), g, d, t, os⟩) (hz : rest.length ≤ sizeLine) :
    wpAny (model prog w) A (call (.ref C) rest) Q E ⟨h, g, d, t, os⟩ := by
  have a1 := tc_lookup
  have a2 := tc_bind (.ref C)
  have a3 : (⟨h, g, d, t, os⟩ : Shared).TypeIs (.ref C) "type" := ⟨_, hC, rfl⟩
  refine wpAny_call (codeAny_of_tree ?_)
  show wpAny _ _ (callAny (.ref C) _) _ _ _
  repeat (any_goals (first | assumption | with_reducible refine wpAny_loadPart_at hC ?_ | wp_step))
  refine ⟨rfl, ?_⟩
  exact codeAny_call_builtin_at (Code.quiet_builtin _ (by decide +kernel)) entry_typeCall (wpAny_check_type_call_sub hC (x_type_call FB T hC hN hI ho hf k hz))
end

section
variable {X : Cx} {k : Nat} {fI C : Addr} {fd : FuncData} {self p f x : Str} {np pos cpos : Pos} {e : Expr} {es : List Expr} {t : TA}
theorem run_x {pins : List (Addr × Obj)} {σ : L2.St} {H : Hp} {s : Shared} {Q : VK} {us : List Value} {v : V} (xc : XC X.K C fI) (fn : isFn X.K (.ref fI) = true) (F : FnOk X.prog X.w X.K X.mg X.base CX0 k fI fd [self, p] (spI C f)) (hr : Room (k + 1) X.A) (hb : Binds X.K fd [self, p] [])
    (I : Inv X pins σ H s) (r : Vals [v] us) (q : ∀ a dx, s.heap.objs.size ≤ a → H a = none → H dx = none → dx ≠ a → Q (.ref a) (upd (upd H dx (.xd [(f, v)])) a (XN a C (some dx)))) :
    wpAny (model X.prog X.w) X.A (call (.ref C) us) (EP X pins σ Q) X.xe s := by
  obtain ⟨bm, N, nm, qn, bs, hdct, sn, sub, ab, col, dd, k0, k1, k2, k3, k5, all⟩ := xc.at_
  obtain ⟨hC, T, mN, hN, hI⟩ := all s.heap I.kIn
  have hfn : typeIn X.K (.ref fI) = some (.type "function") := beq_iff_eq.mp fn
  obtain ⟨oI, hoI, hcI⟩ := Option.map_eq_some_iff.mp hfn
  have lu : us.length = 1 := r.length.symm
  obtain ⟨hh, g, d, tk, os⟩ := s
  refine x_call PySem.F.excBase_ValueError T hC hN hI (I.kIn _ _ hoI) hcI ?_ (by rw [lu]; decide)
  have I0 : Inv X pins σ H ⟨hh.push (tupO us), g, d, tk, os⟩ := I.kept (h' := hh.push (tupO us)) (t' := tk) fun b u e => Heap.get?_push_of_some _ e
  have sz : (hh.push (tupO us)).objs.size = hh.objs.size + 1 := Heap.size_push _ _
  have ex : ((hh.push (tupO us)).push (excO C hh.objs.size)).get? (hh.objs.size + 1) = some (excO C hh.objs.size) := by
    rw [← sz]; exact Heap.get?_push_size _ rfl
  have I1 : Inv X pins σ (upd H (hh.objs.size + 1) (XN (hh.objs.size + 1) C none)) ⟨(hh.push (tupO us)).push (excO C hh.objs.size), g, d, tk, os⟩ :=
    I0.laid (a := hh.objs.size + 1) (h' := (hh.push (tupO us)).push (excO C hh.objs.size)) (t' := tk) (fun b u e => Heap.get?_push_of_some _ e) (Nat.le_of_eq sz) (xn_ok ex)
  have r2 : Vals [V.ref (hh.objs.size + 1), v] (Value.ref (hh.objs.size + 1) :: us) := .cons rfl r
  have hl : ((Value.ref (hh.objs.size + 1) :: us) ++ []).length = [self, p].length := by simp [lu]
  have fa : H (hh.objs.size + 1) = none := I.hok.fresh (Nat.le_succ _)
  have sp : spI C f [V.ref (hh.objs.size + 1), v] (upd H (hh.objs.size + 1) (XN (hh.objs.size + 1) C none)) (fun v2 H2 => v2 = .non ∧ Q (.ref (hh.objs.size + 1)) H2) E0 := by
    refine ⟨_, v, rfl, upd_same, fun dx z1 z2 => ⟨rfl, ?_⟩⟩
    have h1 : H dx = none := by rw [upd_ne z2] at z1; exact z1
    have e2 : upd (upd (upd H (hh.objs.size + 1) (XN (hh.objs.size + 1) C none)) dx (.xd [(f, v)])) (hh.objs.size + 1) (XN (hh.objs.size + 1) C (some dx)) = upd (upd H dx (.xd [(f, v)])) (hh.objs.size + 1) (XN (hh.objs.size + 1) C (some dx)) := by
      funext b
      unfold upd
      by_cases b1 : b = hh.objs.size + 1
      · simp only [if_pos b1]
      · by_cases b2 : b = dx
        · simp only [if_neg b1, if_pos b2]
        · simp only [if_neg b1, if_neg b2]
    rw [e2]
    exact q _ dx (Nat.le_succ _) fa h1 z2
  have bnd := hb ⟨(hh.push (tupO us)).push (excO C hh.objs.size), g, d, tk, os⟩ (Value.ref (hh.objs.size + 1) :: us) I1.kIn hl
  rw [List.append_nil] at bnd
  refine wpAny_call (codeAny_mono (F.run _ X.stack _ _ ⟨Value.ref (hh.objs.size + 1) :: us, []⟩ (Value.ref (hh.objs.size + 1) :: us) _ _ E0 (hr.make C us []) (I1.env0.make C us []) bnd r2 sp) fun rr s' hq' => ?_)
  cases rr with
  | error e => exact False.elim hq'
  | ok fl =>
    cases fl with
    | ret u =>
      obtain ⟨v2, H', I3, rv, ev, q3⟩ := I1.after hq'
      subst ev
      exact ⟨rv, ⟨V.ref (hh.objs.size + 1), H', I3, rfl, q3⟩⟩
    | next => exact False.elim hq'
    | brk => exact False.elim hq'
    | cont => exact False.elim hq'
end
end DL

set_option maxHeartbeats 4000000
set_option linter.all false
set_option maxRecDepth 100000

namespace DL
open PySem PySem.Spec PySem.Calls PySem.Builtin PySem.Builtin.ObjectAttr PyProof.Rows L2 PySem.W

/-- what is known of a thing of its own is forgotten -/
theorem forget_ext {X : Cx} {pins : List (Addr × Obj)} {σ : L2.St} {H : Hp} {s : Shared} {a : Addr} {φ : Heap → Prop} (I : Inv X pins σ (upd H a (.ext φ)) s) (ha : H a = none) (h0 : X.s₀.heap.objs.size ≤ a) : Inv X pins σ H s := by
  have dn : ∀ b o, H b = some o → upd H a (.ext φ) b = some o := fun b o q => by rw [upd_ne (ne_of_none q ha)]; exact q
  have up : ∀ b o, upd H a (.ext φ) b = some o → (∀ ψ, o ≠ .ext ψ) → H b = some o := fun b o q n => by
    by_cases hb : b = a
    · subst hb; rw [upd_same] at q; cases q; exact absurd rfl (n φ)
    · rwa [upd_ne hb] at q
  have nn : ∀ b, upd H a (.ext φ) b = none → H b = none := fun b q => by
    by_cases hb : b = a
    · subst hb; exact ha
    · rwa [upd_ne hb] at q
  have B := I.base
  refine ⟨I.ok, I.os, I.bare, ⟨B.keep, B.slot, fun b o e n nx => nn b (B.free b o e n nx), B.there, fun b xs e => up b _ (B.tups b xs e) (fun _ q => nomatch q), fun b o u e => up b _ (B.frzs b o u e) (fun _ q => nomatch q), fun b ps e => ?_⟩, I.loc, I.cell, nn _ I.free, fun y c e => nn _ (I.freeC y c e), fun q hq => ?_, fun b o e => ?_, I.len⟩
  · obtain ⟨m, q⟩ := B.tbls b ps e
    exact ⟨m, up b _ q (fun _ q => nomatch q)⟩
  · obtain ⟨p1, p2, p3⟩ := I.pin q hq
    exact ⟨p1, nn _ p2, p3⟩
  · exact (I.hok b o (dn b o e)).stay (fun _ _ _ q => q) (fun c q => up c _ q (fun _ z => nomatch z)) fun c xs q => up c _ q (fun _ z => nomatch z)

section
variable {M : Model} {A : Around} {E : Value → Shared → Prop} {s : Shared} {env : Env}
theorem x_raise {K : Frag} {C fI : Addr} {x : Sem Value} {Q : Flow → Shared → Prop} (xc : XC K C fI) (hh : A.handled = none)
    (h : wpAny M A x (fun v s₁ => ∃ a dx t sl, v = .ref a ∧ K.In s₁.heap ∧ s₁.heap.get? a = some ⟨.ref C, dx, .fields #[.ref t, .none, .none, .none, .bool false, .none], sl⟩ ∧ E (.ref a) s₁) E s) :
    wpAny M A (raiseStmt env (some x) none) Q E s := by
  obtain ⟨bm, N, nm, qn, bs, hdct, sn, sub, ab, col, dd, k0, k1, k2, k3, k5, all⟩ := xc.at_
  unfold raiseStmt
  refine wpAny_bind (wpAny_mono h (fun v s₁ h₁ => ?_) fun _ _ z => z)
  obtain ⟨a, dx, t, sl, rfl, KI, he, hE⟩ := h₁
  obtain ⟨hC, T, _⟩ := all _ KI
  obtain ⟨hp, g, d, tk, os⟩ := s₁
  have hB : (Value.ref C :: bm).contains (.type "BaseException") = true := by
    rw [List.contains_cons, T.hasType (show exMro.contains (.type "BaseException") = true by decide +kernel), Bool.or_true]
  repeat (first | with_reducible refine wpAny_loadPart_at he ?_ | with_reducible refine wpAny_loadPart_at hC ?_ | (with_reducible refine wpAny_isSubtype_exc hC ?_; rw [hB]) | wp_step)
  exact wpAny_raiseNew_none hh hE
end

section
variable {X : Cx} {E : XK} {k : Nat} {fI C : Addr} {fd : FuncData} {self p f x : Str} {np pos cpos : Pos} {e : Expr} {es : List Expr} {t : TA}
def tRaise (C : Addr) (f : Str) (E : XK) (t : TA) : TS := fun _ σ H => t σ H fun vs H1 => ∃ v, vs = [v] ∧ ∀ dx, H1 dx = none → E (.ref C) (some dx) (upd H1 dx (.xd [(f, v)]))
theorem ps_raise (o : Out X E) (hc : X.calm = true) (xc : XC X.K C fI) (kp : keepIn X.K (.ref C) = true) (fn : isFn X.K (.ref fI) = true) (F : FnOk X.prog X.w X.K X.mg X.base CX0 k fI fd [self, p] (spI C f)) (hr : Room (k + 1) X.A) (hb : Binds X.K fd [self, p] [])
    (hg : Gl X x) (hm : X.mg x = some (.ref C)) (ha : PA X (e :: es) t) (hdb : (x == ("__debug__" : Str)) = false := by decide)
    (he : starEach (e :: es) X.env = (false, eval e X.env) :: starEach es X.env := by rfl) (hpl : (backTo cpos (starEach es X.env)).any (·.1) = false := by rfl) :
    PS X (.Raise (some (.Call (.Name x np) (e :: es) [] cpos)) none pos) (tRaise C f E t) := by
  intro pins s σ H D I h
  rw [arm_exec_Raise]
  refine wpAny_bind (wpAny_standAt ?_)
  refine x_raise xc (I.ok.hd hc) ?_
  have core : wpAny (model X.prog X.w) X.A (eval (.Call (.Name x np) (e :: es) [] cpos) X.env) (fun v s₁ => ∃ a dx t sl, v = .ref a ∧ X.K.In s₁.heap ∧ s₁.heap.get? a = some ⟨.ref C, dx, .fields #[.ref t, .none, .none, .none, .bool false, .none], sl⟩ ∧ X.xe (.ref a) s₁) X.xe s := by
    refine wpAny_Call_Name_kw (ld_glob I hg hm ?_ hdb)
    refine PySem.W.callWith_K (h₀ := X.base) I.ok.mod.kin kp (thn (ha cpos pins s σ H _ I h) fun us s1 ⟨vs, H1, I1, r, v, ev, q⟩ => ⟨I1.kIn, ?_⟩) he hpl
    subst ev
    refine thn (run_x (Q := fun v2 H2 => ∃ a dx, v2 = .ref a ∧ X.s₀.heap.objs.size ≤ a ∧ H1 a = none ∧ H1 dx = none ∧ dx ≠ a ∧ H2 = upd (upd H1 dx (.xd [(f, v)])) a (XN a C (some dx))) xc fn F hr hb I1 r fun a dx z1 z2 z3 z4 => ⟨a, dx, rfl, Nat.le_trans I1.sz z1, z2, z3, z4, rfl⟩) fun u s2 h2 => ?_
    obtain ⟨v2, H2, I2, r2, a, dx, rfl, z1, z2, z3, z4, rfl⟩ := h2
    obtain rfl : u = Value.ref a := r2
    obtain ⟨t', sl, e2⟩ := xn_get I2.hok (upd_same)
    have na : upd H1 dx (.xd [(f, v)]) a = none := by rw [upd_ne (Ne.symm z4)]; exact z2
    have I3 : Inv X pins σ (upd H1 dx (.xd [(f, v)])) s2 := forget_ext I2 na z1
    exact ⟨a, some dx, t', sl, rfl, I3.kIn, e2, o pins σ _ s2 a (.ref C) (some dx) a I3 ⟨_, _, e2, rfl, rfl, rfl, by simp, .inl ⟨rfl, rfl⟩⟩ na na z1 z1 (q dx z3)⟩
  exact wpAny_bind (wpAny_mono core (fun v s₁ h₁ => wpAny_bind (wpAny_standAt (wpAny_pure h₁))) fun _ _ z => z)

def sRaise (cls f : Str) (fs : DSt → M (List D)) (sd : DSt) : M O := (fs sd).bind fun ds => match ds with
  | [d] => .ex ⟨cls, [f], [d]⟩
  | _ => .bad
theorem psd_raise (o : Out X E) (hc : X.calm = true) (xc : XC X.K C fI) (kp : keepIn X.K (.ref C) = true) (fn : isFn X.K (.ref fI) = true) (F : FnOk X.prog X.w X.K X.mg X.base CX0 k fI fd [self, p] (spI C f)) (hr : Room (k + 1) X.A) (hb : Binds X.K fd [self, p] [])
    (hm : X.mg x = some (.ref C)) (hn : nsIn X.K mainGlobals x = some (some (.ref C))) {fs : DSt → M (List D)} (ha : PAd X E (e :: es) fs) (hg : Gl X x := by rfl) (hdb : (x == ("__debug__" : Str)) = false := by decide)
    (he : starEach (e :: es) X.env = (false, eval e X.env) :: starEach es X.env := by rfl) (hpl : (backTo cpos (starEach es X.env)).any (·.1) = false := by rfl) :
    PSd X E (.Raise (some (.Call (.Name x np) (e :: es) [] cpos)) none pos) (sRaise x f fs) := by
  obtain ⟨t, pt, qt⟩ := ha
  refine ⟨_, ps_raise o hc xc kp fn F hr hb hg hm pt hdb he hpl, fun H0 B Hf sd σ H D sr h => ?_⟩
  refine qt H0 B Hf sd σ H _ sr (PoS.bind sr h fun ds vs Hf1 H1 _ g1 sr1 rs h1 => ?_)
  match ds, rs, h1 with
  | [d], rs, h1 =>
    obtain ⟨v, r, rfl, rv, rn⟩ := reps_cons.mp rs
    rw [reps_nil] at rn
    subst rn
    refine ⟨v, rfl, fun dx z => ?_⟩
    have sm := same_upd (sr1.sub.free z) (.xd [(f, v)])
    refine h1 (.ref C) (some dx) (upd Hf1 dx (.xd [(f, v)])) _ sm ⟨sr1.sub.upd dx _, sr1.all.trans (same_upd z _), fun a hB => ?_⟩ ⟨C, [v], rfl, hn, ⟨upd_same, rfl⟩, Reps.cons (rv.mono sm) Reps.nil⟩
    have : a ≠ dx := fun q => by
      have := sr1.all.ne (sr1.bt a hB)
      rw [q] at this
      exact this z
    rw [upd_ne this]; exact sr1.ban a hB
  | [], _, h1 => exact h1.elim
  | _ :: _ :: _, _, h1 => exact h1.elim
end
end DL

set_option maxHeartbeats 4000000
set_option linter.all false
set_option maxRecDepth 100000

namespace DL
open PySem PySem.Spec PySem.Calls PySem.Builtin PySem.Builtin.ObjectAttr PyProof.Rows L2 PySem.W

/-! ### an exception is caught -/
section
variable {X : Cx} {pins : List (Addr × Obj)} {σ : L2.St} {H : Hp} {s : Shared} {h' : Heap} {a T C : Addr} {e : Value}
/-- what lies at the address is no record of the frame's -/
structure Fresh (X : Cx) (pins : List (Addr × Obj)) (b : Addr) : Prop where
  lo : X.s₀.heap.objs.size ≤ b
  nl : b ≠ X.env.locals
  nc : ∀ x c, X.env.cells.lookup x = some c → c ≠ b
  np : ∀ p ∈ X.pn ++ pins, p.1 ≠ b
theorem fresh_of (I : Inv X pins σ H s) {b : Addr} (h : s.heap.objs.size ≤ b) : Fresh X pins b where
  lo := Nat.le_trans I.sz h
  nl := Nat.ne_of_gt (Nat.lt_of_lt_of_le I.lt h)
  nc := fun x c q => by
    obtain ⟨v, o, ho, _⟩ := I.cell x c q
    exact Nat.ne_of_lt (Nat.lt_of_lt_of_le (Heap.lt_size ho) h)
  np := fun p hp => Nat.ne_of_lt (Nat.lt_of_lt_of_le (Heap.lt_size (I.pin p hp).1) h)
theorem inv_ch (I : Inv X pins σ H s) (c : Ch (frs X.stack) a T s.heap h') (na : H a = none) (nT : H T = none) (fa : Fresh X pins a) (fT : Fresh X pins T) : Inv X pins σ H { s with heap := h' } := by
  refine I.call (h' := h') (g' := s.gens) (d' := s.drawn) (t' := s.toks) (ch := [a, T]) ⟨fun b o q n nf nx => ?_, fun b o q n bf nx => ?_, fun b o q n nx => n, fun b o q nx => ?_, fun b xs q => q, fun b o u q => q, fun b ps q => ⟨#[], by rw [q]; simp⟩⟩ (hok_ch I.hok c na nT I.stkFree) I.bare fun b hb => ?_
  · exact c.keep b o (fun z => nx (by simp [z])) (fun z => nx (by simp [z])) nf q
  · exact c.slot b o (fun z => nx (by simp [z])) (fun z => nx (by simp [z])) q
  · obtain ⟨sl, z⟩ := c.slot b o (fun z => nx (by simp [z])) (fun z => nx (by simp [z])) q
    exact ⟨_, z⟩
  · rcases List.mem_cons.mp hb with rfl | hb
    · exact ⟨.inr fa.lo, fa.nl, fa.nc, fa.np⟩
    · have : b = T := by simpa using hb
      subst this
      exact ⟨.inr fT.lo, fT.nl, fT.nc, fT.np⟩
theorem inv_track {o : HO} (I : Inv X pins σ H s) (na : H a = none) (fa : Fresh X pins a) (ok : ObjOk X.prog X.w (upd H a o) s.heap a o) : Inv X pins σ (upd H a o) s := by
  have B := I.base
  have nn : ∀ b, b ≠ a → H b = none → upd H a o b = none := fun b nb q => by rw [upd_ne nb]; exact q
  have lt : ∀ {b : Addr} {u : Obj}, X.s₀.heap.get? b = some u → b ≠ a := fun q => Nat.ne_of_lt (Nat.lt_of_lt_of_le (Heap.lt_size q) fa.lo)
  have sm := same_upd na o
  refine ⟨I.ok, I.os, I.bare, ⟨B.keep, B.slot, fun b u q n nx => nn b (lt q) (B.free b u q n nx), B.there, fun b xs q => sm _ _ (B.tups b xs q), fun b u v q => sm _ _ (B.frzs b u v q), fun b ps q => ?_⟩, I.loc, I.cell, nn _ (Ne.symm fa.nl) I.free, fun y c q => nn _ (fa.nc y c q) (I.freeC y c q), fun q hq => ?_, fun b u q => ?_, I.len⟩
  · obtain ⟨m, z⟩ := B.tbls b ps q
    exact ⟨m, sm _ _ z⟩
  · obtain ⟨p1, p2, p3⟩ := I.pin q hq
    exact ⟨p1, nn _ (fa.np q hq) p2, p3⟩
  · by_cases hb : b = a
    · subst hb; rw [upd_same] at q; cases q; exact ok
    · rw [upd_ne hb] at q
      exact (I.hok b u q).stay (fun _ _ _ z => z) (fun c z => sm _ _ z) fun c xs z => sm _ _ z
/-- within the suite -/
def sui (X : Cx) (e : Value) : Cx := { X with A := X.A.mark (some e), calm := false, xe := fun _ _ => False }
theorem ok_sui (ok : X.Ok) : (sui X e).Ok :=
  ⟨ok.mod, ok.kind, ok.glob, ok.blt, ok.above, ok.inj, ok.has, ok.cab, (fun z => nomatch z), ok.frames, ok.stk, ok.exf, ok.bs, ok.bsz, ok.noex, ok.exfs, ok.funs, ok.frf⟩
theorem inv_sui (I : Inv X pins σ H s) : Inv (sui X e) pins σ H s := ⟨ok_sui I.ok, I.os, I.bare, I.base, I.loc, I.cell, I.free, I.freeC, I.pin, I.hok, I.len⟩
theorem inv_back (ok : X.Ok) (I : Inv (sui X e) pins σ H s) : Inv X pins σ H s := ⟨ok, I.os, I.bare, I.base, I.loc, I.cell, I.free, I.freeC, I.pin, I.hok, I.len⟩
/-- the name goes -/
theorem name_drop {M : Model} {A : Around} {E : Value → Shared → Prop} {n : Str} {i : Nat} {pos : Pos} {Q : Unit → Shared → Prop} (I : Inv X pins σ H s) (hN : X.N.Nodup) (hi : X.N[i]? = some n) (hk : X.env.kindOf n = some .local)
    (h : ∀ s', Inv X pins (σ.set i none) H s' → Q () s') : wpAny M A (do bindName X.env n .none; unbindBehindTheSuite X.env n pos) Q E s := by
  obtain ⟨m, hn, hl⟩ := id I.loc
  have hcls : (X.env.scope.kind == .class || (X.env.scope.kind == .module && X.env.locals != X.env.globals)) = false := by rw [I.ok.kind]; rfl
  refine wpAny_nameGoes_keeps hk hn hcls fun h' v hn' hs => h _ ?_
  have nb : ∀ {b : Addr} {o : Obj}, X.s₀.heap.get? b = some o → b ≠ X.env.locals := fun q => Nat.ne_of_lt (Nat.lt_of_lt_of_le (Heap.lt_size q) I.ok.above)
  have cne := I.cne
  refine ⟨I.ok, I.os, I.bare, ⟨fun b o q n nf nx => (hs.2 b (nb q)).trans (I.base.keep b o q n nf nx), fun b o q n bf nx => ?_, I.base.free, fun b o q nx => ?_, I.base.tups, I.base.frzs, I.base.tbls⟩, ⟨_, hn', fun j y v' e1 e2 e3 => ?_⟩, fun y c q => ?_, I.free, I.freeC, fun p hp => ?_, fun b u q => ?_, by rw [List.length_set]; exact I.len⟩
  · obtain ⟨sl, z⟩ := I.base.slot b o q n bf nx
    exact ⟨sl, (hs.2 b (nb q)).trans z⟩
  · obtain ⟨o', z⟩ := I.base.there b o q nx
    exact ⟨o', (hs.2 b (nb q)).trans z⟩
  · have hj : i ≠ j := fun z => by
      subst z
      have hlt : i < σ.length := by
        have := (List.getElem?_eq_some_iff.mp e2).1; simpa using this
      rw [List.getElem?_set_self hlt] at e2
      cases e2
    rw [List.getElem?_set_ne hj] at e2
    obtain ⟨u, r, q⟩ := hl j y v' e1 e2 e3
    refine ⟨u, r, ?_⟩
    rcases q with ⟨k, z⟩ | ⟨k, c, q, z⟩
    · have ny : y ≠ n := fun z => hj (nodup_ix hN (z ▸ hi) e1)
      exact .inl ⟨k, by simp [ny, z]⟩
    · exact .inr ⟨k, c, q, z.sameBut hs (cne y c q)⟩
  · obtain ⟨w', z⟩ := I.cell y c q
    exact ⟨w', z.sameBut hs (cne y c q)⟩
  · obtain ⟨p1, p2, p3, p4⟩ := I.pin p hp
    exact ⟨(hs.2 p.1 p3).trans p1, p2, p3, p4⟩
  · refine (I.hok b u q).stay (fun c w' hc z => (hs.2 c ?_).trans z) (fun _ z => z) fun _ _ z => z
    have fl := I.free
    intro z
    subst z
    rcases hc with z | z
    · rw [← z, fl] at q; cases q
    · rw [fl] at z; cases z
end
theorem SR.drop {K : Frag} {H0 Hf H : Hp} {B : Addr → Prop} {sd : DSt} {σ : L2.St} (r : SR K H0 B Hf sd σ H) (i : Nat) : SR K H0 B Hf (sd.set i none) (σ.set i none) H := by
  have bk : ∀ {j : Nat} {t : S}, (sd.set i none)[j]? = some (some t) → i ≠ j ∧ sd[j]? = some (some t) := fun {j t} q => by
    by_cases hj : i = j
    · subst hj
      have hlt : i < sd.length := by
        have := (List.getElem?_eq_some_iff.mp q).1; simpa using this
      rw [List.getElem?_set_self hlt] at q
      cases q
    · rw [List.getElem?_set_ne hj] at q
      exact ⟨hj, q⟩
  refine ⟨r.sub, r.all, r.ban, r.bt, by rw [List.length_set, List.length_set]; exact r.len, fun j t q z => ?_, fun j t q z => ?_, fun j k t u p hjk q1 o1 q2 o2 q3 q4 => ?_⟩
  · rw [List.getElem?_set_ne (bk q).1]; exact r.imS j t (bk q).2 z
  · rw [List.getElem?_set_ne (bk q).1]; exact r.ow j t (bk q).2 z
  · rw [List.getElem?_set_ne (bk q1).1] at q3
    rw [List.getElem?_set_ne (bk q2).1] at q4
    exact r.sep j k t u p hjk (bk q1).2 o1 (bk q2).2 o2 q3 q4
/-- the class is caught by that clause -/
structure Hits (K : Frag) (C D : Addr) : Prop where
  sub : subIn K (.ref C) (.ref D) = some true
  exc : subIn K (.ref D) (.type "BaseException") = some true
  ty : typeIn K (.ref D) = some (.type "type")
  tt : instIn K (.ref D) (.type "type") = some true
  nt : instIn K (.ref D) (.type "tuple") = some false
theorem x_hits {M : Model} {A : Around} {E : Value → Shared → Prop} {s : Shared} {K : Frag} {a C D : Addr} {oe : Obj} {Q : Bool → Shared → Prop} (X : K.In s.heap) (h : Hits K C D) (he : s.heap.get? a = some oe) (hc : oe.cls = .ref C) (hq : Q true s) :
    wpAny M A (excMatches (.ref a) (.ref D)) Q E s := by
  have t1 : Looks M s.heap (typeOf (.ref a)) (.ref C) := hc ▸ (Looks.ld he).andThen .now
  have t2 := looks_subIn (M := M) X h.sub
  have t3 := looks_subIn (M := M) X h.exc
  have t4 := looks_instIn (M := M) X h.nt
  have t5 := looks_instIn (M := M) X h.tt
  have hD : ∃ oc od cd sl, s.heap.get? D = some ⟨oc, od, .cls cd, sl⟩ := by
    obtain ⟨cd, q, _⟩ := Option.bind_eq_some_iff.mp (show mroIn K D (.type "BaseException") = some true from h.exc)
    unfold clsIn at q
    split at q
    · rename_i ho
      exact ⟨_, _, _, _, X _ _ ho⟩
    · cases q
  obtain ⟨oc, od, cd, sl, hD⟩ := hD
  obtain ⟨hp, g, d, tk, os⟩ := s
  unfold excMatches
  repeat (first | with_reducible refine t1.here ?_ | with_reducible refine t2.here ?_ | with_reducible refine t3.here ?_ | with_reducible refine t4.here ?_ | with_reducible refine t5.here ?_ | with_reducible refine wpAny_loadPart_at hD ?_ | wp_step)
  exact hq
end DL

set_option maxHeartbeats 4000000
set_option linter.all false
set_option maxRecDepth 100000

namespace DL
open PySem PySem.Spec PySem.Calls PySem.Builtin PySem.Builtin.ObjectAttr PyProof.Rows L2 PySem.W

theorem xo_ok {P : Program} {w : World} {H : Hp} {h : Heap} {a C T : Addr} {dx : Option Addr} {fl : Value} (n : Nt h a (.ref C) dx T fl) : ObjOk P w H h a (XO a C dx) := by
  obtain ⟨oe, vs, e1, e2, e3, e4, _⟩ := n
  exact ⟨⟨oe, vs, e1, e2, e3, e4⟩, ⟨_, e1⟩, fun _ _ ⟨oe', vs', z1, z2⟩ k => ⟨oe', vs', k _ z1, z2⟩⟩
theorem nt_keep {h h' : Heap} {a T : Addr} {c fl : Value} {dx : Option Addr} (n : Nt h a c dx T fl) (k : ∀ b o, b = a ∨ b = T → h.get? b = some o → h'.get? b = some o) : Nt h' a c dx T fl := by
  obtain ⟨oe, vs, e1, e2, e3, e4, e5, e6⟩ := n
  refine ⟨oe, vs, k _ _ (.inl rfl) e1, e2, e3, e4, e5, ?_⟩
  rcases e6 with e6 | ⟨z1, z2, oT, ts, z3, z4⟩
  · exact .inl e6
  · exact .inr ⟨z1, z2, oT, ts, k _ _ (.inr rfl) z3, z4⟩
/-- found = f(..) within a try whose clause catches: what was raised goes to the name i, then the suite -/
def sTry (F : List D → M S) (fs : DSt → M (List D)) (j i : Nat) (cs : List Str) (g : DSt → M O) (sd : DSt) : M O := match fs sd with
  | .ok ds => (match F ds with
    | .ok (.im d) => .ok (.nx (sd.set j (some (.im d))))
    | .ok (.ow es) => .ok (.nx (sd.set j (some (.ow es))))
    | .ex x => if cs.contains x.cls then (match g (sd.set i (some (.xc x))) with
      | .ok (.nx sd') => .ok (.nx (sd'.set i none))
      | _ => .bad) else .bad
    | _ => .bad)
  | _ => .bad
section
variable {X : Cx} {E : XK} {a : Expr}
theorem psd_try {k : Nat} {f Dc : Addr} {fd : FuncData} {ps : List Str} {F : List D → M S} {fn x n c : Str} {p1 p2 p3 cpos apos hpos pos : Pos} {es : List Expr} {fs : DSt → M (List D)} {b₀ : Stmt} {suite : List Stmt} {g : DSt → M O} {i j : Nat} {cs : List Str}
    (G : FnOk X.prog X.w X.K X.mg X.base (CX1 X.prog X.w) k f fd ps (spX X.K F)) (hr : Room k X.A) (hm : X.mg fn = some (.ref f)) (hk : keepIn X.K (.ref f) = true) (hb : Binds X.K fd ps [])
    (ha : PAd X.nox E0 (a :: es) fs) (hN : X.N.Nodup) (hD : X.mg c = some (.ref Dc)) (hC : ∀ y ∈ cs, ∃ C, nsIn X.K mainGlobals y = some (some (.ref C)) ∧ Hits X.K C Dc) (hs : ∀ e, PSsd (sui X e) E0 (b₀ :: suite) g)
    (hj : X.N[j]? = some x := by rfl) (hx : Loc X.env.scope x := by first | exact Or.inl rfl | exact Or.inr rfl) (hi : X.N[i]? = some n := by rfl) (hn : X.env.kindOf n = some .local := by rfl)
    (hg : Gl X fn := by rfl) (hgD : Gl X c := by rfl) (hst : X.stack = X.env :: X.outer := by rfl) (hfr : X.env.frame = some X.env.locals := by rfl)
    (hdb : (fn == ("__debug__" : Str)) = false := by decide) (hdc : (c == ("__debug__" : Str)) = false := by decide) (hsw : swapsWith (.Call (.Name fn p2) (a :: es) [] cpos) (some (.Name x p1)) apos.line X.env = pure false := by rfl)
    (hfx : X.fn x = true ∨ X.env.scope.names.lookup x = some .local := by first | exact .inl rfl | exact .inr rfl)
    (he : starEach (a :: es) X.env = (false, eval a X.env) :: starEach es X.env := by rfl) (hpl : (backTo cpos (starEach es X.env)).any (·.1) = false := by rfl) :
    PSd X E (.Try [.Assign [.Name x p1] (.Call (.Name fn p2) (a :: es) [] cpos) apos] [.ExceptHandler (some (.Name c p3)) (some n) (b₀ :: suite) hpos] [] [] pos) (sTry F fs j i cs g) := by
  refine ⟨fun D' σ H => ∃ H0 B Hf sd, SR X.K H0 B Hf sd σ H ∧ PoS X.K E H0 B Hf (sTry F fs j i cs g sd) D', ?_, fun H0 B Hf sd σ H D' sr h => ⟨H0, B, Hf, sd, sr, h⟩⟩
  rintro pins s σ H D' I ⟨H0, B, Hf, sd, sr, po⟩
  obtain ⟨ta, pa, qa⟩ := ha
  refine wpAny_Try_except (wpAny_execs_cons (wpAny_Assign_Name ?_ hsw))
  refine wpAny_Call_Name_kw (ld_glob I hg hm ?_ hdb)
  unfold sTry at po
  split at po
  case h_2 => exact po.elim
  rename_i ds ef
  have hargs := pa cpos pins s σ H (fun vs H1 => ∃ Hf1, Gr Hf H Hf1 H1 ∧ Reps X.K Hf1 ds vs) (I.wish _) (qa H0 B Hf sd σ H _ sr (by
    rw [ef]
    exact fun vs Hf1 H1 g1 rs => ⟨Hf1, g1, rs⟩))
  refine PySem.W.callWith_K (h₀ := X.base) I.ok.mod.kin hk (wpAny_mono hargs (fun us s1 h1 => ?_) fun _ _ z => False.elim z) he hpl
  obtain ⟨vs, H1, I1', r, Hf1, g1, rs⟩ := h1
  have I1 : Inv X pins σ H1 s1 := I1'.unwish
  refine ⟨I1.kIn, ?_⟩
  have sr1 := sr.gr g1
  have nb : F ds ≠ .bad := fun z => by rw [z] at po; exact po
  have hsp : spX X.K F vs H1 (fun v H2 => ∃ t Hf2, F ds = .ok t ∧ Gr Hf1 H1 Hf2 H2 ∧ RS X.K H1 Hf2 H2 t v) (fun c dx H2 => ∃ z Hf2, F ds = .ex z ∧ Gr Hf1 H1 Hf2 H2 ∧ RepX X.K Hf2 H2 z c dx) := by
    refine ⟨Hf1, ds, g1.sub, rs, ?_⟩
    cases e : F ds with
    | ok t => exact fun v Hf' H' g' q => ⟨t, Hf', rfl, g', q⟩
    | ex z => exact fun c dx Hf' H' g' q => ⟨z, Hf', rfl, g', q⟩
    | bad => exact nb e
  have hl : (us ++ []).length = ps.length := by rw [List.append_nil, ← r.length]; exact G.len _ _ _ _ hsp
  have bnd := hb s1 us I1.kIn hl
  rw [List.append_nil] at bnd
  refine wpAny_call (codeAny_mono (G.run X.A X.stack s1 H1 ⟨us, []⟩ us vs _ _ hr I1.env0 bnd r hsp) fun rr s' hq => ?_)
  cases rr with
  | ok fl =>
    cases fl with
    | next => exact False.elim hq
    | brk => exact False.elim hq
    | cont => exact False.elim hq
    | ret u =>
      obtain ⟨v, H2, I2, rv, t, Hf2, eF, g2, q2⟩ := I1.after hq
      rw [eF] at po
      have done : ∀ {sd' : DSt}, PoS X.K E H0 B Hf (.ok (.nx sd')) D' → SR X.K H0 B Hf2 sd' (σ.set j (some v)) H2 → wpAny (model X.prog X.w) X.A (storeName X.env x u) (fun _ s₁ => wpAny (model X.prog X.w) X.A (execs [] X.env) (fun f s₁ => match f with | .next => wpAny (model X.prog X.w) X.A (execs [] X.env) (SP X pins D') X.xe s₁ | f => SP X pins D' f s₁) (fun e s₁ => wpAny (model X.prog X.w) X.A (noteFrame e X.env) (fun _ s₂ => wpAny (model X.prog X.w) X.A (setFlight e none) (fun _ s₃ => wpAny (model X.prog X.w) X.A (handleBy e X.env [.ExceptHandler (some (.Name c p3)) (some n) (b₀ :: suite) hpos]) (SP X pins D') X.xe s₃) X.xe s₂) X.xe s₁) s₁) (fun e s₁ => wpAny (model X.prog X.w) X.A (noteFrame e X.env) (fun _ s₂ => wpAny (model X.prog X.w) X.A (setFlight e none) (fun _ s₃ => wpAny (model X.prog X.w) X.A (handleBy e X.env [.ExceptHandler (some (.Name c p3)) (some n) (b₀ :: suite) hpos]) (SP X pins D') X.xe s₃) X.xe s₂) X.xe s₁) s' := fun {sd'} hp srn =>
        store_ok I2 hN hj hx rv (fun s3 I3 => wpAny_execs_nil (wpAny_execs_nil ⟨_, H2, I3, hp _ Hf2 H2 (g1.fz.trans g2.fz) srn⟩)) hfx
      cases t with
      | im d => exact done po ((sr1.gr g2).set_im j q2)
      | ow es' =>
        obtain ⟨p, rfl, e1, e2, e3⟩ := q2
        exact done po (sr1.set_new (sr1.gr g2) g2.all j e1 e2 rfl e3)
      | od _ => exact po.elim
      | dk _ => exact po.elim
      | xc _ => exact po.elim
  | error e =>
    obtain ⟨b, H2, cl, dx, T, rfl, os, bare, un, hok, hnt, na, nT, za, zT, z, Hf2, eF, g2, C, xs, rfl, hcn, hxf, hrs⟩ := hq
    rw [eF] at po
    dsimp only at po
    split at po
    case isFalse => exact po.elim
    rename_i hcs
    have I2 : Inv X pins σ H2 s' := I1.call' os un hok bare (fun b z => absurd z (by simp))
    have fa := fresh_of I1 za
    have fT := fresh_of I1 zT
    have hits : Hits X.K C Dc := by
      obtain ⟨C', q1, q2⟩ := hC z.cls (by simpa using hcs)
      rw [hcn] at q1; cases q1; exact q2
    show wpAny (model X.prog X.w) X.A (noteFrame (.ref b) X.env) _ _ s'
    refine note_at (base := X.base) (outer := X.outer) (by rw [← hst]; exact I2.ok.frames) (hst ▸ I2.stack) hfr hnt fun h3 T3 z3 n3 ne3 c3 => ?_
    rw [← hst] at c3
    have I3 : Inv X pins σ H2 { s' with heap := h3 } := inv_ch I2 c3 na nT fa fT
    have fT3 : Fresh X pins T3 := fresh_of I2 z3
    have nT3 : H2 T3 = none := I2.hok.fresh z3
    refine flight_at (s := { s' with heap := h3 }) n3 ne3 fun h4 sz4 n4 o4 => ?_
    have I4 : Inv X pins σ H2 { s' with heap := h4 } := inv_ch (s := { s' with heap := h3 }) (h' := h4) (a := b) (T := T3) I3 ⟨fun b' o _ m2 _ q => (o4 b' m2).trans q, fun b' o _ m2 q => ⟨o.slots, (o4 b' m2).trans q⟩⟩ na nT3 fa fT3
    refine wpAny_handleBy_cons (codeAny_handlers_test ?_) (by intro q; cases q)
    refine ld_glob (inv_sui (e := .ref b) I4) hgD hD ?_ hdc
    obtain ⟨oe, ws, q1, q2, _⟩ := id n4
    refine x_hits (K := X.K) I4.kIn hits q1 q2 ?_
    refine codeAny_handlers_suite_as ?_
    refine flight_at (s := { s' with heap := h4 }) n4 ne3 fun h5 sz5 n5 o5 => ?_
    have I5 : Inv X pins σ H2 { s' with heap := h5 } := inv_ch (s := { s' with heap := h4 }) (h' := h5) (a := b) (T := T3) I4 ⟨fun b' o _ m2 _ q => (o5 b' m2).trans q, fun b' o _ m2 q => ⟨o.slots, (o5 b' m2).trans q⟩⟩ na nT3 fa fT3
    have I6 : Inv X pins σ (upd H2 b (XO b C dx)) { s' with heap := h5 } := inv_track I5 na fa (xo_ok n5)
    have g3 : Gr Hf2 H2 (upd Hf2 b (XO b C dx)) (upd H2 b (XO b C dx)) := Gr.alloc g2.sub na _
    have sr6 : SR X.K H0 B (upd Hf2 b (XO b C dx)) (sd.set i (some (.xc z))) (σ.set i (some (.ref b))) (upd H2 b (XO b C dx)) :=
      ((sr1.gr g2).gr g3).set_st i rfl (show RepE X.K _ z (.ref b) from ⟨b, C, dx, xs, rfl, upd_same, hcn, hxf.mono g3.fz, hrs.mono g3.fz⟩)
    refine store_ok (X := sui X (.ref b)) (v := .ref b) (inv_sui I6) hN hi (Or.inl hn) rfl (fun s6 I7 => ?_) (Or.inr hn)
    obtain ⟨t2, ps2, qs2⟩ := hs (.ref b)
    have run := ps2 pins s6 _ _ { nx := fun σ' H' => ∃ Hf' sd', Same (upd Hf2 b (XO b C dx)) Hf' ∧ SR X.K H0 B Hf' sd' σ' H' ∧ g (sd.set i (some (.xc z))) = .ok (.nx sd'), rt := fun _ _ => False } I7 (qs2 H0 B _ _ _ _ _ sr6 (by
      split at po
      case h_2 => exact po.elim
      rename_i sd' eg
      rw [eg]
      exact fun σ' Hf' H' e1 sr' => ⟨Hf', sd', e1, sr', rfl⟩))
    refine wpAny_mono run (fun fl s7 h7 => ?_) fun _ _ z => False.elim z
    cases fl with
    | next =>
      obtain ⟨σ', H', I8, Hf', sd', e1, sr', eg⟩ := h7
      rw [eg] at po
      exact name_drop (inv_back I4.ok I8) hN hi hn fun s9 I9 => ⟨_, H', I9, po _ Hf' H' ((g1.fz.trans g2.fz).trans (g3.fz.trans e1)) (sr'.drop i)⟩
    | ret u => obtain ⟨_, _, _, _, _, q⟩ := h7; exact q.elim
    | brk => obtain ⟨_, _, _, q⟩ := h7; exact q.elim
    | cont => obtain ⟨_, _, _, q⟩ := h7; exact q.elim
end
end DL

set_option maxHeartbeats 4000000
set_option linter.all false
set_option maxRecDepth 100000

namespace DL
open PySem PySem.Spec PySem.Calls PySem.Builtin PySem.Builtin.ObjectAttr PyProof.Rows L2 PySem.W

section
variable {prog : Program} {w : World} {A : Around} {E : Value → Shared → Prop} {s : Shared} {K : Frag} {x C : Addr} {ox : Obj} {od : Option Obj} {name : Str} {tk : Tok} {v : Value} {R : Result → Shared → Prop}
theorem x_sub {M : Model} {T : String} (X : K.In s.heap) (I : PySem.W.InstAt s.heap x ox C od) (c : XCls K C) (hT : exMro.contains (.type T) = true) : Looks M s.heap (isInstance (.ref x) (.type T)) true := by
  obtain ⟨cd, hc, ho⟩ := any_some c.ov
  have ne : cd.mro.isEmpty = false := by
    cases q : cd.mro with
    | nil => rw [q] at ho; cases ho
    | cons _ _ => rfl
  exact I.type.andThen (looks_mroIn X (by unfold mroIn; rw [hc, Option.bind_some, if_neg (by rw [ne]; decide), ex_has hT ho]))
theorem ga_kind : builtinKind "BaseException.__getattribute__" = some .slot := by decide +kernel
theorem ga_split : splitId "BaseException.__getattribute__" = some ("BaseException", "__getattribute__") := by decide +kernel
theorem x_ga (X : K.In s.heap) (I : PySem.W.InstAt s.heap x ox C od) (c : XCls K C) {r : Found} (hf : findObj K C od name = some r)
    (h : wpAny (model prog w) A.in1 (match r with | .value v => ret v | .bind g a => bindTo g a (.ref x) (.ref C) | .missing => unsupported "") (fun fin s' => match fin with | .done f => R (.ok f) s' | .again c' => c'.quiet = true ∧ codeAny (model prog w) A c' R s') (fun e s' => R (.error e) s') s) (hr : r ≠ .missing) :
    codeAny (model prog w) A (.call (.builtin "BaseException.__getattribute__") ⟨[.ref x, .str name tk], []⟩) R s := by
  have sub := x_sub (M := model prog w) X I c (T := "BaseException") (by decide +kernel)
  refine codeAny_call_builtin PySem.F.attr_ValueError.ga.plain PySem.F.entry_bexc_ga (@check_slot (model prog w) _ _ s "BaseException.__getattribute__" "BaseException" "__getattribute__" (.ref x) [.str name tk] [] _ ga_kind ga_split sub (PySem.F.args_bexc_ga (.ref x) (.str name tk)) ?_)
  have L0 := I.type (M := model prog w)
  have L1 := looks_find (M := model prog w) X I hf
  refine wpAny_bind (wpAny_pure (wpAny_bind (wpAny_pure (wpAny_bind (L0.here (wpAny_bind (L1.here ?_)))))))
  cases r with
  | value v => exact h
  | bind g a => exact h
  | missing => exact absurd rfl hr
theorem x_getBy {fill expr : Bool} {Q : Value → Shared → Prop} (X : K.In s.heap) (I : PySem.W.InstAt s.heap x ox C od) (c : XCls K C)
    (h : codeAny (model prog w) A (.call (.builtin "BaseException.__getattribute__") ⟨[.ref x, .str name tk], []⟩) (fun r s' => match r with | .ok (.ret v) => wpAny (model prog w) A (handedOut v) Q E s' | _ => False) s) :
    wpAny (model prog w) A (getAttrBy (.ref x) (.str name tk) fill expr) Q E s := by
  have L0 := I.type (M := model prog w)
  have L1 := looks_findIn (M := model prog w) X c.ga
  have L2 := looks_findIn (M := model prog w) X c.gn
  unfold getAttrBy
  refine wpAny_holding (wpAny_bind (L0.here (wpAny_bind (L1.here ?_))))
  have e1 : (Value.builtin "BaseException.__getattribute__" == Value.builtin "object.__getattribute__") = false := by decide +kernel
  have e2 : (onTheHeap (Value.ref C) && Value.builtin "BaseException.__getattribute__" == Value.builtin "object.__getattribute__") = false := by rw [e1]; rfl
  have e3 : (expr && onTheHeap (Value.builtin "BaseException.__getattribute__")) = false := by cases expr <;> rfl
  dsimp only
  rw [if_neg (by rw [e2]; decide)]
  unfold getAttrByItsOwn hookBefore
  rw [if_pos (show onTheHeap (Value.ref C) = true from rfl)]
  refine wpAny_bind (L2.here (wpAny_bind (wpAny_attempt (wpAny_holding ?_))))
  unfold callGetattribute
  rw [if_neg (by rw [e3]; decide)]
  unfold boundAndCalled
  rw [PySem.F.attr_ValueError.ga.bind (.ref x)]
  refine wpAny_bind (wpAny_pure (wpAny_call (codeAny_mono h fun r s' z => ?_)))
  cases r with
  | error e => exact z.elim
  | ok f =>
    cases f with
    | ret v => exact z
    | _ => exact z.elim
theorem x_get {expr : Bool} {Q : Value → Shared → Prop} (X : K.In s.heap) (I : PySem.W.InstAt s.heap x ox C od) (c : XCls K C) (hf : findObj K C od name = some (.value v)) (hv : handedIn v = true) (h : Q v { s with toks := s.toks + 1 }) :
    wpAny (model prog w) A (getAttr (.ref x) name expr) Q E s := by
  unfold getAttr
  refine wpAny_bind (wpAny_mkText ?_)
  refine x_getBy (s := { s with toks := s.toks + 1 }) X I c (x_ga (s := { s with toks := s.toks + 1 }) X I c hf ?_ (fun z => nomatch z))
  refine wpAny_pure ?_
  show wpAny _ _ (handedOut v) _ _ _
  rw [handedOut_of hv]
  exact wpAny_pure h
structure XKit (K : Frag) (C : Addr) : Prop where
  ha : findIn K (.ref C) "__class__" = some (some (.builtin "object.__class__"))
  hn : specialIn K (.builtin "object.__class__") "__get__" = some (some (.builtin "getset_descriptor.__get__"))
  ht : takesIn K (.builtin "object.__class__") = some true
  hm : mroIn K C (.type "object") = some true
theorem x_class {o' : Obj} {Q : Option Value → Shared → Prop} (X : K.In s.heap) (I : PySem.W.InstAt s.heap x ox C (some o')) (c : XCls K C) (k : XKit K C) (h : Q (some (.ref C)) { s with toks := s.toks + 1 }) :
    wpAny (model prog w) A (getAttr? (.ref x) "__class__") Q E s := by
  have hf : findObj K C (some o') "__class__" = some (.bind (.builtin "getset_descriptor.__get__") (.builtin "object.__class__")) := findObj_data (by obtain ⟨cd, hc, _⟩ := any_some c.hd; rw [hc]; rfl) k.ha k.hn k.ht
  unfold getAttr? getAttrBy?
  refine wpAny_bind (wpAny_mkText (wpAny_bind (wpAny_attempt ?_)))
  refine x_getBy (s := { s with toks := s.toks + 1 }) X I c (x_ga (s := { s with toks := s.toks + 1 }) X I c hf ?_ (fun z => nomatch z))
  show wpAny _ _ (bindTo _ _ _ _) _ _ _
  unfold bindTo
  refine wpAny_bind (wpAny_holding (wpAny_call (class_get (s := { s with toks := s.toks + 1 }) X I k.hm ?_)))
  exact wpAny_pure (handed_on rfl (wpAny_pure h))
theorem x_kit {o' : Obj} (c : XCls K C) (k : XKit K C) : KitX K (.ref x) (.ref C) (fun h => PySem.W.InstAt h x ox C (some o')) where
  ty := fun _ _ _ I => I.type
  it := fun _ _ X _ => by
    obtain ⟨cdD, hcD, _⟩ := any_some c.hd
    unfold clsIn at hcD
    split at hcD
    · rename_i ho
      intro A' Q' E' s' kk q
      unfold isType loadHead
      exact wpAny_bind (wpAny_loadPart (kk _ _ (X _ _ ho)) (wpAny_pure q))
    · cases hcD
  ne := fun h tp dd its n sl X htp => by
    obtain ⟨cdD, hcD, _⟩ := any_some c.hd
    refine Bool.eq_false_iff.mpr fun q => ?_
    have e : C = tp := Value.ref.inj (beq_iff_eq.mp q)
    subst e
    unfold clsIn at hcD
    split at hcD
    · rename_i ho
      have z := (X _ _ ho).symm.trans htp
      cases z
    · cases hcD
  ca := fun X I kk => x_class X I c k kk
end
end DL

set_option maxHeartbeats 4000000
set_option linter.all false
set_option maxRecDepth 100000

namespace DL
open PySem PySem.Spec PySem.Calls PySem.Builtin PySem.Builtin.ObjectAttr PyProof.Rows L2 PySem.W

/-! ### what is asked of an exception that was caught -/
theorem xo_inst {X : Cx} {pins : List (Addr × Obj)} {σ : L2.St} {H : Hp} {s : Shared} {a C dx : Addr} {fs : List (Str × V)} (I : Inv X pins σ H s) (h1 : H a = some (XO a C (some dx))) (h2 : H dx = some (.xd fs)) :
    ∃ oe od, PySem.W.InstAt s.heap a oe C (some od) ∧ ∀ f, ∃ r, lookIn f od = some r ∧ RelO (fs.lookup f) r := by
  obtain ⟨⟨oe, vs, e1, e2, e3, e4⟩, _⟩ := (show ObjOk X.prog X.w H s.heap a (XO a C (some dx)) from I.hok a _ h1)
  obtain ⟨mA, n1, r⟩ := (show ObjOk X.prog X.w H s.heap dx (.xd fs) from I.hok dx _ h2)
  obtain ⟨od, ho, hl⟩ := lookIn_ns n1
  refine ⟨oe, od, ⟨e1, e2, ?_, ?_⟩, fun f => ⟨mA f, hl f, r f⟩⟩
  · unfold notCls; rw [e4]
  · rw [e3]; exact ho
def vOf : V → Value
  | .ref a => .ref a
  | .ty n => .type n
  | _ => .none
section
variable {X : Cx} {E : XK} {pos p p2 p3 : Pos} {vn cn f : Str}
theorem call_instX : CallR X (.builtin "isinstance") (fun xs H Q => ∃ a C dx fs b vc, xs = [.ref a, vc] ∧ ((∃ d, vc = .ref d) ∨ ∃ n, vc = .ty n) ∧ H a = some (XO a C (some dx)) ∧ H dx = some (.xd fs) ∧ XCls X.K C ∧ XKit X.K C ∧ kitOne X.K (.ref C) (vOf vc) = some b ∧ Q (.bl b) H) := by
  intro pins s σ H xs us Q I r h
  obtain ⟨a, C, dx, fs, b, vc, rfl, hv, h1, h2, c, k, e, q⟩ := h
  obtain ⟨u, w', rfl, r1, r2⟩ := vals2 r
  cases (show u = Value.ref a from r1)
  have ew : w' = vOf vc := by
    rcases hv with ⟨d, rfl⟩ | ⟨n, rfl⟩ <;> exact r2
  subst ew
  obtain ⟨oe, od, I', _⟩ := xo_inst I h1 h2
  exact PySem.W.kia_one (x_kit (o' := od) (ox := oe) c k) I.kIn I' e (fun z => nomatch z) fun tk => ⟨.bl b, H, I.tok _, rfl, q⟩
/-- what is known of the classes that may be raised -/
structure XKnow (K : Frag) (y : Str) (C : Addr) : Prop where
  at_ : nsIn K mainGlobals y = some (some (.ref C))
  cl : XCls K C
  kt : XKit K C
def eInstX (i : Nat) (cs : List Str) (anc : Str → List Str) (cn : Str) (sd : DSt) : M D := match sd[i]? with
  | some (some (.xc x)) => if cs.contains x.cls && !x.ns.isEmpty then .ok (.bl ((anc x.cls).contains cn)) else .bad
  | _ => .bad
theorem pd_instX (i : Nat) (cs : List Str) (anc : Str → List Str) {t2 : TE} {vc : V} (hvc : (∃ d, vc = .ref d) ∨ ∃ n, vc = .ty n) (pc : PE X (.Name cn p3) t2) (qc : ∀ σ H Q, Q vc H → t2 σ H Q)
    (hk : ∀ y ∈ cs, ∃ C, XKnow X.K y C ∧ kitOne X.K (.ref C) (vOf vc) = some ((anc y).contains cn)) (hm : X.mg "isinstance" = none) (hg : Gl X "isinstance" := by rfl)
    (hN : X.N[i]? = some vn := by rfl) (hv : Vis X.env.scope vn := by first | exact Or.inl rfl | exact Or.inr (Or.inl rfl) | exact Or.inr (Or.inr rfl)) (hd : (vn == ("__debug__" : Str)) = false := by decide) (hcd : (vn == ("__classdict__" : Str)) = false := by decide)
    (he : starEach [.Name vn p2, .Name cn p3] X.env = (false, eval (.Name vn p2) X.env) :: starEach [.Name cn p3] X.env := by rfl) (he2 : starEach [.Name cn p3] X.env = (false, eval (.Name cn p3) X.env) :: starEach [] X.env := by rfl)
    (hpl : (backTo pos (starEach [.Name cn p3] X.env)).any (·.1) = false := by rfl) (hbt : bootBuiltins "isinstance" = some (.builtin "isinstance") := by rfl) :
    PEd X E (.Call (.Name "isinstance" p) [.Name vn p2, .Name cn p3] [] pos) (eInstX i cs anc cn) := by
  refine ⟨_, pe_callB call_instX hg hm hbt (pa_cons (pe_var hN hv hd hcd) (pa_cons pc pa_nil he2) he) (by decide) (by decide) he hpl, fun H0 B Hf sd σ H Q sr h => ?_⟩
  unfold eInstX at h
  split at h
  · rename_i x ei
    split at h
    · rename_i hc
      obtain ⟨hc1, hc2⟩ := Bool.and_eq_true_iff.mp hc
      obtain ⟨v, e1, a, C, dx, xs, rfl, e2, e3, e4, e5⟩ := sr.imS i _ ei rfl
      obtain ⟨C', ⟨z1, z2, z3⟩, z4⟩ := hk x.cls (by simpa using hc1)
      rw [e3] at z1; cases z1
      cases dx with
      | none =>
        have := e4.1
        rw [this] at hc2; cases hc2
      | some d =>
        exact ⟨.ref a, e1, qc _ _ _ ⟨a, C, d, _, _, vc, rfl, hvc, sr.sub _ _ e2, sr.sub _ _ e4.1, z2, z3, z4, Po.ret (R := rV X.K) sr.sub h (rep_bl.mpr rfl)⟩⟩
    · exact h.elim
  · exact h.elim
/-- e.f -/
def eFldX (i : Nat) (cs : List Str) (f : Str) (sd : DSt) : M D := match sd[i]? with
  | some (some (.xc x)) => if cs.contains x.cls && x.ns == [f] then (match x.ds with | [d] => .ok d | _ => .bad) else .bad
  | _ => .bad
def tFldX (K : Frag) (ta : TE) (f : Str) : TE := fun σ H Q => ta σ H fun x H1 => ∃ a C dx fs v, x = .ref a ∧ H1 a = some (XO a C (some dx)) ∧ H1 dx = some (.xd fs) ∧ XCls K C ∧ NoAttr K C f ∧ fs.lookup f = some v ∧ Q v H1
theorem pe_fldX {o : Expr} {ta : TE} (ha : PE X o ta) (hb : attributeBase o f X.env (eval o X.env) = eval o X.env := by rfl) : PE X (.Attribute o f pos) (tFldX X.K ta f) := by
  intro pins s σ H Q I h
  refine attr_of hb (thn (ha pins s σ H _ I h) fun ov s1 ⟨x, H1, I1, rx, a, C, dx, fs, v, ex, e1, e2, c, n, l, q⟩ => ?_)
  subst ex
  obtain rfl : ov = Value.ref a := rx
  obtain ⟨oe, od, I', hl⟩ := xo_inst I1 e1 e2
  obtain ⟨r, h1, h2⟩ := hl f
  rw [l] at h2
  obtain ⟨u, rfl, ru⟩ := RelO.some_of h2
  exact x_get I1.kIn I' c (findObj_own c.hd n rfl h1) (handed_of ru) ⟨v, H1, I1.tok _, ru, q⟩
theorem pd_fldX (i : Nat) (cs : List Str) (hk : ∀ y ∈ cs, ∃ C, XKnow X.K y C ∧ NoAttr X.K C f)
    (hN : X.N[i]? = some vn := by rfl) (hv : Vis X.env.scope vn := by first | exact Or.inl rfl | exact Or.inr (Or.inl rfl) | exact Or.inr (Or.inr rfl)) (hd : (vn == ("__debug__" : Str)) = false := by decide) (hcd : (vn == ("__classdict__" : Str)) = false := by decide)
    (hb : attributeBase (.Name vn p) f X.env (eval (.Name vn p) X.env) = eval (.Name vn p) X.env := by rfl) : PEd X E (.Attribute (.Name vn p) f pos) (eFldX i cs f) := by
  refine ⟨_, pe_fldX (pe_var hN hv hd hcd) hb, fun H0 B Hf sd σ H Q sr h => ?_⟩
  unfold eFldX at h
  split at h
  · rename_i x ei
    split at h
    · rename_i hc
      obtain ⟨hc1, hc2⟩ := Bool.and_eq_true_iff.mp hc
      have hns : x.ns = [f] := beq_iff_eq.mp hc2
      obtain ⟨v, e1, a, C, dx, xs, rfl, e2, e3, e4, e5⟩ := sr.imS i _ ei rfl
      obtain ⟨C', ⟨z1, z2, z3⟩, z4⟩ := hk x.cls (by simpa using hc1)
      rw [e3] at z1; cases z1
      split at h
      · rename_i d ed
        rw [ed] at e5
        obtain ⟨y, r, rfl, ry, rn⟩ := reps_cons.mp e5
        rw [reps_nil] at rn
        subst rn
        cases dx with
        | none => have := e4.1; rw [hns] at this; cases this
        | some d' =>
          refine ⟨.ref a, e1, a, C, d', _, y, rfl, sr.sub _ _ e2, sr.sub _ _ e4.1, z2, z4, ?_, Po.ret (R := rV X.K) sr.sub h ry⟩
          rw [hns]
          simp [List.zip, List.lookup]
      · exact h.elim
    · exact h.elim
  · exact h.elim
def nonD : D → Bool
  | .non => true
  | _ => false
/-- x is None, x is not None, x perhaps an exception -/
def eIsNS (i : Nat) (sd : DSt) : M D := match sd[i]? with
  | some (some (.im d)) => .ok (.bl (nonD d))
  | some (some (.xc _)) => .ok (.bl false)
  | _ => .bad
def eNotNS (i : Nat) (sd : DSt) : M D := match sd[i]? with
  | some (some (.im d)) => .ok (.bl (!nonD d))
  | some (some (.xc _)) => .ok (.bl true)
  | _ => .bad
theorem rep_isnon {K : Frag} {H : Hp} {d : D} {v : V} (r : Rep K H d v) : decide (v = .non) = nonD d := by
  cases d with
  | non => rw [rep_non.mp r]; rfl
  | bl b => rw [rep_bl.mp r]; rfl
  | int b => rw [rep_int.mp r]; rfl
  | str b => rw [rep_str.mp r]; rfl
  | tup b => obtain ⟨a, xs, rfl, _⟩ := rep_tup.mp r; rfl
  | lst b => obtain ⟨a, xs, rfl, _⟩ := rep_lst.mp r; rfl
theorem pd_isNS (i : Nat) {j} (hN : X.N[i]? = some vn := by rfl) (hv : Vis X.env.scope vn := by first | exact Or.inl rfl | exact Or.inr (Or.inl rfl) | exact Or.inr (Or.inr rfl)) (hd : (vn == ("__debug__" : Str)) = false := by decide) (hcd : (vn == ("__classdict__" : Str)) = false := by decide)
    (hm : behindInMarks .Is (.Constant .none j p2) = false := by rfl) : PEd X E (.Compare (.Name vn p) [.Is] [.Constant .none j p2] pos) (eIsNS i) := by
  refine ⟨_, pe_cmp (pc_isN (pe_var hN hv hd hcd)) hm, fun H0 B Hf sd σ H Q sr h => ?_⟩
  unfold eIsNS at h
  split at h
  · rename_i d ei
    obtain ⟨v, e1, e2⟩ := sr.im i d ei
    refine ⟨v, e1, ?_⟩
    dsimp only
    rw [rep_isnon e2]
    exact Po.ret (R := rV X.K) sr.sub h (rep_bl.mpr rfl)
  · rename_i x ei
    obtain ⟨v, e1, a, _, _, _, rfl, _⟩ := sr.imS i _ ei rfl
    exact ⟨.ref a, e1, Po.ret (R := rV X.K) sr.sub h (rep_bl.mpr rfl)⟩
  · exact h.elim
theorem pd_notNS (i : Nat) {j} (hN : X.N[i]? = some vn := by rfl) (hv : Vis X.env.scope vn := by first | exact Or.inl rfl | exact Or.inr (Or.inl rfl) | exact Or.inr (Or.inr rfl)) (hd : (vn == ("__debug__" : Str)) = false := by decide) (hcd : (vn == ("__classdict__" : Str)) = false := by decide)
    (hm : behindInMarks .IsNot (.Constant .none j p2) = false := by rfl) : PEd X E (.Compare (.Name vn p) [.IsNot] [.Constant .none j p2] pos) (eNotNS i) := by
  refine ⟨_, pe_cmp (pc_notN (pe_var hN hv hd hcd)) hm, fun H0 B Hf sd σ H Q sr h => ?_⟩
  unfold eNotNS at h
  split at h
  · rename_i d ei
    obtain ⟨v, e1, e2⟩ := sr.im i d ei
    refine ⟨v, e1, ?_⟩
    dsimp only
    rw [rep_isnon e2]
    exact Po.ret (R := rV X.K) sr.sub h (rep_bl.mpr rfl)
  · rename_i x ei
    obtain ⟨v, e1, a, _, _, _, rfl, _⟩ := sr.imS i _ ei rfl
    exact ⟨.ref a, e1, Po.ret (R := rV X.K) sr.sub h (rep_bl.mpr rfl)⟩
  · exact h.elim
/-- y = x, x an exception -/
def sMvX (j i : Nat) (sd : DSt) : M O := match sd[i]? with
  | some (some (.xc x)) => .ok (.nx (sd.set j (some (.xc x))))
  | _ => .bad
theorem psd_mvX (j i : Nat) {y : Str} (nd : X.N.Nodup) (hj : X.N[j]? = some y := by rfl) (hy : Loc X.env.scope y := by first | exact Or.inl rfl | exact Or.inr rfl) (hN : X.N[i]? = some vn := by rfl) (hv : Vis X.env.scope vn := by first | exact Or.inl rfl | exact Or.inr (Or.inl rfl) | exact Or.inr (Or.inr rfl)) (hd : (vn == ("__debug__" : Str)) = false := by decide) (hcd : (vn == ("__classdict__" : Str)) = false := by decide)
    (hs : swapsWith (.Name vn p) (some (.Name y p2)) pos.line X.env = pure false := by rfl) (hf : X.fn y = true ∨ X.env.scope.names.lookup y = some .local := by first | exact .inl rfl | exact .inr rfl) : PSd X E (.Assign [.Name y p2] (.Name vn p) pos) (sMvX j i) := by
  refine ⟨_, ps_set nd hj hy (pe_var hN hv hd hcd) hs hf, fun H0 B Hf sd σ H D' sr h => ?_⟩
  unfold sMvX at h
  split at h
  · rename_i x ei
    obtain ⟨v, e1, e2⟩ := sr.imS i _ ei rfl
    exact ⟨v, e1, h _ Hf H (Same.refl _) (sr.set_st j rfl e2)⟩
  · exact h.elim
end
/-! ### defs whose first argument is an exception -/
theorem SR.ofS {K : Frag} {Hf H : Hp} {sd : DSt} {σ : L2.St} (e : Same Hf H) (hl : sd.length = σ.length) (hS : ∀ (i : Nat) (t : S), sd[i]? = some (some t) → t.own = false ∧ ∃ v, σ[i]? = some (some v) ∧ RepS K Hf t v) :
    SR K H (fun a => H a ≠ none ∧ Hf a = none) Hf sd σ H :=
  ⟨e, Same.refl _, fun _ h => h.2, fun _ h => h.1, hl, fun i t h _ => (hS i t h).2, fun i t h ho => (by rw [(hS i t h).1] at ho; cases ho), fun i _ t _ _ _ h ho _ _ _ _ => (by rw [(hS i t h).1] at ho; cases ho)⟩
def spE (K : Frag) (F : XV → List D → M S) : Sp := fun vs H Q _ => ∃ Hf x ds v r s, vs = v :: r ∧ Same Hf H ∧ RepE K Hf x v ∧ Reps K Hf ds r ∧ F x ds = .ok s ∧ ∀ v Hf' H', Gr Hf H Hf' H' → RS K H Hf' H' s v → Q v H'
def fnE (n m : Nat) (f : DSt → M O) (x : XV) (ds : List D) : M S := if ds.length = n then fin' (f (some (.xc x) :: (ds.map (fun d => some (S.im d)) ++ List.replicate m none))) else .bad
theorem sr_startE {K : Frag} {N : List Str} {Hf H : Hp} {x : XV} {ds : List D} {v : V} {vs : List V} {m : Nat} (e : Same Hf H) (rx : RepE K Hf x v) (r : Reps K Hf ds vs) (hN : N.length = ds.length + 1 + m) :
    SR K H (fun a => H a ≠ none ∧ Hf a = none) Hf (some (.xc x) :: (ds.map (fun d => some (S.im d)) ++ List.replicate m none)) (L2.start N (v :: vs)) H := by
  have hlen := r.length
  have es : L2.start N (v :: vs) = some v :: (vs.map some ++ List.replicate m none) := by
    unfold L2.start
    rw [List.map_cons, List.cons_append, show N.length - (v :: vs).length = m by rw [List.length_cons]; omega]
  rw [es]
  refine SR.ofS e (by simp [hlen]) fun i t h => ?_
  cases i with
  | zero =>
    rw [List.getElem?_cons_zero] at h
    cases h
    exact ⟨rfl, v, rfl, rx⟩
  | succ i =>
    rw [List.getElem?_cons_succ] at h ⊢
    by_cases hl : i < ds.length
    · rw [List.getElem?_append_left (by simpa using hl), List.getElem?_map] at h
      cases q : ds[i]? with
      | none => rw [q] at h; cases h
      | some d =>
        rw [q] at h
        cases h
        obtain ⟨y, e1, e2⟩ := r.get q
        have : i < vs.length := (List.getElem?_eq_some_iff.mp e1).1
        exact ⟨rfl, y, by rw [List.getElem?_append_left (by simpa using this), List.getElem?_map, e1]; rfl, e2⟩
    · rw [List.getElem?_append_right (by simpa using hl), List.getElem?_replicate] at h
      split at h <;> cases h
theorem fn_e {P : Program} {w : World} {K : Frag} {mg : Str → Option Value} {base : Heap} {x qual : Str} {st : Stmt} {f : Addr} {fd : FuncData} {N ps : List Str} {k m n : Nat} {fb : DSt → M O} (F : Fun K x qual st f fd) (sc : FnScope N ps (defScope st))
    (hn : ps.length = n + 1) (hN : N.length = n + 1 + m)
    (hbody : ∀ (cdv : Value) (A : Around) (outer : List Env) (s : Shared) (H : Hp) (E : XK), Room k (A.deeper (envOfC qual (defScope st) s.heap.objs.size f cdv)) →
      PSsd (cxOf CX0 P w K mg base N qual (defScope st) f cdv A outer s H E).nox E0 (defBody st) fb) : FnOk P w K mg base CX0 (k + 1) f fd ps (spE K (fnE n m fb)) := by
  refine F.ok sc (fun vs H Q E h => ?_) (fun cdv A outer s H vs Q E hr h => ?_)
  · obtain ⟨Hf, x, ds, v, r, s, rfl, e, _, rs, hF, _⟩ := h
    unfold fnE at hF
    split at hF
    · rename_i hl
      rw [List.length_cons, ← rs.length, hl, hn]
    · cases hF
  · obtain ⟨Hf, x, ds, v, r, s', rfl, e, rx, rs, hF, q⟩ := h
    obtain ⟨t, p, qt⟩ := hbody cdv A outer s H E hr
    unfold fnE at hF
    split at hF
    · rename_i hl
      refine ⟨t, p, qt H _ Hf _ (L2.start N (v :: r)) H _ (sr_startE (N := N) (m := m) e rx rs (by omega)) ?_⟩
      generalize fb (some (S.xc x) :: (List.map (fun d => some (S.im d)) ds ++ List.replicate m none)) = ro at hF
      have back : ∀ {v : V} {Hf' H' : Hp} {s : DL.S}, Same Hf Hf' → Fin' H (fun a => H a ≠ none ∧ Hf a = none) Hf' H' → RS K H Hf' H' s v → s = s' → Q v H' := fun {v Hf' H' s} e1 e2 e3 e4 => by
        subst e4
        exact q v Hf' H' ⟨e1, e2.sub, e2.all, fun a h1 h2 => e2.ban a ⟨h1, h2⟩⟩ e3
      cases ro with
      | ok o =>
        cases o with
        | rt s2 =>
          have e' : s2 = s' := by cases hF; rfl
          exact fun v Hf' H' e1 e2 e3 => back e1 e2 e3 e'
        | nx sd' =>
          have e' : DL.S.im .non = s' := by cases hF; rfl
          exact fun σ' Hf' H' e1 sr' => back (v := .non) (s := DL.S.im .non) e1 sr'.fin (show Rep K Hf' .non .non from rep_non.mpr rfl) e'
        | bk sd' => cases hF
        | ct sd' => cases hF
      | ex x => cases hF
      | bad => cases hF
    · cases hF
def eCallE (i : Nat) (F : XV → List D → M S) (fs : DSt → M (List D)) (sd : DSt) : M D := match sd[i]? with
  | some (some (.xc x)) => (fs sd).bind fun ds => (match F x ds with
    | .ok (.im d) => .ok d
    | _ => .bad)
  | _ => .bad
section
variable {X : Cx} {E : XK} {pos p p2 : Pos} {vn : Str}
theorem pd_callE (i : Nat) {k : Nat} {f : Addr} {fd : FuncData} {ps : List Str} {F : XV → List D → M S} {x : Str} {es : List Expr} {fs : DSt → M (List D)} (G : FnOk X.prog X.w X.K X.mg X.base CX0 k f fd ps (spE X.K F)) (hr : Room k X.A) (hm : X.mg x = some (.ref f)) (hk : keepIn X.K (.ref f) = true) (hb : Binds X.K fd ps [])
    (ha : PAd X E es fs) (hN : X.N[i]? = some vn := by rfl) (hv : Vis X.env.scope vn := by first | exact Or.inl rfl | exact Or.inr (Or.inl rfl) | exact Or.inr (Or.inr rfl)) (hd : (vn == ("__debug__" : Str)) = false := by decide) (hcd : (vn == ("__classdict__" : Str)) = false := by decide)
    (hg : Gl X x := by rfl) (hdb : (x == ("__debug__" : Str)) = false := by decide) (he : starEach (.Name vn p2 :: es) X.env = (false, eval (.Name vn p2) X.env) :: starEach es X.env := by rfl) (hpl : (backTo pos (starEach es X.env)).any (·.1) = false := by rfl) :
    PEd X E (.Call (.Name x p) (.Name vn p2 :: es) [] pos) (eCallE i F fs) := by
  obtain ⟨t, pt, qt⟩ := ha
  refine ⟨_, pe_call (dvs := []) (E := E0) G hr hg hm hk hb .nil pass0 (pa_cons (pe_var hN hv hd hcd) pt he) hdb he hpl, fun H0 B Hf sd σ H Q sr h => ?_⟩
  unfold eCallE at h
  split at h
  · rename_i z ei
    obtain ⟨v, e1, e2⟩ := sr.imS i _ ei rfl
    refine ⟨v, e1, qt H0 B Hf sd σ H _ sr (Po.bind h fun ds vs Hf1 H1 _ g1 rs h1 => ?_)⟩
    split at h1
    · rename_i d eF
      exact ⟨Hf1, z, ds, v, vs, .im d, by rw [List.append_nil], g1.sub, RepE.mono g1.fz e2, rs, eF, fun v2 Hf' H' g2 rv => h1 v2 Hf' H' g2 rv⟩
    · exact h1.elim
  · exact h.elim
end
end DL

set_option maxHeartbeats 4000000
set_option linter.all false
set_option maxRecDepth 100000

namespace DL
open PySem PySem.Spec PyProof.Rows L2

/-! ### zip of lists and tuples -/
/-- an iterator of a list (false), of a tuple (true) -/
def ItK (t : Bool) (h : Heap) (i l : Addr) (k : Nat) : Prop := ∃ o, h.get? i = some o ∧ o.cls = .type (if t then "tuple_iterator" else "list_iterator") ∧ o.data = .fields #[.ref l, .int k 0]
def SqK (t : Bool) (h : Heap) (l : Addr) (xs : Array Value) : Prop := ∃ o, h.get? l = some o ∧ o.cls = .type (if t then "tuple" else "list") ∧ ∃ n, o.data = .seq xs n
theorem ItK.at {t : Bool} {h h' : Heap} {i l : Addr} {k : Nat} (x : ItK t h i l k) (q : ∀ o, h.get? i = some o → h'.get? i = some o) : ItK t h' i l k := let ⟨o, e, r⟩ := x; ⟨o, q o e, r⟩
theorem SqK.at {t : Bool} {h h' : Heap} {l : Addr} {xs : Array Value} (x : SqK t h l xs) (q : ∀ o, h.get? l = some o → h'.get? l = some o) : SqK t h' l xs := let ⟨o, e, r⟩ := x; ⟨o, q o e, r⟩

section
variable {prog : Program} {w : World} {A : Around} {E : Value → Shared → Prop} {s : Shared}
theorem nextK_item {t : Bool} {it l : Addr} {i : Nat} {xs : Array Value} {x : Value} {Q : Value → Shared → Prop} (hi : ItK t s.heap it l i) (hl : SqK t s.heap l xs) (hx : xs[i]? = some x)
    (hQ : ∀ h', ItK t h' it l (i + 1) → Heap.SameBut it s.heap h' → Q x { s with heap := h' }) : wpAny (model prog w) A (Builtin.SmallTypes.nextOf (.ref it)) Q E s := by
  cases t with
  | false => exact wpAny_nextOf_list_item (show s.heap.IsListIter it l i from hi) (show s.heap.IsList l xs from hl) hx hQ
  | true =>
    obtain ⟨o, ho, hc, hd⟩ := id hi
    obtain ⟨ol, hol, _, nl, hdl⟩ := hl
    have ty : s.TypeIs (.ref it) "tuple_iterator" := ⟨o, ho, hc⟩
    unfold Builtin.SmallTypes.nextOf
    refine wpAny_bind (wpAny_callSpecial?_slot (name := Str.ofString "__next__") ty PyProof.Rows.slot_tupleiter_next (wpAny_call_entry PyProof.Rows.slot_tupleiter_next ty PyProof.Rows.entry_tupleiter_next ?_ (PyProof.Rows.args_tupleiter_next _)))
    refine wpAny_bind (m := field (.ref it) 0) (wpAny_field ho hd (x := .ref l) rfl ?_)
    dsimp only
    rw [if_neg (fun z : (Value.ref l == Value.none) = true => Bool.false_ne_true z)]
    refine wpAny_bind (m := field (.ref it) 1) (wpAny_field ho hd (x := .int i 0) rfl (wpAny_bind (m := seqItems? (.ref l)) (wpAny_seqItems hol hdl ?_)))
    simp only [Int.toNat_natCast, hx]
    refine wpAny_bind (wpAny_setField ho hd (by simp) (wpAny_pure ⟨x, rfl, wpAny_pure (hQ _ ⟨_, Heap.get?_update_self _ ho (Obj.isFreed_of_fields (Obj.data_mapFields hd _)), (Obj.cls_mapFields ..).trans hc, ?_⟩ (Heap.SameBut.update ..))⟩))
    rw [Obj.data_mapFields hd]; simp [rawInt]
theorem nextK_end {t : Bool} {it l : Addr} {i : Nat} {xs : Array Value} {Q : Value → Shared → Prop} (hh : A.handled = none) (hi : ItK t s.heap it l i) (hl : SqK t s.heap l xs) (hx : xs[i]? = none)
    (hE : ∀ h' e, Heap.ExtBut it s.heap h' → (∃ o, h'.get? e = some o ∧ o.cls = .type "StopIteration") → E (.ref e) { s with heap := h' }) : wpAny (model prog w) A (Builtin.SmallTypes.nextOf (.ref it)) Q E s := by
  cases t with
  | false => exact wpAny_nextOf_list_end hh (show s.heap.IsListIter it l i from hi) (show s.heap.IsList l xs from hl) hx hE
  | true =>
    obtain ⟨o, ho, hc, hd⟩ := id hi
    obtain ⟨ol, hol, _, nl, hdl⟩ := hl
    have ty : s.TypeIs (.ref it) "tuple_iterator" := ⟨o, ho, hc⟩
    unfold Builtin.SmallTypes.nextOf
    refine wpAny_bind (wpAny_callSpecial?_slot (name := Str.ofString "__next__") ty PyProof.Rows.slot_tupleiter_next (wpAny_call_entry PyProof.Rows.slot_tupleiter_next ty PyProof.Rows.entry_tupleiter_next ?_ (PyProof.Rows.args_tupleiter_next _)))
    refine wpAny_bind (m := field (.ref it) 0) (wpAny_field ho hd (x := .ref l) rfl ?_)
    dsimp only
    rw [if_neg (fun z : (Value.ref l == Value.none) = true => Bool.false_ne_true z)]
    refine wpAny_bind (m := field (.ref it) 1) (wpAny_field ho hd (x := .int i 0) rfl (wpAny_bind (m := seqItems? (.ref l)) (wpAny_seqItems hol hdl ?_)))
    simp only [Int.toNat_natCast, hx]
    refine wpAny_bind (wpAny_rule (wpAny_bind (wpAny_setField ho hd (by simp) (wpAny_bind (m := newExc (.type "StopIteration") []) ?_))))
    simp only [newExc, newTuple]
    refine wpAny_bind (wpAny_newObj_type (wpAny_bind (m := firstArgMember _ _) (wpAny_of_eq (a := Value.none) (by first | rfl | (simp only [firstArgMember]; rfl)) (wpAny_newObj_type ?_ (by size_fits)))) (by size_fits))
    simp only [raiseNew]
    refine wpAny_bind (wpAny_handled ?_)
    first | rw [show A.in1.handled = none from hh] | rw [hh]
    exact wpAny_bind (wpAny_pure (wpAny_throw (hE _ _ (((Heap.SameBut.update ..).extBut.push _).push _) ⟨_, Heap.get?_push_size _ rfl, rfl⟩)))
theorem iterK {t : Bool} {l : Addr} {xs : Array Value} {Q : Value → Shared → Prop} (hl : SqK t s.heap l xs)
    (hQ : Q (.ref s.heap.objs.size) { s with heap := s.heap.push { cls := .type (if t then "tuple_iterator" else "list_iterator"), data := .fields #[.ref l, .int 0 0] } }) : wpAny (model prog w) A (pyIter (.ref l)) Q E s := by
  cases t with
  | false => exact wpAny_pyIter_list (show s.heap.IsList l xs from hl) hQ
  | true => exact PyProof.Rows.iter_tuple (show IsTup s.heap l xs from hl) hQ
theorem zipK_item {t1 t2 : Bool} {z TI TO i1 i2 l1 l2 : Addr} {k1 k2 : Nat} {xs ys : Array Value} {x y a b : Value} {Q : Value → Shared → Prop} (D : ZipApart z TI TO i1 i2 l1 l2) (yz : IsZip s.heap z TI TO .none) (yI : IsPair s.heap TI (.ref i1) (.ref i2)) (yO : IsPair s.heap TO a b)
    (y1 : ItK t1 s.heap i1 l1 k1) (y2 : ItK t2 s.heap i2 l2 k2) (m1 : SqK t1 s.heap l1 xs) (m2 : SqK t2 s.heap l2 ys) (ex : xs[k1]? = some x) (ey : ys[k2]? = some y)
    (hQ : ∀ h', IsZip h' z TI TO (rawInt s.heap.objs.size) → IsPair h' TO x y → ItK t1 h' i1 l1 (k1 + 1) → ItK t2 h' i2 l2 (k2 + 1) → IsPair h' s.heap.objs.size x y → h'.objs.size = s.heap.objs.size + 1 → (∀ c o, c ≠ z → c ≠ TO → c ≠ i1 → c ≠ i2 → s.heap.get? c = some o → h'.get? c = some o) → Q (.ref s.heap.objs.size) { s with heap := h' }) :
    wpAny (model prog w) A (Builtin.«zip.__next__» ⟨[.ref z], []⟩) (fun fin s' => ∃ v, fin = .done (.ret v) ∧ Q v s') E s := by
  refine wpAny_bind (m := field (.ref z) 2) (wpAny_field yz rfl (x := .bool false) rfl (wpAny_bind (m := field (.ref z) 3) (wpAny_field yz rfl (x := .ref TI) rfl (wpAny_bind (wpAny_seqItems yI rfl ?_)))))
  refine wpAny_bind (m := Builtin.SmallTypes.ownedTupleIsFree (.ref z)) ?_
  unfold Builtin.SmallTypes.ownedTupleIsFree
  refine wpAny_bind (wpAny_field yz rfl (x := .none) rfl (wpAny_pure ?_)); simp only [if_true]
  refine wpAny_bind (wpAny_rule (wpAny_bind (wpAny_field yz rfl (x := .ref TO) rfl (wpAny_bind (wpAny_setField_rec yz (by simp) fun h1 z1 e1 => wpAny_bind ?_)))))
  have z1 : IsZip h1 z TI TO .ellipsis := z1
  simp only [List.zipIdx_cons, List.zipIdx_nil, List.forIn_cons, List.forIn_nil]
  refine wpAny_bind (wpAny_bind (wpAny_onRaise (wpAny_bind (m := Builtin.SmallTypes.nextOf (.ref i1)) (nextK_item (s := { s with heap := h1 }) (y1.at fun o q => e1.extBut _ _ D.i1z q) (m1.at fun o q => e1.extBut _ _ D.l1z q) ex fun h2 n1 e2 => wpAny_pure ?_))))
  have o2 : IsPair h2 TO a b := e2.extBut _ _ D.TOi1 (e1.extBut _ _ D.TOz yO)
  refine wpAny_bind (wpAny_seqItems o2 rfl (wpAny_bind (wpAny_updateSeq_pair o2 fun h3 o3 e3 => wpAny_bind (wpAny_letGo (wpAny_pure ?_)))))
  have o3 : IsPair h3 TO x b := o3
  refine wpAny_bind (wpAny_bind (wpAny_onRaise (wpAny_bind (m := Builtin.SmallTypes.nextOf (.ref i2)) (nextK_item (s := { s with heap := h3 }) (y2.at fun o q => e3.extBut _ _ D.TOi2.symm (e2.extBut _ _ D.i12.symm (e1.extBut _ _ D.i2z q))) (m2.at fun o q => e3.extBut _ _ D.l2TO (e2.extBut _ _ D.l2i1 (e1.extBut _ _ D.l2z q))) ey fun h4 n2 e4 => wpAny_pure ?_))))
  have o4 : IsPair h4 TO x b := e4.extBut _ _ D.TOi2 o3
  refine wpAny_bind (wpAny_seqItems o4 rfl (wpAny_bind (wpAny_updateSeq_pair o4 fun h5 o5 e5 => wpAny_bind (wpAny_letGo (wpAny_pure (wpAny_pure ?_))))))
  have o5 : IsPair h5 TO x y := o5
  refine wpAny_bind (wpAny_seqItems o5 rfl (wpAny_bind (wpAny_newTuple ?_)))
  have sz : h5.objs.size = s.heap.objs.size := by rw [e5.1, e4.1, e3.1, e2.1, e1.1]
  have z5 : IsZip h5 z TI TO .ellipsis := e5.extBut _ _ D.TOz.symm (e4.extBut _ _ D.i2z.symm (e3.extBut _ _ D.TOz.symm (e2.extBut _ _ D.i1z.symm z1)))
  have kk : ∀ c o, c ≠ z → c ≠ TO → c ≠ i1 → c ≠ i2 → s.heap.get? c = some o → h5.get? c = some o := fun c o c1 c2 c3 c4 q => e5.extBut _ _ c2 (e4.extBut _ _ c4 (e3.extBut _ _ c2 (e2.extBut _ _ c3 (e1.extBut _ _ c1 q))))
  have f1 : ItK t1 h5 i1 l1 (k1 + 1) := n1.at fun o q => e5.extBut _ _ D.TOi1.symm (e4.extBut _ _ D.i12 (e3.extBut _ _ D.TOi1.symm q))
  have f2 : ItK t2 h5 i2 l2 (k2 + 1) := n2.at fun o q => e5.extBut _ _ D.TOi2.symm q
  have zl : z < h5.objs.size := Heap.lt_size z5
  refine wpAny_bind (m := Builtin.SmallTypes.ownedTupleHandOut (.ref z) (.ref h5.objs.size)) ?_
  unfold Builtin.SmallTypes.ownedTupleHandOut
  have z6 : IsZip (h5.push { cls := .type "tuple", data := .seq #[x, y] }) z TI TO .ellipsis := Heap.get?_push_of_some _ z5
  refine wpAny_bind (wpAny_setField_rec z6 (by simp) fun h7 z7 e7 => ?_)
  have z7 : IsZip h7 z TI TO (rawInt h5.objs.size) := z7
  refine wpAny_setField_rec z7 (by simp) fun h8 z8 e8 => ?_
  have z8 : IsZip h8 z TI TO (rawInt h5.objs.size) := z8
  have up : ∀ c o, c ≠ z → h5.get? c = some o → h8.get? c = some o := fun c o c1 q => e8.extBut _ _ c1 (e7.extBut _ _ c1 (Heap.get?_push_of_some _ q))
  have nz : h5.objs.size ≠ z := Nat.ne_of_gt zl
  have T8 : IsPair h8 h5.objs.size x y := e8.extBut _ _ nz (e7.extBut _ _ nz (Heap.get?_push_size _ rfl))
  have s8 : h8.objs.size = h5.objs.size + 1 := by rw [e8.1, e7.1, Heap.size_push]
  refine wpAny_pure ⟨_, rfl, ?_⟩
  rw [sz] at z8 T8 s8
  have fin := hQ h8 z8 (up _ _ D.TOz o5) (f1.at fun o q => up _ o D.i1z q) (f2.at fun o q => up _ o D.i2z q) T8 s8 fun c o c1 c2 c3 c4 q => up c o c1 (kk c o c1 c2 c3 c4 q)
  rw [← sz] at fin
  exact fin
theorem zipK_end {t1 t2 : Bool} {z TI TO i1 i2 l1 l2 : Addr} {k1 k2 : Nat} {xs ys : Array Value} {a b : Value} {Q : Fin → Shared → Prop} (hh : A.handled = none) (D : ZipApart z TI TO i1 i2 l1 l2) (yz : IsZip s.heap z TI TO .none) (yI : IsPair s.heap TI (.ref i1) (.ref i2)) (yO : IsPair s.heap TO a b)
    (y1 : ItK t1 s.heap i1 l1 k1) (y2 : ItK t2 s.heap i2 l2 k2) (m1 : SqK t1 s.heap l1 xs) (m2 : SqK t2 s.heap l2 ys) (hend : xs[k1]? = none ∨ ys[k2]? = none)
    (hE : ∀ h' e, (∀ c o, c ≠ z → c ≠ TO → c ≠ i1 → c ≠ i2 → s.heap.get? c = some o → h'.get? c = some o) → (∃ o, h'.get? e = some o ∧ o.cls = .type "StopIteration") → E (.ref e) { s with heap := h' }) :
    wpAny (model prog w) A (Builtin.«zip.__next__» ⟨[.ref z], []⟩) Q E s := by
  refine wpAny_bind (m := field (.ref z) 2) (wpAny_field yz rfl (x := .bool false) rfl (wpAny_bind (m := field (.ref z) 3) (wpAny_field yz rfl (x := .ref TI) rfl (wpAny_bind (wpAny_seqItems yI rfl ?_)))))
  refine wpAny_bind (m := Builtin.SmallTypes.ownedTupleIsFree (.ref z)) ?_
  unfold Builtin.SmallTypes.ownedTupleIsFree
  refine wpAny_bind (wpAny_field yz rfl (x := .none) rfl (wpAny_pure ?_)); simp only [if_true]
  refine wpAny_bind (wpAny_rule (wpAny_bind (wpAny_field yz rfl (x := .ref TO) rfl (wpAny_bind (wpAny_setField_rec yz (by simp) fun h1 z1 e1 => wpAny_bind ?_)))))
  have z1 : IsZip h1 z TI TO .ellipsis := z1
  simp only [List.zipIdx_cons, List.zipIdx_nil, List.forIn_cons, List.forIn_nil]
  refine wpAny_bind (wpAny_bind (wpAny_onRaise (wpAny_bind (m := Builtin.SmallTypes.nextOf (.ref i1)) ?_)))
  have u1 := y1.at (h' := h1) fun o q => e1.extBut _ _ D.i1z q
  have v1 := m1.at (h' := h1) fun o q => e1.extBut _ _ D.l1z q
  cases hx : xs[k1]? with
  | none =>
    refine nextK_end (s := { s with heap := h1 }) hh u1 v1 hx fun h2 e e2 he => ?_
    obtain ⟨oe, q1, q2⟩ := he
    have z2 : IsZip h2 z TI TO .ellipsis := e2 _ _ D.i1z.symm z1
    have nz : e ≠ z := fun r => by subst r; rw [z2] at q1; cases q1; simp at q2
    exact wpAny_setField_rec z2 (by simp) fun h3 _ e3 => hE h3 e (fun c o c1 _ c3 _ r => e3.extBut _ _ c1 (e2 _ _ c3 (e1.extBut _ _ c1 r))) ⟨oe, e3.extBut _ _ nz q1, q2⟩
  | some x =>
    have hy : ys[k2]? = none := by
      rcases hend with q | q
      · rw [hx] at q; cases q
      · exact q
    refine nextK_item (s := { s with heap := h1 }) u1 v1 hx fun h2 n1 e2 => wpAny_pure ?_
    have o2 : IsPair h2 TO a b := e2.extBut _ _ D.TOi1 (e1.extBut _ _ D.TOz yO)
    refine wpAny_bind (wpAny_seqItems o2 rfl (wpAny_bind (wpAny_updateSeq_pair o2 fun h3 o3 e3 => wpAny_bind (wpAny_letGo (wpAny_pure ?_)))))
    refine wpAny_bind (wpAny_bind (wpAny_onRaise (wpAny_bind (m := Builtin.SmallTypes.nextOf (.ref i2)) (nextK_end (s := { s with heap := h3 }) hh (y2.at fun o q => e3.extBut _ _ D.TOi2.symm (e2.extBut _ _ D.i12.symm (e1.extBut _ _ D.i2z q))) (m2.at fun o q => e3.extBut _ _ D.l2TO (e2.extBut _ _ D.l2i1 (e1.extBut _ _ D.l2z q))) hy fun h4 e e4 he => ?_))))
    obtain ⟨oe, q1, q2⟩ := he
    have z4 : IsZip h4 z TI TO .ellipsis := e4 _ _ D.i2z.symm (e3.extBut _ _ D.TOz.symm (e2.extBut _ _ D.i1z.symm z1))
    have nz : e ≠ z := fun r => by subst r; rw [z4] at q1; cases q1; simp at q2
    exact wpAny_setField_rec z4 (by simp) fun h5 _ e5 => hE h5 e (fun c o c1 c2 c3 c4 r => e5.extBut _ _ c1 (e4 _ _ c4 (e3.extBut _ _ c2 (e2.extBut _ _ c3 (e1.extBut _ _ c1 r))))) ⟨oe, e5.extBut _ _ nz q1, q2⟩
theorem nextZ_item {t1 t2 : Bool} {z TI TO i1 i2 l1 l2 : Addr} {k1 k2 : Nat} {xs ys : Array Value} {x y a b : Value} {Q : Option Value → Shared → Prop} (D : ZipApart z TI TO i1 i2 l1 l2) (yz : IsZip s.heap z TI TO .none) (yI : IsPair s.heap TI (.ref i1) (.ref i2)) (yO : IsPair s.heap TO a b)
    (y1 : ItK t1 s.heap i1 l1 k1) (y2 : ItK t2 s.heap i2 l2 k2) (m1 : SqK t1 s.heap l1 xs) (m2 : SqK t2 s.heap l2 ys) (ex : xs[k1]? = some x) (ey : ys[k2]? = some y)
    (hQ : ∀ h', IsZip h' z TI TO (rawInt s.heap.objs.size) → IsPair h' TO x y → ItK t1 h' i1 l1 (k1 + 1) → ItK t2 h' i2 l2 (k2 + 1) → IsPair h' s.heap.objs.size x y → h'.objs.size = s.heap.objs.size + 1 → (∀ c o, c ≠ z → c ≠ TO → c ≠ i1 → c ≠ i2 → s.heap.get? c = some o → h'.get? c = some o) → Q (some (.ref s.heap.objs.size)) { s with heap := h' }) :
    wpAny (model prog w) A (pyNext (.ref z)) Q E s := by
  have ty : s.TypeIs (.ref z) "zip" := ⟨_, yz, rfl⟩
  unfold pyNext
  exact wpAny_bind (wpAny_attempt (wpAny_callSpecial?_slot (name := Str.ofString "__next__") ty F.slot_zip_next (wpAny_call_entry F.slot_zip_next ty F.entry_zip_next
    (zipK_item D yz yI yO y1 y2 m1 m2 ex ey fun h' a1 a2 a3 a4 a5 a6 a7 => wpAny_pure (hQ h' a1 a2 a3 a4 a5 a6 a7)) (F.args_zip_next_1 _))))
theorem nextZ_end {t1 t2 : Bool} {z TI TO i1 i2 l1 l2 : Addr} {k1 k2 : Nat} {xs ys : Array Value} {a b : Value} {Q : Option Value → Shared → Prop} (hh : A.handled = none) (D : ZipApart z TI TO i1 i2 l1 l2) (yz : IsZip s.heap z TI TO .none) (yI : IsPair s.heap TI (.ref i1) (.ref i2)) (yO : IsPair s.heap TO a b)
    (y1 : ItK t1 s.heap i1 l1 k1) (y2 : ItK t2 s.heap i2 l2 k2) (m1 : SqK t1 s.heap l1 xs) (m2 : SqK t2 s.heap l2 ys) (hend : xs[k1]? = none ∨ ys[k2]? = none)
    (hQ : ∀ h', (∀ c o, c ≠ z → c ≠ TO → c ≠ i1 → c ≠ i2 → s.heap.get? c = some o → h'.get? c = some o) → Q none { s with heap := h' }) : wpAny (model prog w) A (pyNext (.ref z)) Q E s := by
  have ty : s.TypeIs (.ref z) "zip" := ⟨_, yz, rfl⟩
  unfold pyNext
  refine wpAny_bind (wpAny_attempt (wpAny_callSpecial?_slot (name := Str.ofString "__next__") ty F.slot_zip_next (wpAny_call_entry F.slot_zip_next ty F.entry_zip_next (zipK_end hh D yz yI yO y1 y2 m1 m2 hend fun h' e hk he => ?_) (F.args_zip_next_1 _))))
  obtain ⟨o, q1, q2⟩ := he
  exact wpAny_bind (wpAny_isInstance (T := "StopIteration") (b := true) ⟨o, q1, q2⟩ isSubtype_stop (wpAny_pure (hQ _ hk)))
abbrev itO (t : Bool) (l : Addr) : Obj := { cls := .type (if t then "tuple_iterator" else "list_iterator"), data := .fields #[.ref l, .int 0 0] }
abbrev zk2 (t1 t2 : Bool) (h : Heap) (l1 l2 : Addr) : Heap := (h.push (itO t1 l1)).push (itO t2 l2)
abbrev zk4 (t1 t2 : Bool) (h : Heap) (l1 l2 : Addr) : Heap := ((zk2 t1 t2 h l1 l2).push { cls := .type "tuple", data := .seq #[.ref h.objs.size, .ref (h.push (itO t1 l1)).objs.size] }).push { cls := .type "tuple", data := .seq #[.none, .none] }
abbrev zk5 (t1 t2 : Bool) (h : Heap) (l1 l2 : Addr) : Heap := (zk4 t1 t2 h l1 l2).push { cls := .type "zip", data := .fields #[.none, .bool false, .bool false, .ref (zk2 t1 t2 h l1 l2).objs.size, .ref ((zk2 t1 t2 h l1 l2).push { cls := .type "tuple", data := .seq #[.ref h.objs.size, .ref (h.push (itO t1 l1)).objs.size] }).objs.size] }
theorem newZ (t1 t2 : Bool) (l1 l2 : Addr) (xs ys : Array Value) : Meets (Builtin.«zip.__new__» ⟨[.type "zip", .ref l1, .ref l2], []⟩) (fun _ R s => SqK t1 s.heap l1 xs ∧ SqK t2 s.heap l2 ys ∧ R (.ok (.ret (.ref (zk4 t1 t2 s.heap l1 l2).objs.size))) { s with heap := zk5 t1 t2 s.heap l1 l2 }) :=
  .of_wp fun prog w A R s h => by
    obtain ⟨hp, g, d, tk, os⟩ := s
    obtain ⟨h1, h2, h⟩ := h
    have sb := sub_zip
    have b1 : SqK t1 (Shared.heap ⟨hp, g, d, tk, os⟩) l1 xs := h1
    have b2 : SqK t2 (Shared.heap ⟨hp.push (itO t1 l1), g, d, tk, os⟩) l2 ys := h2.at fun o q => Heap.get?_push_of_some _ q
    wp_walk using iterK b1, iterK b2
    exact ⟨_, rfl, h⟩
theorem callZ {t1 t2 : Bool} {l1 l2 : Addr} {xs ys : Array Value} {Q : Value → Shared → Prop} (m1 : SqK t1 s.heap l1 xs) (m2 : SqK t2 s.heap l2 ys)
    (h : ∀ h', IsZip h' (s.heap.objs.size + 4) (s.heap.objs.size + 2) (s.heap.objs.size + 3) .none → IsPair h' (s.heap.objs.size + 2) (.ref s.heap.objs.size) (.ref (s.heap.objs.size + 1)) → IsPair h' (s.heap.objs.size + 3) .none .none →
      ItK t1 h' s.heap.objs.size l1 0 → ItK t2 h' (s.heap.objs.size + 1) l2 0 → (∀ c o, s.heap.get? c = some o → h'.get? c = some o) → Q (.ref (s.heap.objs.size + 4)) { s with heap := h' }) : wpAny (model prog w) A (call (.type "zip") [.ref l1, .ref l2]) Q E s := by
  refine callType_new F.called_zip (by decide) (F.typeCall_zip_2 _ _) (F.newCall_zip_2 _ _) (fun obj => F.args_object_init_3 obj _ _) F.entry_zip_new (newZ t1 t2 l1 l2 xs ys) ⟨m1, m2, ?_⟩
  have z1 : (s.heap.push (itO t1 l1)).objs.size = s.heap.objs.size + 1 := Heap.size_push ..
  have z2 : (zk2 t1 t2 s.heap l1 l2).objs.size = s.heap.objs.size + 2 := by rw [Heap.size_push, z1]
  have z3 : ((zk2 t1 t2 s.heap l1 l2).push { cls := .type "tuple", data := .seq #[.ref s.heap.objs.size, .ref (s.heap.push (itO t1 l1)).objs.size] }).objs.size = s.heap.objs.size + 3 := by rw [Heap.size_push, z2]
  have z4 : (zk4 t1 t2 s.heap l1 l2).objs.size = s.heap.objs.size + 4 := by rw [Heap.size_push, z3]
  have g5 : (zk5 t1 t2 s.heap l1 l2).get? (zk4 t1 t2 s.heap l1 l2).objs.size = some _ := Heap.get?_push_size _ rfl
  have g4 : (zk5 t1 t2 s.heap l1 l2).get? ((zk2 t1 t2 s.heap l1 l2).push { cls := .type "tuple", data := .seq #[.ref s.heap.objs.size, .ref (s.heap.push (itO t1 l1)).objs.size] }).objs.size = some { cls := .type "tuple", data := .seq #[.none, .none] } := Heap.get?_push_of_some _ (Heap.get?_push_size _ rfl)
  have g3 : (zk5 t1 t2 s.heap l1 l2).get? (zk2 t1 t2 s.heap l1 l2).objs.size = some { cls := .type "tuple", data := .seq #[.ref s.heap.objs.size, .ref (s.heap.push (itO t1 l1)).objs.size] } := Heap.get?_push_of_some _ (Heap.get?_push_of_some _ (Heap.get?_push_size _ rfl))
  have g2 : (zk5 t1 t2 s.heap l1 l2).get? (s.heap.push (itO t1 l1)).objs.size = some (itO t2 l2) := Heap.get?_push_of_some _ (Heap.get?_push_of_some _ (Heap.get?_push_of_some _ (Heap.get?_push_size _ rfl)))
  have g1 : (zk5 t1 t2 s.heap l1 l2).get? s.heap.objs.size = some (itO t1 l1) := Heap.get?_push_of_some _ (Heap.get?_push_of_some _ (Heap.get?_push_of_some _ (Heap.get?_push_of_some _ (Heap.get?_push_size _ rfl))))
  show _ ∧ _
  rw [z2, z3, z4] at g5
  rw [z1, z2] at g3
  rw [z3] at g4
  rw [z1] at g2
  rw [z4]
  exact ⟨⟨_, g5, rfl⟩, h _ g5 g3 g4 ⟨_, g1, rfl, rfl⟩ ⟨_, g2, rfl, rfl⟩ fun c o q => Heap.get?_push_of_some _ (Heap.get?_push_of_some _ (Heap.get?_push_of_some _ (Heap.get?_push_of_some _ (Heap.get?_push_of_some _ q))))⟩
end
def SqG (t : Bool) (K : PySem.W.Frag) (H : Hp) (a : Addr) (xs : List V) : Prop := if t = true then SqT K H a xs else SqL K H a xs
theorem inv_sqg {X : Cx} {pins : List (Addr × Obj)} {σ : L2.St} {H : Hp} {s : Shared} {t : Bool} {a : Addr} {xs : List V} (I : Inv X pins σ H s) (h : SqG t X.K H a xs) : ∃ its : List Value, Vals xs its ∧ SqK t s.heap a its.toArray := by
  cases t with
  | false =>
    obtain ⟨its, rv, p, _⟩ := I.list (show SqL X.K H a xs from h)
    exact ⟨its, rv, p.isList⟩
  | true =>
    obtain ⟨its, rv, p, _⟩ := I.tuple (show SqT X.K H a xs from h)
    exact ⟨its, rv, p⟩
theorem sqg_inj {X : Cx} {pins : List (Addr × Obj)} {σ : L2.St} {H : Hp} {s : Shared} {t : Bool} {a : Addr} {xs ys : List V} (I : Inv X pins σ H s) (h : SqG t X.K H a xs) (h' : SqG t X.K H a ys) : xs = ys := by
  cases t with
  | false => exact I.list_inj (show SqL X.K H a xs from h) (show SqL X.K H a ys from h')
  | true => exact I.tuple_inj (show SqT X.K H a xs from h) (show SqT X.K H a ys from h')
theorem sqg_same {K : PySem.W.Frag} {H H' : Hp} {t : Bool} {a : Addr} {xs : List V} (e : Same H H') (h : SqG t K H a xs) : SqG t K H' a xs := by
  cases t with
  | false => exact e.seq (show SqL K H a xs from h)
  | true => exact e.seqT (show SqT K H a xs from h)
def ItZ (t1 t2 : Bool) (K : PySem.W.Frag) (a b : Addr) : It :=
  ⟨fun i H => ∃ xs ys x y, SqG t1 K H a xs ∧ SqG t2 K H b ys ∧ xs[i]? = some x ∧ ys[i]? = some y,
   fun i H v H' => ∃ p x y, H p = none ∧ v = .ref p ∧ H' = upd H p (.tup [x, y]) ∧ (∀ xs, SqG t1 K H a xs → xs[i]? = some x) ∧ ∀ ys, SqG t2 K H b ys → ys[i]? = some y,
   fun i H => ∃ xs ys, SqG t1 K H a xs ∧ SqG t2 K H b ys ∧ (xs.length ≤ i ∨ ys.length ≤ i)⟩
abbrev TnG (t1 t2 : Bool) (a b z TI TO i1 i2 : Addr) (i : Nat) (h : Heap) : Prop := IsZip h z TI TO .none ∧ IsPair h TI (.ref i1) (.ref i2) ∧ (∃ p q, IsPair h TO p q) ∧ ItK t1 h i1 a i ∧ ItK t2 h i2 b i ∧ a < z ∧ b < z ∧ a ≠ TO ∧ b ≠ TO ∧ a ≠ i1 ∧ a ≠ i2 ∧ b ≠ i1 ∧ b ≠ i2
theorem turn_zipG {P : Program} {w : World} {K : PySem.W.Frag} {es : List Expr} {k : Nat} {pos : Pos} (t1 t2 : Bool) (a b z TI TO i1 i2 : Addr) (A : ZA z TI TO i1 i2) : Turn P w K (.Tuple es k pos) (ItZ t1 t2 K a b) [z, TI, TO, i1, i2] z (TnG t1 t2 a b z TI TO i1 i2) where
  mem := by simp
  obj := fun i h st c hc => by
    obtain ⟨hz, hTI, ⟨p, q, hTO⟩, ⟨o1, e1, c1, d1⟩, ⟨o2, e2, c2, d2⟩, _⟩ := st
    simp at hc
    rcases hc with rfl | rfl | rfl | rfl | rfl
    · exact ⟨_, hz, fun v z => by cases z⟩
    · exact ⟨_, hTI, fun v z => by cases z⟩
    · exact ⟨_, hTO, fun v z => by cases z⟩
    · exact ⟨o1, e1, fun v z => by rw [d1] at z; cases z⟩
    · exact ⟨o2, e2, fun v z => by rw [d2] at z; cases z⟩
  keep := fun i h h' st kk => by
    obtain ⟨hz, hTI, ⟨p, q, hTO⟩, h1, h2, ap⟩ := st
    exact ⟨kk z (by simp) _ hz, kk TI (by simp) _ hTI, ⟨p, q, kk TO (by simp) _ hTO⟩, h1.at fun o e => kk i1 (by simp) o e, h2.at fun o e => kk i2 (by simp) o e, ap⟩
  item := by
    intro X hP hw hK hc i pins s σ H E I hf st hg
    subst hP hw hK
    obtain ⟨xs, ys, x, y, hq1, hq2, hx, hy⟩ := hg
    obtain ⟨its1, rv1, p1⟩ := inv_sqg I hq1
    obtain ⟨its2, rv2, p2⟩ := inv_sqg I hq2
    obtain ⟨u1, hu1, ru1⟩ := rv1.get hx
    obtain ⟨u2, hu2, ru2⟩ := rv2.get hy
    obtain ⟨hz, hTI, ⟨p, q, hTO⟩, h1, h2, w1, w2, w3, w4, w5, w6, w7, w8⟩ := id st
    have D : ZipApart z TI TO i1 i2 a b := ⟨A.TIz, A.TOz, A.i1z, A.i2z, A.TITO, A.TIi1, A.TIi2, A.TOi1, A.TOi2, A.i12, Nat.ne_of_lt w1, w3, w5, w6, Nat.ne_of_lt w2, w4, w7, w8⟩
    refine nextZ_item D hz hTI hTO h1 h2 p1 p2 (x := u1) (y := u2) (by simpa using hu1) (by simpa using hu2) fun h' a1 a2 a3 a4 a5 a6 a7 => ⟨_, rfl, wpAny_letOwnedTupleGo_zip a1 fun h'' b1 b2 => ?_⟩
    have lt : ∀ {c o}, s.heap.get? c = some o → c ≠ s.heap.objs.size := fun e => Nat.ne_of_lt (Heap.lt_size e)
    have kk : ∀ b u, b ∉ [z, TI, TO, i1, i2] → s.heap.get? b = some u → h''.get? b = some u := fun b u nb q => (b2.2 b (fun z => nb (by simp [z]))).trans (a7 b u (fun z => nb (by simp [z])) (fun z => nb (by simp [z])) (fun z => nb (by simp [z])) (fun z => nb (by simp [z])) q)
    have hT : h''.get? s.heap.objs.size = some { cls := .type "tuple", data := .seq #[u1, u2] } := (b2.2 _ (Ne.symm (lt hz))).trans a5
    refine ⟨.ref s.heap.objs.size, _, I.turnedT (o := .tup [x, y]) (t' := s.toks) hf kk (Nat.le_refl _) ⟨by show 2 ≤ sizeLine; decide, [u1, u2], .cons ru1 (.cons ru2 .nil), ⟨_, hT, rfl, _, rfl⟩⟩, rfl,
      ⟨_, x, y, I.fresh, rfl, rfl, fun zs hy => by rw [sqg_inj I hy hq1]; exact hx, fun zs hy' => by rw [sqg_inj I hy' hq2]; exact hy⟩,
      ⟨b1, (b2.2 TI A.TIz).trans (a7 _ _ A.TIz A.TITO A.TIi1 A.TIi2 hTI), ⟨u1, u2, (b2.2 TO A.TOz).trans a2⟩, a3.at fun o q => (b2.2 i1 A.i1z).trans q, a4.at fun o q => (b2.2 i2 A.i2z).trans q, w1, w2, w3, w4, w5, w6, w7, w8⟩, fun b hb => ?_⟩
    have : b ≠ s.heap.objs.size := by
      obtain ⟨o1, e1, _⟩ := id h1
      obtain ⟨o2, e2, _⟩ := id h2
      have hb' := hb
      simp at hb'
      rcases hb' with rfl | rfl | rfl | rfl | rfl
      · exact lt hz
      · exact lt hTI
      · exact lt hTO
      · exact lt e1
      · exact lt e2
    rw [upd_ne this]; exact (hf b hb).1
  done := by
    intro X hP hw hK hc i pins s σ H E I hf st hg
    subst hP hw hK
    obtain ⟨xs, ys, hq1, hq2, hx⟩ := hg
    obtain ⟨its1, rv1, p1⟩ := inv_sqg I hq1
    obtain ⟨its2, rv2, p2⟩ := inv_sqg I hq2
    have hl1 := rv1.length
    have hl2 := rv2.length
    obtain ⟨hz, hTI, ⟨p, q, hTO⟩, h1, h2, w1, w2, w3, w4, w5, w6, w7, w8⟩ := id st
    have D : ZipApart z TI TO i1 i2 a b := ⟨A.TIz, A.TOz, A.i1z, A.i2z, A.TITO, A.TIi1, A.TIi2, A.TOi1, A.TOi2, A.i12, Nat.ne_of_lt w1, w3, w5, w6, Nat.ne_of_lt w2, w4, w7, w8⟩
    refine nextZ_end (I.ok.hd hc) D hz hTI hTO h1 h2 p1 p2 ?_ fun h' eb => ⟨rfl, I.turnedF (t' := s.toks) hf fun b u nb q => eb b u (fun z => nb (by simp [z])) (fun z => nb (by simp [z])) (fun z => nb (by simp [z])) (fun z => nb (by simp [z])) q⟩
    rcases hx with hx | hx
    · exact .inl (by simp; omega)
    · exact .inr (by simp; omega)
  self := fun _ _ _ _ _ st h => wpAny_pyIter_zip st.1 h


section
variable {X : Cx} {E : XK} {pos p p2 : Pos} {es : List Expr} {k : Nat}
def iZg (t1 t2 : Bool) (K : PySem.W.Frag) (tl : TA) : TI := fun σ H R => tl σ H fun vs H1 => ∃ a b, vs = [.ref a, .ref b] ∧ (∃ xs, SqG t1 K H1 a xs) ∧ (∃ ys, SqG t2 K H1 b ys) ∧ R (ItZ t1 t2 K a b) H1
theorem pi_zipG (t1 t2 : Bool) {l m : Expr} {tl : TA} (hg : Gl X "zip") (hm : X.mg "zip" = none) (hl : PA X [l, m] tl) (hs : starEach [l, m] X.env = [(false, eval l X.env), (false, eval m X.env)] := by rfl) (hs2 : starEach [m] X.env = [(false, eval m X.env)] := by rfl) :
    PI X (.Tuple es k p2) (.Call (.Name "zip" p) [l, m] [] pos) (iZg t1 t2 X.K tl) := by
  intro pins s σ H R I h
  refine Call_ (ld_blt I hg hm boot_zip (PyProof.Rows.callWith_type1 (thn (hl pos pins s σ H _ I h) fun us s1 ⟨vs, H1, I1, r1, q1⟩ => ?_) (by rw [hs, hs2]) (by rw [hs2]; rfl)))
  obtain ⟨a, b, rfl, ⟨xs, hq⟩, ⟨ys, hq2⟩, q⟩ := q1
  obtain ⟨u, w', rfl, rx, ry⟩ := vals2 r1
  cases rx
  cases ry
  obtain ⟨its, rv, pl⟩ := inv_sqg I1 hq
  obtain ⟨its2, rv2, pl2⟩ := inv_sqg I1 hq2
  refine callZ pl pl2 fun h' e1 e2 e3 e4 e5 e7 => wpAny_pyIter_zip e1 ?_
  have I2 : Inv X pins σ H1 { s1 with heap := h' } := I1.kept (t' := s1.toks) e7
  have la : a < s1.heap.objs.size := by obtain ⟨o, z, _⟩ := pl; exact Heap.lt_size z
  have lb : b < s1.heap.objs.size := by obtain ⟨o, z, _⟩ := pl2; exact Heap.lt_size z
  refine ⟨s1.heap.objs.size + 4, [s1.heap.objs.size + 4, s1.heap.objs.size + 2, s1.heap.objs.size + 3, s1.heap.objs.size, s1.heap.objs.size + 1], _, _, H1, rfl, I2, turn_zipG t1 t2 a b (s1.heap.objs.size + 4) (s1.heap.objs.size + 2) (s1.heap.objs.size + 3) s1.heap.objs.size (s1.heap.objs.size + 1) (za5 _),
    ⟨e1, e2, ⟨_, _, e3⟩, e4, e5, Nat.lt_of_lt_of_le la (Nat.le_add_right _ _), Nat.lt_of_lt_of_le lb (Nat.le_add_right _ _), Nat.ne_of_lt (Nat.lt_of_lt_of_le la (Nat.le_add_right _ _)), Nat.ne_of_lt (Nat.lt_of_lt_of_le lb (Nat.le_add_right _ _)), Nat.ne_of_lt la, Nat.ne_of_lt (Nat.lt_succ_of_lt la), Nat.ne_of_lt lb, Nat.ne_of_lt (Nat.lt_succ_of_lt lb)⟩, fun b hb => ?_, q⟩
  have hb : s1.heap.objs.size ≤ b := by simp at hb; rcases hb with rfl | rfl | rfl | rfl | rfl <;> omega
  exact I1.fpOk hb (I1.hok.fresh hb)
theorem itg_ok {t1 t2 : Bool} {K : PySem.W.Frag} {Hf H : Hp} {a b : Addr} {xs ys : List V} {ds es : List D} (h : SqG t1 K Hf a xs) (r : Reps K Hf ds xs) (h' : SqG t2 K Hf b ys) (r' : Reps K Hf es ys) : ItOk K Hf H (zipD ds es) (ItZ t1 t2 K a b) := by
  intro i Hf1 H1 e1 e2
  have h2 := sqg_same e2 (sqg_same e1 h)
  have h3 := sqg_same e2 (sqg_same e1 h')
  rw [zipD_get]
  cases q : ds[i]? with
  | none => exact ⟨xs, ys, h2, h3, .inl (List.getElem?_eq_none_iff.mp (r.none_of q))⟩
  | some d =>
    cases q' : es[i]? with
    | none => exact ⟨xs, ys, h2, h3, .inr (List.getElem?_eq_none_iff.mp (r'.none_of q'))⟩
    | some e =>
      obtain ⟨x, ex, rx⟩ := r.get q
      obtain ⟨y, ey, ry⟩ := r'.get q'
      refine ⟨⟨xs, ys, x, y, h2, h3, ex, ey⟩, fun v H2 hy => ?_⟩
      obtain ⟨p, x', y', hp, rfl, rfl, hall, hall'⟩ := hy
      have ex' := hall xs h2
      rw [ex] at ex'
      cases ex'
      have ey' := hall' ys h3
      rw [ey] at ey'
      cases ey'
      exact ⟨_, Gr.alloc e2 hp _, Gr.tup e2 hp (Reps.cons (rx.mono e1) (Reps.cons (ry.mono e1) Reps.nil))⟩
/-- zip(a tuple, a list) -/
def iZipTL (fs : DSt → M (List D)) (sd : DSt) : M (List D) := (fs sd).bind fun ds => match ds with
  | [.tup xs, .lst ys] => .ok (zipD xs ys)
  | _ => .bad
theorem pid_zipTL {l m : Expr} {fs : DSt → M (List D)} (hg : Gl X "zip") (hm : X.mg "zip" = none) (h : PAd X E [l, m] fs) (hs : starEach [l, m] X.env = [(false, eval l X.env), (false, eval m X.env)] := by rfl) (hs2 : starEach [m] X.env = [(false, eval m X.env)] := by rfl) :
    PId X E (.Tuple es k p2) (.Call (.Name "zip" p) [l, m] [] pos) (iZipTL fs) := by
  obtain ⟨t, pt, q⟩ := h
  refine ⟨_, pi_zipG true false hg hm pt hs hs2, fun H0 B Hf sd σ H R sr h => ?_⟩
  refine q H0 B Hf sd σ H _ sr (Po.bind h fun ds vs Hf1 H1 _ g1 rs h1 => ?_)
  split at h1
  · rename_i xs ys
    obtain ⟨v, w', rfl, rv, rw'⟩ := reps2 rs
    obtain ⟨a, us, rfl, ha, hr⟩ := rep_tupQ rv
    obtain ⟨b, ws, rfl, hb, hr'⟩ := rep_lst.mp rw'
    exact ⟨a, b, rfl, ⟨us, sqg_same (t := true) g1.sub ha⟩, ⟨ws, sqg_same (t := false) g1.sub hb⟩, Po.ret (R := ItOk X.K) g1.sub h1 (itg_ok (t1 := true) (t2 := false) ha hr hb hr')⟩
  · exact h1.elim
end
end DL

set_option maxHeartbeats 4000000
set_option linter.all false
set_option maxRecDepth 100000

namespace DL
open PySem PySem.Spec PyProof.Rows L2

/-! ### a new list times an int -/
theorem reps_app {K : PySem.W.Frag} {H : Hp} {ds : List D} {xs : List V} (r : Reps K H ds xs) : ∀ n : Nat, Reps K H (List.replicate n ds).flatten (List.replicate n xs).flatten
  | 0 => Reps.nil
  | n + 1 => by
    rw [List.replicate_succ, List.replicate_succ, List.flatten_cons, List.flatten_cons]
    exact r.append (reps_app r n)
def eRepF (f : DSt → M (List D)) (fb : DSt → M D) (sd : DSt) : M D := (f sd).bind fun ds => (fb sd).bind fun d => match d with
  | .int k => if decide (0 ≤ k ∧ k ≤ 1000) && decide (ds.length * k.toNat ≤ 100000) then .ok (.lst (List.replicate k.toNat ds).flatten) else .bad
  | _ => .bad
section
variable {X : Cx} {E : XK} {pos : Pos} {a b : Expr}
theorem pd_repF {f : DSt → M (List D)} {fb : DSt → M D} (ha : PFd X E a f) (hb : PEd X E b fb) : PEd X E (.BinOp a .Mult b pos) (eRepF f fb) := by
  obtain ⟨ta, pa, qa⟩ := ha
  obtain ⟨tb, pb, qb⟩ := hb
  refine ⟨_, pe_op op_rep pa pb, fun H0 B Hf sd σ H Q sr h => ?_⟩
  unfold eRepF at h
  refine qa H0 B Hf sd σ H _ sr ?_
  cases ef : f sd with
  | bad => rw [ef] at h; exact h
  | ex x => rw [ef] at h; exact h
  | ok ds =>
    rw [ef] at h
    intro p xs Hf1 H1 g1 z1 z2 z3 z4
    have sr1 := sr.gr g1
    have h1 := Po.weak (K := X.K) (R := rV X.K) g1 h
    refine qb H0 B Hf1 sd σ H1 _ sr1 (Po.bind h1 fun d v Hf2 H2 _ g2 rv h2 => ?_)
    split at h2
    · rename_i k _
      split at h2
      · rename_i hc
        obtain ⟨c1, c2⟩ := Bool.and_eq_true_iff.mp hc
        have c1 := of_decide_eq_true c1
        have c2 := of_decide_eq_true c2
        have hl := z4.length
        have hs := sizeLine_eq
        refine ⟨p, k, xs, rfl, rep_int.mp rv, g2.all _ _ z3, by omega, by omega, by rw [← hl]; omega, fun p2 hp2 => ?_⟩
        exact h2 _ (upd Hf2 p2 _) _ (Gr.alloc g2.sub hp2 _) (rep_lst.mpr ⟨p2, _, rfl, SqL.of upd_same, reps_app ((z4.mono g2.fz).mono (same_upd (g2.sub.free hp2) _)) _⟩)
      · exact h2.elim
    · exact h2.elim
end
end DL

set_option maxHeartbeats 4000000
set_option linter.all false
set_option maxRecDepth 100000

namespace DL
open PySem PySem.Spec PyProof.Rows L2 PySem.W
/-! ### what is asked of the classes, to be decided -/
def xclsB (K : Frag) (C : Addr) : Bool := findIn K (.ref C) "__setattr__" == some (some (.builtin "object.__setattr__")) && findIn K (.ref C) "__getattribute__" == some (some (.builtin "BaseException.__getattribute__")) &&
  findIn K (.ref C) "__getattr__" == some none && hasDictIn K C && (clsIn K C).any (fun cd => exOnly cd.mro)
theorem xcls_of {K : Frag} {C : Addr} (h : xclsB K C = true) : XCls K C := by
  unfold xclsB at h
  simp only [Bool.and_eq_true, beq_iff_eq] at h
  exact ⟨h.1.1.1.1, h.1.1.1.2, h.1.1.2, h.1.2, h.2⟩
def xkitB (K : Frag) (C : Addr) : Bool := findIn K (.ref C) "__class__" == some (some (.builtin "object.__class__")) && specialIn K (.builtin "object.__class__") "__get__" == some (some (.builtin "getset_descriptor.__get__")) &&
  takesIn K (.builtin "object.__class__") == some true && mroIn K C (.type "object") == some true
theorem xkit_of {K : Frag} {C : Addr} (h : xkitB K C = true) : XKit K C := by
  unfold xkitB at h
  simp only [Bool.and_eq_true, beq_iff_eq] at h
  exact ⟨h.1.1.1, h.1.1.2, h.1.2, h.2⟩
def hitsB (K : Frag) (C D : Addr) : Bool := subIn K (.ref C) (.ref D) == some true && subIn K (.ref D) (.type "BaseException") == some true && typeIn K (.ref D) == some (.type "type") && instIn K (.ref D) (.type "type") == some true && instIn K (.ref D) (.type "tuple") == some false
theorem hits_of {K : Frag} {C D : Addr} (h : hitsB K C D = true) : Hits K C D := by
  unfold hitsB at h
  simp only [Bool.and_eq_true, beq_iff_eq] at h
  exact ⟨h.1.1.1.1, h.1.1.1.2, h.1.1.2, h.1.2, h.2⟩
def initOf (K : Frag) (C : Addr) : Option Value := (clsIn K C).bind fun cd => (nsIn K cd.ns "__init__").join
def inCls (s : Stmt) (j : Nat) : Stmt := match s with
  | .ClassDef _ _ _ body _ _ _ _ _ _ _ => body.getD j (.Pass ⟨0, 0, 0, 0⟩)
  | _ => .Pass ⟨0, 0, 0, 0⟩
theorem know_of {K : Frag} {y : Str} {C : Addr} (h1 : nsIn K mainGlobals y = some (some (.ref C))) (h2 : xclsB K C = true) (h3 : xkitB K C = true) : XKnow K y C := ⟨h1, xcls_of h2, xkit_of h3⟩
/-- one class alone may be raised -/
theorem one_of {P : Str → Prop} {y : Str} (h : P y) : ∀ z ∈ [y], P z := fun z hz => by
  have : z = y := by simpa using hz
  rw [this]; exact h
section
variable {X : Cx} {E : XK} {pos p p2 : Pos} {vn : Str}
theorem ptd_isNS (i : Nat) {j} (hN : X.N[i]? = some vn := by rfl) (hv : Vis X.env.scope vn := by first | exact Or.inl rfl | exact Or.inr (Or.inl rfl) | exact Or.inr (Or.inr rfl)) (hd : (vn == ("__debug__" : Str)) = false := by decide) (hcd : (vn == ("__classdict__" : Str)) = false := by decide)
    (hm : behindInMarks .Is (.Constant .none j p2) = false := by rfl) : PTd X E (.Compare (.Name vn p) [.Is] [.Constant .none j p2] pos) (DL.tB (eIsNS i)) := by
  refine ⟨_, pt_cmp (pc_isN (pe_var hN hv hd hcd)) hm, fun H0 B Hf sd σ H Q sr h => ?_⟩
  unfold DL.tB eIsNS at h
  split at h
  · rename_i d ei
    obtain ⟨v, e1, e2⟩ := sr.im i d ei
    exact ⟨v, e1, _, rfl, by rw [rep_isnon e2]; exact Po.ret (R := rQ) sr.sub h rfl⟩
  · rename_i x ei
    obtain ⟨v, e1, a, _, _, _, rfl, _⟩ := sr.imS i _ ei rfl
    exact ⟨.ref a, e1, _, rfl, Po.ret (R := rQ) sr.sub h rfl⟩
  · exact h.elim
theorem ptd_notNS (i : Nat) {j} (hN : X.N[i]? = some vn := by rfl) (hv : Vis X.env.scope vn := by first | exact Or.inl rfl | exact Or.inr (Or.inl rfl) | exact Or.inr (Or.inr rfl)) (hd : (vn == ("__debug__" : Str)) = false := by decide) (hcd : (vn == ("__classdict__" : Str)) = false := by decide)
    (hm : behindInMarks .IsNot (.Constant .none j p2) = false := by rfl) : PTd X E (.Compare (.Name vn p) [.IsNot] [.Constant .none j p2] pos) (DL.tB (eNotNS i)) := by
  refine ⟨_, pt_cmp (pc_notN (pe_var hN hv hd hcd)) hm, fun H0 B Hf sd σ H Q sr h => ?_⟩
  unfold DL.tB eNotNS at h
  split at h
  · rename_i d ei
    obtain ⟨v, e1, e2⟩ := sr.im i d ei
    exact ⟨v, e1, _, rfl, by rw [rep_isnon e2]; exact Po.ret (R := rQ) sr.sub h rfl⟩
  · rename_i x ei
    obtain ⟨v, e1, a, _, _, _, rfl, _⟩ := sr.imS i _ ei rfl
    exact ⟨.ref a, e1, _, rfl, Po.ret (R := rQ) sr.sub h rfl⟩
  · exact h.elim
end
end DL

set_option maxRecDepth 100000
set_option maxHeartbeats 4000000
namespace Law
open PySem L2 DL
def top (i : Nat) : Stmt := PySem.Challenge.pw_selfsight_k08_people.main.body.getD i (.Pass ⟨0, 0, 0, 0⟩)
abbrev s_below : Stmt := top 1
abbrev s_is_between_lines : Stmt := top 12
abbrev s_may_stand : Stmt := top 13
abbrev s_people_in : Stmt := top 14
abbrev s__law_cell : Stmt := top 16
abbrev s__law_numbers : Stmt := top 17
abbrev s__law_gcd : Stmt := top 18
abbrev s__law_lowest : Stmt := top 19
abbrev s__law_only : Stmt := top 20
abbrev s__law_point : Stmt := top 21
abbrev s__law_bent : Stmt := top 22
abbrev s__law_due : Stmt := top 23
abbrev s_law : Stmt := top 24
def anc (c : Str) : List Str := if c == "NoPerson" then ["NoPerson", "SightError", "ValueError"] else []
abbrev sI_NoPerson : Stmt := inCls (top 6) 0
theorem scI_NoPerson : FnScope ["self", "number"] ["self", "number"] (defScope sI_NoPerson) := ⟨rfl, rfl, rfl, by decide +kernel, rfl, by decide +kernel, by decide +kernel⟩
section
variable {P : Program} {w : World} {K : PySem.W.Frag} {mg : Str → Option Value} {base : Heap}
noncomputable def F_below : List D → M S := fnD 2 0
    (sRet (eOp gLt (eOp gTimes (eOp gIx (eVar 0) (eC (.int 0))) (eOp gIx (eVar 1) (eC (.int 1)))) (eOp gTimes (eOp gIx (eVar 1) (eC (.int 0))) (eOp gIx (eVar 0) (eC (.int 1))))))
theorem sc_below : FnScope ["one", "other"] ["one", "other"] (defScope s_below) := ⟨rfl, rfl, rfl, by decide +kernel, rfl, by decide +kernel, by decide +kernel⟩
theorem ok_below {f : Addr} {fd : FuncData} (F : Fun K "below" "below" s_below f fd)  : FnOk P w K mg base CX0 1 f fd ["one", "other"] (spN K F_below) :=
  fn_d F sc_below rfl rfl fun cdv A outer s H E hr =>
    (psd_one (psd_ret (pd_cmp od_lt (pd_op od_times (pd_ix (pd_var 0) pd_int (fun _ _ => rfl)) (pd_ix (pd_var 1) pd_int (fun _ _ => rfl))) (pd_op od_times (pd_ix (pd_var 1) pd_int (fun _ _ => rfl)) (pd_ix (pd_var 0) pd_int (fun _ _ => rfl))) (nomark _))))
noncomputable def F_is_between_lines : List D → M S := fnD 2 0
    (sRet (eAnd (eOp gNe (eOp gIx (eVar 0) (eC (.int 1))) (eC (.int 1))) (eAnd (eCall F_below (aCons (eTup (aCons (eC (.int 0)) (aCons (eC (.int 1)) aNil))) (aCons (eVar 0) aNil))) (eCall F_below (aCons (eVar 0) (aCons (eTup (aCons (eVar 1) (aCons (eC (.int 1)) aNil))) aNil))))))
theorem sc_is_between_lines : FnScope ["number", "last"] ["number", "last"] (defScope s_is_between_lines) := ⟨rfl, rfl, rfl, by decide +kernel, rfl, by decide +kernel, by decide +kernel⟩
theorem ok_is_between_lines {f : Addr} {fd : FuncData} (F : Fun K "is_between_lines" "is_between_lines" s_is_between_lines f fd) {f_below : Addr} {fd_below : FuncData} (G_below : FnOk P w K mg base CX0 1 f_below fd_below ["one", "other"] (spN K F_below)) (b_below : Binds K fd_below ["one", "other"] []) (k_below : PySem.W.keepIn K (.ref f_below) = true) (m_below : mg "below" = some (.ref f_below)) : FnOk P w K mg base CX0 2 f fd ["number", "last"] (spN K F_is_between_lines) :=
  fn_d F sc_is_between_lines rfl rfl fun cdv A outer s H E hr =>
    (psd_one (psd_ret (pd_and (pd_cmp (od_ne hr.units) (pd_ix (pd_var 0) pd_int (fun _ _ => rfl)) pd_int (nomark _)) (pd_and (pd_call G_below (hr.mono (by decide)) m_below k_below b_below (pad_cons (pd_tup (pad_cons pd_int (pad_cons pd_int pad_nil))) (pad_cons (pd_var 0) pad_nil))) (pd_one (pd_call G_below (hr.mono (by decide)) m_below k_below b_below (pad_cons (pd_var 0) (pad_cons (pd_tup (pad_cons (pd_var 1) (pad_cons pd_int pad_nil))) pad_nil))))))))
noncomputable def F_may_stand : List D → M S := fnD 2 0
    (sRet (eAnd (eCall F_is_between_lines (aCons (eOp gIx (eVar 1) (eC (.int 0))) (aCons (eOp gIx (eVar 0) (eC (.int 0))) aNil))) (eCall F_is_between_lines (aCons (eOp gIx (eVar 1) (eC (.int 1))) (aCons (eOp gIx (eVar 0) (eC (.int 1))) aNil)))))
theorem sc_may_stand : FnScope ["hall", "point"] ["hall", "point"] (defScope s_may_stand) := ⟨rfl, rfl, rfl, by decide +kernel, rfl, by decide +kernel, by decide +kernel⟩
theorem ok_may_stand {f : Addr} {fd : FuncData} (F : Fun K "may_stand" "may_stand" s_may_stand f fd) {f_is_between_lines : Addr} {fd_is_between_lines : FuncData} (G_is_between_lines : FnOk P w K mg base CX0 2 f_is_between_lines fd_is_between_lines ["number", "last"] (spN K F_is_between_lines)) (b_is_between_lines : Binds K fd_is_between_lines ["number", "last"] []) (k_is_between_lines : PySem.W.keepIn K (.ref f_is_between_lines) = true) (m_is_between_lines : mg "is_between_lines" = some (.ref f_is_between_lines)) : FnOk P w K mg base CX0 3 f fd ["hall", "point"] (spN K F_may_stand) :=
  fn_d F sc_may_stand rfl rfl fun cdv A outer s H E hr =>
    (psd_one (psd_ret (pd_and (pd_call G_is_between_lines (hr.mono (by decide)) m_is_between_lines k_is_between_lines b_is_between_lines (pad_cons (pd_ix (pd_var 1) pd_int (fun _ _ => rfl)) (pad_cons (pd_ix (pd_var 0) pd_int (fun _ _ => rfl)) pad_nil))) (pd_one (pd_call G_is_between_lines (hr.mono (by decide)) m_is_between_lines k_is_between_lines b_is_between_lines (pad_cons (pd_ix (pd_var 1) pd_int (fun _ _ => rfl)) (pad_cons (pd_ix (pd_var 0) pd_int (fun _ _ => rfl)) pad_nil)))))))
noncomputable def F_people_in : List D → M S := fnD 2 2
    (sSeq (sFor (iEnum (aCons (eVar 1) aNil)) (gTupD 2 (gsCons (gNm 2) (gsCons (gNm 3) gsNil))) (sIf (tO (tN (tB (eCall F_may_stand (aCons (eVar 0) (aCons (eVar 3) aNil))))) (tB (eOp gIn (eVar 3) (eSl (eVar 1) oNone (oSome (eVar 2)))))) (sRaise "NoPerson" "number" (aCons (eVar 2) aNil)) sNil))
      (sRetF (fList (aCons (eVar 1) aNil))))
theorem sc_people_in : FnScope ["hall", "people", "number", "point"] ["hall", "people"] (defScope s_people_in) := ⟨rfl, rfl, rfl, by decide +kernel, rfl, by decide +kernel, by decide +kernel⟩
theorem ok_people_in {f : Addr} {fd : FuncData} (F : Fun K "people_in" "people_in" s_people_in f fd) {f_may_stand : Addr} {fd_may_stand : FuncData} (G_may_stand : FnOk P w K mg base CX0 3 f_may_stand fd_may_stand ["hall", "point"] (spN K F_may_stand)) (b_may_stand : Binds K fd_may_stand ["hall", "point"] []) (k_may_stand : PySem.W.keepIn K (.ref f_may_stand) = true) (m_may_stand : mg "may_stand" = some (.ref f_may_stand)) {C_NoPerson : Addr} (ya_NoPerson : PySem.W.nsIn K mainGlobals "NoPerson" = some (some (.ref C_NoPerson))) (mc_NoPerson : mg "NoPerson" = some (.ref C_NoPerson)) {fI_NoPerson : Addr} {fdI_NoPerson : FuncData} (ye_NoPerson : exInit K C_NoPerson fI_NoPerson = true) (yp_NoPerson : PySem.W.keepIn K (.ref C_NoPerson) = true) (yf_NoPerson : PySem.W.isFn K (.ref fI_NoPerson) = true) (I_NoPerson : FnOk P w K mg base CX0 1 fI_NoPerson fdI_NoPerson ["self", "number"] (spI C_NoPerson "number")) (bI_NoPerson : Binds K fdI_NoPerson ["self", "number"] []) (z_enumerate : mg "enumerate" = none) (z_list : mg "list" = none) : FnOk P w K mg base (CX1 P w) 4 f fd ["hall", "people"] (spX K F_people_in) :=
  fn_x F sc_people_in rfl rfl fun cdv A outer s H E hr =>
    (psd_cons (psd_for PassesOwn.leaving rfl (pid_enum (by rfl) z_enumerate (pad_cons (pd_var 1) pad_nil)) (pgd_tup rfl (pgsd_cons (pgd_name 2 sc_people_in.nd) (pgsd_cons (pgd_name 3 sc_people_in.nd) pgsd_nil))) (psd_one (psd_if ((pwd_or (ptd_not (ptd_val (pd_call G_may_stand (hr.mono (by decide)) m_may_stand k_may_stand b_may_stand (pad_cons (pd_var 0) (pad_cons (pd_var 3) pad_nil))))) (pwd_or1 (ptd_cmp (od_in hr.units) (pd_var 3) (pd_slice (pd_var 1) pod_none (pod_some (pd_var 2))) (by with_unfolding_all rfl))))).pt (psd_one (psd_raise out_fn rfl (xc_of ye_NoPerson) yp_NoPerson yf_NoPerson I_NoPerson (hr.mono (by decide)) bI_NoPerson mc_NoPerson ya_NoPerson (pad_cons (pd_var 2) pad_nil))) psd_nil)))
      (psd_one (psd_retF (pfd_list (by rfl) z_list (by rfl) (pad_cons (pd_var 1) pad_nil)))))
noncomputable def F__law_cell : List D → M S := fnD 2 0
    (sRet (eOp gIx (eOp gPlus (eSl (eVar 0) (oSome (eVar 1)) (oSome (eOp gPlus (eVar 1) (eC (.int 1))))) (eLst (aCons (eC (.int 0)) aNil))) (eC (.int 0))))
theorem sc__law_cell : FnScope ["_law_script", "_law_k"] ["_law_script", "_law_k"] (defScope s__law_cell) := ⟨rfl, rfl, rfl, by decide +kernel, rfl, by decide +kernel, by decide +kernel⟩
theorem ok__law_cell {f : Addr} {fd : FuncData} (F : Fun K "_law_cell" "_law_cell" s__law_cell f fd)  : FnOk P w K mg base CX0 1 f fd ["_law_script", "_law_k"] (spN K F__law_cell) :=
  fn_d F sc__law_cell rfl rfl fun cdv A outer s H E hr =>
    (psd_one (psd_ret (pd_ix (pd_op od_plus (pd_slice (pd_var 0) (pod_some (pd_var 1)) (pod_some (pd_op od_plus (pd_var 1) pd_int))) (pd_lst (pad_cons pd_int pad_nil))) pd_int (fun _ _ => rfl))))
noncomputable def F__law_numbers : List D → M S := fnD 2 4
    (sSeq (sOwn 2 (fLst aNil))
      (sSeq (sSet 3 (eOp gMod (eOp gTimes (eOp gPlus (eOp gMod (eVar 0) (eC (.int 1999999973))) (eC (.int 31))) (eC (.int 765432101))) (eC (.int 1999999973))))
      (sSeq (sSet 4 (eC (.int 0)))
      (sSeq (sIf (tO (tB (eOp gLt (eVar 0) (eC (.int 0)))) (tB (eOp gGe (eVar 0) (eOp gPow (eC (.int 10)) (eC (.int 18)))))) (sSet 4 (eCB bAbs (aCons (eVar 0) aNil))) sNil)
      (sSeq (sFor (iRange1 (aCons (eVar 1) aNil)) (gNm 5) (sSeq (sSet 3 (eOp gMod (eOp gPlus (eOp gPlus (eOp gTimes (eVar 3) (eOp gPlus (eOp gMod (eVar 3) (eC (.int 65521))) (eC (.int 40487)))) (eOp gTimes (eC (.int 7)) (eVar 5))) (eC (.int 5))) (eC (.int 1999999973))))
      (sSeq (sApp 2 (eOp gIx (eLst (aCons (eVar 3) (aCons (eOp gMod (eVar 4) (eC (.int 1000000))) aNil))) (eCB bInt (aCons (eOp gGt (eVar 4) (eC (.int 0))) aNil))))
      (sSet 4 (eOp gFdiv (eVar 4) (eC (.int 1000000)))))))
      (sRetO 2))))))
theorem sc__law_numbers : FnScope ["_law_cell_here", "_law_many", "_law_found", "_law_number", "_law_digits", "_law_k"] ["_law_cell_here", "_law_many"] (defScope s__law_numbers) := ⟨rfl, rfl, rfl, by decide +kernel, rfl, by decide +kernel, by decide +kernel⟩
theorem ok__law_numbers {f : Addr} {fd : FuncData} (F : Fun K "_law_numbers" "_law_numbers" s__law_numbers f fd) (z_abs : mg "abs" = none) (z_range : mg "range" = none) (z_int : mg "int" = none) : FnOk P w K mg base CX0 1 f fd ["_law_cell_here", "_law_many"] (spN K F__law_numbers) :=
  fn_d F sc__law_numbers rfl rfl fun cdv A outer s H E hr =>
    (psd_cons (psd_own 2 sc__law_numbers.nd (pfd_lst pad_nil))
      (psd_cons (psd_set 3 sc__law_numbers.nd (pd_op od_mod (pd_op od_times (pd_op od_plus (pd_op od_mod (pd_var 0) pd_int) pd_int) pd_int) pd_int))
      (psd_cons (psd_set 4 sc__law_numbers.nd pd_int)
      (psd_cons (psd_if ((pwd_or (ptd_cmp od_lt (pd_var 0) pd_int (nomark _)) (pwd_or1 (ptd_cmp od_ge (pd_var 0) (pd_op od_pow pd_int pd_int) (nomark _))))).pt (psd_one (psd_set 4 sc__law_numbers.nd (pd_callB cd_abs (by rfl) z_abs (by rfl) (pad_cons (pd_var 0) pad_nil)))) psd_nil)
      (psd_cons (psd_for PassesOwn.never rfl (pid_range1 (by rfl) z_range (pad_cons (pd_var 1) pad_nil)) (pgd_name 5 sc__law_numbers.nd) (psd_cons (psd_set 3 sc__law_numbers.nd (pd_op od_mod (pd_op od_plus (pd_op od_plus (pd_op od_times (pd_var 3) (pd_op od_plus (pd_op od_mod (pd_var 3) pd_int) pd_int)) (pd_op od_times pd_int (pd_var 5))) pd_int) pd_int))
      (psd_cons (psd_app 2 (pd_ix (pd_lst (pad_cons (pd_var 3) (pad_cons (pd_op od_mod (pd_var 4) pd_int) pad_nil))) (pd_callT cd_int (by rfl) z_int (by rfl) (pad_cons (pd_cmp od_gt (pd_var 4) pd_int (nomark _)) pad_nil)) (fun _ _ => rfl)))
      (psd_one (psd_set 4 sc__law_numbers.nd (pd_op od_fdiv (pd_var 4) pd_int))))))
      (psd_one (psd_retO 2)))))))
noncomputable def F__law_gcd : List D → M S := fnD 2 2
    (sSeq (sAsg (eCB bSorted (aCons (eLst (aCons (eCB bAbs (aCons (eVar 0) aNil)) (aCons (eCB bAbs (aCons (eVar 1) aNil)) aNil))) aNil)) (gTupD 2 (gsCons (gNm 2) (gsCons (gNm 3) gsNil))))
      (sSeq (sWhile (tB (eOp gGt (eVar 2) (eC (.int 0)))) (sPar 2 3 (aCons (eOp gMod (eVar 3) (eVar 2)) (aCons (eVar 2) aNil))))
      (sRet (eVar 3))))
theorem sc__law_gcd : FnScope ["_law_one", "_law_other", "_law_low", "_law_high"] ["_law_one", "_law_other"] (defScope s__law_gcd) := ⟨rfl, rfl, rfl, by decide +kernel, rfl, by decide +kernel, by decide +kernel⟩
theorem ok__law_gcd {f : Addr} {fd : FuncData} (F : Fun K "_law_gcd" "_law_gcd" s__law_gcd f fd) (z_abs : mg "abs" = none) (z_sorted : mg "sorted" = none) : FnOk P w K mg base CX0 1 f fd ["_law_one", "_law_other"] (spN K F__law_gcd) :=
  fn_d F sc__law_gcd rfl rfl fun cdv A outer s H E hr =>
    (psd_cons (psd_asg (pd_callB cd_sorted (by rfl) z_sorted (by rfl) (pad_cons (pd_lst (pad_cons (pd_callB cd_abs (by rfl) z_abs (by rfl) (pad_cons (pd_var 0) pad_nil)) (pad_cons (pd_callB cd_abs (by rfl) z_abs (by rfl) (pad_cons (pd_var 1) pad_nil)) pad_nil))) pad_nil)) (pgd_tup rfl (pgsd_cons (pgd_name 2 sc__law_gcd.nd) (pgsd_cons (pgd_name 3 sc__law_gcd.nd) pgsd_nil))))
      (psd_cons (psd_while PassesOwn.never (ptd_cmp od_gt (pd_var 2) pd_int (nomark _)) (psd_one (psd_par 2 3 rfl sc__law_gcd.nd (pad_cons (pd_op od_mod (pd_var 3) (pd_var 2)) (pad_cons (pd_var 2) pad_nil)) (by rfl))))
      (psd_one (psd_ret (pd_var 3)))))
noncomputable def F__law_lowest : List D → M S := fnD 2 1
    (sSeq (sSet 2 (eCall F__law_gcd (aCons (eVar 0) (aCons (eVar 1) aNil))))
      (sRet (eTup (aCons (eOp gFdiv (eVar 0) (eVar 2)) (aCons (eOp gFdiv (eVar 1) (eVar 2)) aNil)))))
theorem sc__law_lowest : FnScope ["_law_top", "_law_bottom", "_law_common"] ["_law_top", "_law_bottom"] (defScope s__law_lowest) := ⟨rfl, rfl, rfl, by decide +kernel, rfl, by decide +kernel, by decide +kernel⟩
theorem ok__law_lowest {f : Addr} {fd : FuncData} (F : Fun K "_law_lowest" "_law_lowest" s__law_lowest f fd) {f__law_gcd : Addr} {fd__law_gcd : FuncData} (G__law_gcd : FnOk P w K mg base CX0 1 f__law_gcd fd__law_gcd ["_law_one", "_law_other"] (spN K F__law_gcd)) (b__law_gcd : Binds K fd__law_gcd ["_law_one", "_law_other"] []) (k__law_gcd : PySem.W.keepIn K (.ref f__law_gcd) = true) (m__law_gcd : mg "_law_gcd" = some (.ref f__law_gcd)) : FnOk P w K mg base CX0 2 f fd ["_law_top", "_law_bottom"] (spN K F__law_lowest) :=
  fn_d F sc__law_lowest rfl rfl fun cdv A outer s H E hr =>
    (psd_cons (psd_set 2 sc__law_lowest.nd (pd_call G__law_gcd (hr.mono (by decide)) m__law_gcd k__law_gcd b__law_gcd (pad_cons (pd_var 0) (pad_cons (pd_var 1) pad_nil))))
      (psd_one (psd_ret (pd_tup (pad_cons (pd_op od_fdiv (pd_var 0) (pd_var 2)) (pad_cons (pd_op od_fdiv (pd_var 1) (pd_var 2)) pad_nil))))))
noncomputable def F__law_only : XV → List D → M S := fnE 1 1
    (sSeq (sSet 2 (eLst (aCons (eInstX 0 ["NoPerson"] anc "NoHall") (aCons (eInstX 0 ["NoPerson"] anc "NoText") (aCons (eInstX 0 ["NoPerson"] anc "NoPerson") (aCons (eInstX 0 ["NoPerson"] anc "NoHiding") aNil))))))
      (sSeq (sSet 2 (eOp gPlus (eVar 2) (eLst (aCons (eInstX 0 ["NoPerson"] anc "NoRing") (aCons (eInstX 0 ["NoPerson"] anc "NoRow") (aCons (eInstX 0 ["NoPerson"] anc "NoName") aNil))))))
      (sRet (eAnd (eInstX 0 ["NoPerson"] anc "SightError") (eAnd (eInstX 0 ["NoPerson"] anc "ValueError") (eOp gEq (eVar 2) (eNew (fComp (iRange1 (aCons (eC (.int 7)) aNil)) 1 [1] (gNm 0) (eOp gEq (eVar 0) (eVar 1))))))))))
theorem sc__law_only : FnScope ["_law_e", "_law_at", "_law_kinds"] ["_law_e", "_law_at"] (defScope s__law_only) := ⟨rfl, rfl, rfl, by decide +kernel, rfl, by decide +kernel, by decide +kernel⟩
theorem ok__law_only {f : Addr} {fd : FuncData} (F : Fun K "_law_only" "_law_only" s__law_only f fd) {C_NoPerson : Addr} (ya_NoPerson : PySem.W.nsIn K mainGlobals "NoPerson" = some (some (.ref C_NoPerson))) (mc_NoPerson : mg "NoPerson" = some (.ref C_NoPerson)) (kn_NoPerson : XKnow K "NoPerson" C_NoPerson) {C_NoHiding : Addr} (ya_NoHiding : PySem.W.nsIn K mainGlobals "NoHiding" = some (some (.ref C_NoHiding))) (mc_NoHiding : mg "NoHiding" = some (.ref C_NoHiding)) (ko_NoPerson_NoHiding : PySem.W.kitOne K (.ref C_NoPerson) (.ref C_NoHiding) = some ((anc "NoPerson").contains "NoHiding")) (ko_NoPerson_NoPerson : PySem.W.kitOne K (.ref C_NoPerson) (.ref C_NoPerson) = some ((anc "NoPerson").contains "NoPerson")) {C_NoText : Addr} (ya_NoText : PySem.W.nsIn K mainGlobals "NoText" = some (some (.ref C_NoText))) (mc_NoText : mg "NoText" = some (.ref C_NoText)) (ko_NoPerson_NoText : PySem.W.kitOne K (.ref C_NoPerson) (.ref C_NoText) = some ((anc "NoPerson").contains "NoText")) {C_NoHall : Addr} (ya_NoHall : PySem.W.nsIn K mainGlobals "NoHall" = some (some (.ref C_NoHall))) (mc_NoHall : mg "NoHall" = some (.ref C_NoHall)) (ko_NoPerson_NoHall : PySem.W.kitOne K (.ref C_NoPerson) (.ref C_NoHall) = some ((anc "NoPerson").contains "NoHall")) {C_NoName : Addr} (ya_NoName : PySem.W.nsIn K mainGlobals "NoName" = some (some (.ref C_NoName))) (mc_NoName : mg "NoName" = some (.ref C_NoName)) (ko_NoPerson_NoName : PySem.W.kitOne K (.ref C_NoPerson) (.ref C_NoName) = some ((anc "NoPerson").contains "NoName")) {C_NoRow : Addr} (ya_NoRow : PySem.W.nsIn K mainGlobals "NoRow" = some (some (.ref C_NoRow))) (mc_NoRow : mg "NoRow" = some (.ref C_NoRow)) (ko_NoPerson_NoRow : PySem.W.kitOne K (.ref C_NoPerson) (.ref C_NoRow) = some ((anc "NoPerson").contains "NoRow")) {C_NoRing : Addr} (ya_NoRing : PySem.W.nsIn K mainGlobals "NoRing" = some (some (.ref C_NoRing))) (mc_NoRing : mg "NoRing" = some (.ref C_NoRing)) (ko_NoPerson_NoRing : PySem.W.kitOne K (.ref C_NoPerson) (.ref C_NoRing) = some ((anc "NoPerson").contains "NoRing")) {C_SightError : Addr} (ya_SightError : PySem.W.nsIn K mainGlobals "SightError" = some (some (.ref C_SightError))) (mc_SightError : mg "SightError" = some (.ref C_SightError)) (ko_NoPerson_SightError : PySem.W.kitOne K (.ref C_NoPerson) (.ref C_SightError) = some ((anc "NoPerson").contains "SightError")) (ko_NoPerson_ValueError : PySem.W.kitOne K (.ref C_NoPerson) (.type "ValueError") = some ((anc "NoPerson").contains "ValueError")) (z_isinstance : mg "isinstance" = none) (z_ValueError : mg "ValueError" = none) (z_range : mg "range" = none) : FnOk P w K mg base CX0 1 f fd ["_law_e", "_law_at"] (spE K F__law_only) :=
  fn_e F sc__law_only rfl rfl fun cdv A outer s H E hr =>
    (psd_cons (psd_set 2 sc__law_only.nd (pd_lst (pad_cons (pd_instX 0 ["NoPerson"] anc (.inl ⟨_, rfl⟩) (pe_glob (v := .ref _) (by rfl) mc_NoHall rfl) (fun _ _ _ h => h) (one_of ⟨_, kn_NoPerson, ko_NoPerson_NoHall⟩) z_isinstance) (pad_cons (pd_instX 0 ["NoPerson"] anc (.inl ⟨_, rfl⟩) (pe_glob (v := .ref _) (by rfl) mc_NoText rfl) (fun _ _ _ h => h) (one_of ⟨_, kn_NoPerson, ko_NoPerson_NoText⟩) z_isinstance) (pad_cons (pd_instX 0 ["NoPerson"] anc (.inl ⟨_, rfl⟩) (pe_glob (v := .ref _) (by rfl) mc_NoPerson rfl) (fun _ _ _ h => h) (one_of ⟨_, kn_NoPerson, ko_NoPerson_NoPerson⟩) z_isinstance) (pad_cons (pd_instX 0 ["NoPerson"] anc (.inl ⟨_, rfl⟩) (pe_glob (v := .ref _) (by rfl) mc_NoHiding rfl) (fun _ _ _ h => h) (one_of ⟨_, kn_NoPerson, ko_NoPerson_NoHiding⟩) z_isinstance) pad_nil))))))
      (psd_cons (psd_set 2 sc__law_only.nd (pd_op od_plus (pd_var 2) (pd_lst (pad_cons (pd_instX 0 ["NoPerson"] anc (.inl ⟨_, rfl⟩) (pe_glob (v := .ref _) (by rfl) mc_NoRing rfl) (fun _ _ _ h => h) (one_of ⟨_, kn_NoPerson, ko_NoPerson_NoRing⟩) z_isinstance) (pad_cons (pd_instX 0 ["NoPerson"] anc (.inl ⟨_, rfl⟩) (pe_glob (v := .ref _) (by rfl) mc_NoRow rfl) (fun _ _ _ h => h) (one_of ⟨_, kn_NoPerson, ko_NoPerson_NoRow⟩) z_isinstance) (pad_cons (pd_instX 0 ["NoPerson"] anc (.inl ⟨_, rfl⟩) (pe_glob (v := .ref _) (by rfl) mc_NoName rfl) (fun _ _ _ h => h) (one_of ⟨_, kn_NoPerson, ko_NoPerson_NoName⟩) z_isinstance) pad_nil))))))
      (psd_one (psd_ret (pd_and (pd_instX 0 ["NoPerson"] anc (.inl ⟨_, rfl⟩) (pe_glob (v := .ref _) (by rfl) mc_SightError rfl) (fun _ _ _ h => h) (one_of ⟨_, kn_NoPerson, ko_NoPerson_SightError⟩) z_isinstance) (pd_and (pd_instX 0 ["NoPerson"] anc (.inr ⟨_, rfl⟩) (pe_bltn (v := .ty "ValueError") (by rfl) z_ValueError (by rfl) rfl (by decide) (by decide)) (fun _ _ _ h => h) (one_of ⟨_, kn_NoPerson, ko_NoPerson_ValueError⟩) z_isinstance) (pd_one (pd_cmp (od_eq hr.units) (pd_var 2) (pd_new (pfd_comp (Nc := ["_law_k", "_law_at"]) rfl (closure_eq (fun y hy hf => cell_has (capF (sc := defScope s__law_only) (by decide +kernel) y hy hf))) (capN (sc := defScope s__law_only) rfl rfl (by decide +kernel) (capF (by decide +kernel)) (fun y hy hf => cell_has (capF (sc := defScope s__law_only) (by decide +kernel) y hy hf)) rfl (capB_ok (N := ["_law_e", "_law_at", "_law_kinds"]) rfl (by decide +kernel))) rfl (by decide +kernel) (by decide +kernel) (keep_name (by decide)) (pid_range1 (by rfl) z_range (pad_cons pd_int pad_nil)) (fun s3 H3 C ex => pgd_name 0 (show (["_law_k", "_law_at"] : List Str).Nodup by decide +kernel)) (fun s3 H3 C ex => (pd_cmp (od_eq hr.units) (pd_var 0) (pd_var 1) (nomark _))))) (nomark _)))))))))
noncomputable def F__law_point : List D → M S := fnD 3 6
    (sSeq (sOwn 3 (fLst aNil))
      (sSeq (sFor (iSeq (eLst (aCons (eTup (aCons (eOp gIx (eVar 0) (eC (.int 0))) (aCons (eOp gIx (eVar 0) (eC (.int 1))) (aCons (eVar 1) aNil)))) (aCons (eTup (aCons (eOp gIx (eVar 0) (eC (.int 2))) (aCons (eOp gIx (eVar 0) (eC (.int 3))) (aCons (eVar 2) aNil)))) aNil)))) (gTupD 3 (gsCons (gNm 4) (gsCons (gNm 5) (gsCons (gNm 6) gsNil)))) (sSeq (sSet 7 (eOp gPlus (eC (.int 2)) (eOp gMod (eVar 4) (eOp gIx (eLst (aCons (eC (.int 11)) (aCons (eC (.int 999)) aNil))) (eOp gFdiv (eOp gMod (eVar 5) (eC (.int 8))) (eC (.int 7)))))))
      (sSeq (sSet 8 (eOp gPlus (eOp gMod (eOp gFdiv (eVar 5) (eC (.int 8))) (eOp gSub (eOp gTimes (eVar 6) (eVar 7)) (eC (.int 1)))) (eC (.int 1))))
      (sSeq (sIf (tB (eOp gEq (eOp gMod (eVar 8) (eVar 7)) (eC (.int 0)))) (sSet 8 (eOp gSub (eVar 8) (eC (.int 1)))) sNil)
      (sApp 3 (eCall F__law_lowest (aCons (eVar 8) (aCons (eVar 7) aNil))))))))
      (sFrz 3 (sRet (eCB bTuple (aCons (eVar 3) aNil))))))
theorem sc__law_point : FnScope ["_law_xs", "_law_width", "_law_height", "_law_found", "_law_x", "_law_y", "_law_end", "_law_bottom", "_law_top"] ["_law_xs", "_law_width", "_law_height"] (defScope s__law_point) := ⟨rfl, rfl, rfl, by decide +kernel, rfl, by decide +kernel, by decide +kernel⟩
theorem ok__law_point {f : Addr} {fd : FuncData} (F : Fun K "_law_point" "_law_point" s__law_point f fd) {f__law_lowest : Addr} {fd__law_lowest : FuncData} (G__law_lowest : FnOk P w K mg base CX0 2 f__law_lowest fd__law_lowest ["_law_top", "_law_bottom"] (spN K F__law_lowest)) (b__law_lowest : Binds K fd__law_lowest ["_law_top", "_law_bottom"] []) (k__law_lowest : PySem.W.keepIn K (.ref f__law_lowest) = true) (m__law_lowest : mg "_law_lowest" = some (.ref f__law_lowest)) (z_tuple : mg "tuple" = none) : FnOk P w K mg base CX0 3 f fd ["_law_xs", "_law_width", "_law_height"] (spN K F__law_point) :=
  fn_d F sc__law_point rfl rfl fun cdv A outer s H E hr =>
    (psd_cons (psd_own 3 sc__law_point.nd (pfd_lst pad_nil))
      (psd_cons (psd_for PassesOwn.never rfl (pid_seq (pd_lst (pad_cons (pd_tup (pad_cons (pd_ix (pd_var 0) pd_int (fun _ _ => rfl)) (pad_cons (pd_ix (pd_var 0) pd_int (fun _ _ => rfl)) (pad_cons (pd_var 1) pad_nil)))) (pad_cons (pd_tup (pad_cons (pd_ix (pd_var 0) pd_int (fun _ _ => rfl)) (pad_cons (pd_ix (pd_var 0) pd_int (fun _ _ => rfl)) (pad_cons (pd_var 2) pad_nil)))) pad_nil)))) (pgd_tup rfl (pgsd_cons (pgd_name 4 sc__law_point.nd) (pgsd_cons (pgd_name 5 sc__law_point.nd) (pgsd_cons (pgd_name 6 sc__law_point.nd) pgsd_nil)))) (psd_cons (psd_set 7 sc__law_point.nd (pd_op od_plus pd_int (pd_op od_mod (pd_var 4) (pd_ix (pd_lst (pad_cons pd_int (pad_cons pd_int pad_nil))) (pd_op od_fdiv (pd_op od_mod (pd_var 5) pd_int) pd_int) (fun _ _ => rfl)))))
      (psd_cons (psd_set 8 sc__law_point.nd (pd_op od_plus (pd_op od_mod (pd_op od_fdiv (pd_var 5) pd_int) (pd_op od_sub (pd_op od_times (pd_var 6) (pd_var 7)) pd_int)) pd_int))
      (psd_cons (psd_if (ptd_cmp (od_eq hr.units) (pd_op od_mod (pd_var 8) (pd_var 7)) pd_int (nomark _)) (psd_one (psd_set 8 sc__law_point.nd (pd_op od_sub (pd_var 8) pd_int))) psd_nil)
      (psd_one (psd_app 3 (pd_call G__law_lowest (hr.mono (by decide)) m__law_lowest k__law_lowest b__law_lowest (pad_cons (pd_var 8) (pad_cons (pd_var 7) pad_nil)))))))))
      (psd_frz 3 (psd_one (psd_ret (pd_callT cd_tuple (by rfl) z_tuple (by rfl) (pad_cons (pd_var 3) pad_nil)))))))
noncomputable def F__law_bent : List D → M S := fnD 4 6
    (sSeq (sIf (tB (eOp gEq (eVar 0) (eLst aNil))) (sRet (eVar 0)) sNil)
      (sSeq (sSet 4 (eOp gMod (eVar 1) (eCB bLen (aCons (eVar 0) aNil))))
      (sSeq (sAsg (eOp gIx (eVar 0) (eVar 4)) (gTupD 2 (gsCons (gNm 5) (gsCons (gNm 6) gsNil))))
      (sSeq (sSet 7 (eOp gFdiv (eVar 1) (eC (.int 8))))
      (sSeq (sSet 8 (eLst (aCons (eTup (aCons (eTup (aCons (eC (.int 1)) (aCons (eC (.int 1)) aNil))) (aCons (eVar 6) aNil))) (aCons (eTup (aCons (eVar 5) (aCons (eTup (aCons (eC (.int 1)) (aCons (eC (.int 1)) aNil))) aNil))) (aCons (eTup (aCons (eTup (aCons (eC (.int 0)) (aCons (eC (.int 1)) aNil))) (aCons (eVar 6) aNil))) (aCons (eTup (aCons (eVar 5) (aCons (eTup (aCons (eC (.int 0)) (aCons (eC (.int 1)) aNil))) aNil))) (aCons (eTup (aCons (eTup (aCons (eVar 2) (aCons (eC (.int 1)) aNil))) (aCons (eVar 6) aNil))) (aCons (eTup (aCons (eVar 5) (aCons (eTup (aCons (eVar 3) (aCons (eC (.int 1)) aNil))) aNil))) (aCons (eTup (aCons (eTup (aCons (eUn gNeg (eC (.int 1))) (aCons (eC (.int 2)) aNil))) (aCons (eVar 6) aNil))) aNil)))))))))
      (sSeq (sSet 8 (eOp gPlus (eVar 8) (eLst (aCons (eTup (aCons (eVar 5) (aCons (eTup (aCons (eUn gNeg (eC (.int 1))) (aCons (eC (.int 2)) aNil))) aNil))) (aCons (eTup (aCons (eTup (aCons (eOp gPlus (eOp gTimes (eC (.int 2)) (eVar 2)) (eC (.int 1))) (aCons (eC (.int 2)) aNil))) (aCons (eVar 6) aNil))) (aCons (eTup (aCons (eVar 5) (aCons (eTup (aCons (eOp gPlus (eOp gTimes (eC (.int 2)) (eVar 3)) (eC (.int 1))) (aCons (eC (.int 2)) aNil))) aNil))) (aCons (eTup (aCons (eTup (aCons (eC (.int 1)) (aCons (eC (.int 1)) aNil))) (aCons (eTup (aCons (eC (.int 1)) (aCons (eC (.int 1)) aNil))) aNil))) aNil)))))))
      (sSeq (sSet 9 (eOp gIx (eOp gPlus (eVar 8) (eRepF (fLst (aCons (eOp gIx (eVar 0) (eOp gMod (eVar 7) (eOp gPlus (eVar 4) (eC (.int 1))))) aNil)) (eC (.int 3)))) (eOp gMod (eVar 7) (eC (.int 14)))))
      (sRet (eOp gPlus (eOp gPlus (eSl (eVar 0) oNone (oSome (eVar 4))) (eLst (aCons (eVar 9) aNil))) (eSl (eVar 0) (oSome (eOp gPlus (eVar 4) (eC (.int 1)))) oNone))))))))))
theorem sc__law_bent : FnScope ["_law_people", "_law_cell_here", "_law_width", "_law_height", "_law_at", "_law_x", "_law_y", "_law_part", "_law_some", "_law_point_here"] ["_law_people", "_law_cell_here", "_law_width", "_law_height"] (defScope s__law_bent) := ⟨rfl, rfl, rfl, by decide +kernel, rfl, by decide +kernel, by decide +kernel⟩
theorem ok__law_bent {f : Addr} {fd : FuncData} (F : Fun K "_law_bent" "_law_bent" s__law_bent f fd) (z_len : mg "len" = none) : FnOk P w K mg base CX0 1 f fd ["_law_people", "_law_cell_here", "_law_width", "_law_height"] (spN K F__law_bent) :=
  fn_d F sc__law_bent rfl rfl fun cdv A outer s H E hr =>
    (psd_cons (psd_if (ptd_cmp (od_eq hr.units) (pd_var 0) (pd_lst pad_nil) (nomark _)) (psd_one (psd_ret (pd_var 0))) psd_nil)
      (psd_cons (psd_set 4 sc__law_bent.nd (pd_op od_mod (pd_var 1) (pd_callB cd_len (by rfl) z_len (by rfl) (pad_cons (pd_var 0) pad_nil))))
      (psd_cons (psd_asg (pd_ix (pd_var 0) (pd_var 4) (fun _ _ => rfl)) (pgd_tup rfl (pgsd_cons (pgd_name 5 sc__law_bent.nd) (pgsd_cons (pgd_name 6 sc__law_bent.nd) pgsd_nil))))
      (psd_cons (psd_set 7 sc__law_bent.nd (pd_op od_fdiv (pd_var 1) pd_int))
      (psd_cons (psd_set 8 sc__law_bent.nd (pd_lst (pad_cons (pd_tup (pad_cons (pd_tup (pad_cons pd_int (pad_cons pd_int pad_nil))) (pad_cons (pd_var 6) pad_nil))) (pad_cons (pd_tup (pad_cons (pd_var 5) (pad_cons (pd_tup (pad_cons pd_int (pad_cons pd_int pad_nil))) pad_nil))) (pad_cons (pd_tup (pad_cons (pd_tup (pad_cons pd_int (pad_cons pd_int pad_nil))) (pad_cons (pd_var 6) pad_nil))) (pad_cons (pd_tup (pad_cons (pd_var 5) (pad_cons (pd_tup (pad_cons pd_int (pad_cons pd_int pad_nil))) pad_nil))) (pad_cons (pd_tup (pad_cons (pd_tup (pad_cons (pd_var 2) (pad_cons pd_int pad_nil))) (pad_cons (pd_var 6) pad_nil))) (pad_cons (pd_tup (pad_cons (pd_var 5) (pad_cons (pd_tup (pad_cons (pd_var 3) (pad_cons pd_int pad_nil))) pad_nil))) (pad_cons (pd_tup (pad_cons (pd_tup (pad_cons (pd_un ud_neg pd_int) (pad_cons pd_int pad_nil))) (pad_cons (pd_var 6) pad_nil))) pad_nil)))))))))
      (psd_cons (psd_set 8 sc__law_bent.nd (pd_op od_plus (pd_var 8) (pd_lst (pad_cons (pd_tup (pad_cons (pd_var 5) (pad_cons (pd_tup (pad_cons (pd_un ud_neg pd_int) (pad_cons pd_int pad_nil))) pad_nil))) (pad_cons (pd_tup (pad_cons (pd_tup (pad_cons (pd_op od_plus (pd_op od_times pd_int (pd_var 2)) pd_int) (pad_cons pd_int pad_nil))) (pad_cons (pd_var 6) pad_nil))) (pad_cons (pd_tup (pad_cons (pd_var 5) (pad_cons (pd_tup (pad_cons (pd_op od_plus (pd_op od_times pd_int (pd_var 3)) pd_int) (pad_cons pd_int pad_nil))) pad_nil))) (pad_cons (pd_tup (pad_cons (pd_tup (pad_cons pd_int (pad_cons pd_int pad_nil))) (pad_cons (pd_tup (pad_cons pd_int (pad_cons pd_int pad_nil))) pad_nil))) pad_nil)))))))
      (psd_cons (psd_set 9 sc__law_bent.nd (pd_ix (pd_op od_plus (pd_var 8) (pd_repF (pfd_lst (pad_cons (pd_ix (pd_var 0) (pd_op od_mod (pd_var 7) (pd_op od_plus (pd_var 4) pd_int)) (fun _ _ => rfl)) pad_nil)) pd_int)) (pd_op od_mod (pd_var 7) pd_int) (fun _ _ => rfl)))
      (psd_one (psd_ret (pd_op od_plus (pd_op od_plus (pd_slice (pd_var 0) pod_none (pod_some (pd_var 4))) (pd_lst (pad_cons (pd_var 9) pad_nil))) (pd_slice (pd_var 0) (pod_some (pd_op od_plus (pd_var 4) pd_int)) pod_none)))))))))))
noncomputable def F__law_due : List D → M S := fnD 3 3
    (sSeq (sFor (iRange1 (aCons (eCB bLen (aCons (eVar 0) aNil)) aNil)) (gNm 3) (sSeq (sFor (iZipTL (aCons (eOp gIx (eVar 0) (eVar 3)) (aCons (eLst (aCons (eVar 1) (aCons (eVar 2) aNil))) aNil))) (gTupD 2 (gsCons (gNm 4) (gsCons (gNm 5) gsNil))) (sIf (tO (tB (eOp gEq (eOp gIx (eVar 4) (eC (.int 1))) (eC (.int 1)))) (tO (tB (eOp gLe (eOp gIx (eVar 4) (eC (.int 0))) (eC (.int 0)))) (tB (eOp gGe (eOp gIx (eVar 4) (eC (.int 0))) (eOp gTimes (eVar 5) (eOp gIx (eVar 4) (eC (.int 1)))))))) (sRet (eVar 3)) sNil))
      (sIf (tB (eOp gIn (eOp gIx (eVar 0) (eVar 3)) (eSl (eVar 0) oNone (oSome (eVar 3))))) (sRet (eVar 3)) sNil)))
      (sRet (eC .non)))
theorem sc__law_due : FnScope ["_law_people", "_law_width", "_law_height", "_law_k", "_law_part", "_law_end"] ["_law_people", "_law_width", "_law_height"] (defScope s__law_due) := ⟨rfl, rfl, rfl, by decide +kernel, rfl, by decide +kernel, by decide +kernel⟩
theorem ok__law_due {f : Addr} {fd : FuncData} (F : Fun K "_law_due" "_law_due" s__law_due f fd) (z_len : mg "len" = none) (z_range : mg "range" = none) (z_zip : mg "zip" = none) : FnOk P w K mg base CX0 1 f fd ["_law_people", "_law_width", "_law_height"] (spN K F__law_due) :=
  fn_d F sc__law_due rfl rfl fun cdv A outer s H E hr =>
    (psd_cons (psd_for PassesOwn.never rfl (pid_range1 (by rfl) z_range (pad_cons (pd_callB cd_len (by rfl) z_len (by rfl) (pad_cons (pd_var 0) pad_nil)) pad_nil)) (pgd_name 3 sc__law_due.nd) (psd_cons (psd_for PassesOwn.never rfl (pid_zipTL (by rfl) z_zip (pad_cons (pd_ix (pd_var 0) (pd_var 3) (fun _ _ => rfl)) (pad_cons (pd_lst (pad_cons (pd_var 1) (pad_cons (pd_var 2) pad_nil))) pad_nil))) (pgd_tup rfl (pgsd_cons (pgd_name 4 sc__law_due.nd) (pgsd_cons (pgd_name 5 sc__law_due.nd) pgsd_nil))) (psd_one (psd_if ((pwd_or (ptd_cmp (od_eq hr.units) (pd_ix (pd_var 4) pd_int (fun _ _ => rfl)) pd_int (nomark _)) (pwd_or (ptd_cmp od_le (pd_ix (pd_var 4) pd_int (fun _ _ => rfl)) pd_int (nomark _)) (pwd_or1 (ptd_cmp od_ge (pd_ix (pd_var 4) pd_int (fun _ _ => rfl)) (pd_op od_times (pd_var 5) (pd_ix (pd_var 4) pd_int (fun _ _ => rfl))) (nomark _)))))).pt (psd_one (psd_ret (pd_var 3))) psd_nil)))
      (psd_one (psd_if (ptd_cmp (od_in hr.units) (pd_ix (pd_var 0) (pd_var 3) (fun _ _ => rfl)) (pd_slice (pd_var 0) pod_none (pod_some (pd_var 3))) (by with_unfolding_all rfl)) (psd_one (psd_ret (pd_var 3))) psd_nil))))
      (psd_one (psd_ret pd_non)))
noncomputable def F_law : List D → M S := fnD 1 10
    (sSeq (sSet 1 (eOp gPlus (eC (.int 1)) (eOp gMod (eCall F__law_cell (aCons (eVar 0) (aCons (eC (.int 0)) aNil))) (eC (.int 8)))))
      (sSeq (sSet 2 (eOp gPlus (eC (.int 1)) (eOp gMod (eOp gFdiv (eCall F__law_cell (aCons (eVar 0) (aCons (eC (.int 0)) aNil))) (eC (.int 8))) (eC (.int 8)))))
      (sSeq (sOwn 3 (fLst aNil))
      (sSeq (sFor (iSeq (eSl (eVar 0) (oSome (eC (.int 4))) (oSome (eC (.int 12))))) (gNm 4) (sApp 3 (eCall F__law_point (aCons (eCall F__law_numbers (aCons (eVar 4) (aCons (eC (.int 4)) aNil))) (aCons (eVar 1) (aCons (eVar 2) aNil))))))
      (sFrz 3 (sSeq (sFor (iRange1 (aCons (eC (.int 2)) aNil)) (gNm 5) (sIf (tB (eOp gEq (eOp gMod (eOp gFdiv (eCall F__law_cell (aCons (eVar 0) (aCons (eC (.int 1)) aNil))) (eOp gPlus (eC (.int 1)) (eVar 5))) (eC (.int 2))) (eC (.int 1)))) (sSet 3 (eCall F__law_bent (aCons (eVar 3) (aCons (eCall F__law_cell (aCons (eVar 0) (aCons (eOp gPlus (eC (.int 2)) (eVar 5)) aNil))) (aCons (eVar 1) (aCons (eVar 2) aNil)))))) sNil))
      (sSeq (sSet 6 (eCB bList (aCons (eVar 3) aNil)))
      (sSeq (sSet 7 (eC .non))
      (sSeq (sSet 8 (eC .non))
      (sSeq (sTry F_people_in (aCons (eTup (aCons (eVar 1) (aCons (eVar 2) (aCons (eTup aNil) aNil)))) (aCons (eVar 6) aNil)) 7 9 ["NoPerson"] (sMvX 8 9))
      (sSeq (sSet 10 (eCall F__law_due (aCons (eVar 3) (aCons (eVar 1) (aCons (eVar 2) aNil)))))
      (sSeq (sIf (tB (eOp gNe (eVar 6) (eVar 3))) (sRet (eC (.bl false))) sNil)
      (sSeq (sIf (tB (eOp gIsNotN (eVar 10) (eC .non))) (sRet (eAnd (eNotNS 8) (eAnd (eCallE 8 F__law_only (aCons (eC (.int 2)) aNil)) (eOp gEq (eFldX 8 ["NoPerson"] "number") (eVar 10))))) sNil)
      (sSeq (sIf (tView 7 (tO (tB (eNotNS 8)) (tO (tN (tB (eIs "list" (eVar 7)))) (tB (eOp gNe (eVar 7) (eVar 3)))))) (sRet (eC (.bl false))) sNil)
      (sSeq (sApp 7 (eC (.int 0)))
      (sRet (eOp gEq (eVar 6) (eVar 3))))))))))))))))))
theorem sc_law : FnScope ["_law_script", "_law_width", "_law_height", "_law_people", "_law_cell_here", "_law_k", "_law_handed", "_law_found", "_law_refused", "_law_e", "_law_due_here"] ["_law_script"] (defScope s_law) := ⟨rfl, rfl, rfl, by decide +kernel, rfl, by decide +kernel, by decide +kernel⟩
theorem ok_law {f : Addr} {fd : FuncData} (F : Fun K "law" "law" s_law f fd) {f__law_cell : Addr} {fd__law_cell : FuncData} (G__law_cell : FnOk P w K mg base CX0 1 f__law_cell fd__law_cell ["_law_script", "_law_k"] (spN K F__law_cell)) (b__law_cell : Binds K fd__law_cell ["_law_script", "_law_k"] []) (k__law_cell : PySem.W.keepIn K (.ref f__law_cell) = true) (m__law_cell : mg "_law_cell" = some (.ref f__law_cell)) {f__law_point : Addr} {fd__law_point : FuncData} (G__law_point : FnOk P w K mg base CX0 3 f__law_point fd__law_point ["_law_xs", "_law_width", "_law_height"] (spN K F__law_point)) (b__law_point : Binds K fd__law_point ["_law_xs", "_law_width", "_law_height"] []) (k__law_point : PySem.W.keepIn K (.ref f__law_point) = true) (m__law_point : mg "_law_point" = some (.ref f__law_point)) {f__law_numbers : Addr} {fd__law_numbers : FuncData} (G__law_numbers : FnOk P w K mg base CX0 1 f__law_numbers fd__law_numbers ["_law_cell_here", "_law_many"] (spN K F__law_numbers)) (b__law_numbers : Binds K fd__law_numbers ["_law_cell_here", "_law_many"] []) (k__law_numbers : PySem.W.keepIn K (.ref f__law_numbers) = true) (m__law_numbers : mg "_law_numbers" = some (.ref f__law_numbers)) {f__law_bent : Addr} {fd__law_bent : FuncData} (G__law_bent : FnOk P w K mg base CX0 1 f__law_bent fd__law_bent ["_law_people", "_law_cell_here", "_law_width", "_law_height"] (spN K F__law_bent)) (b__law_bent : Binds K fd__law_bent ["_law_people", "_law_cell_here", "_law_width", "_law_height"] []) (k__law_bent : PySem.W.keepIn K (.ref f__law_bent) = true) (m__law_bent : mg "_law_bent" = some (.ref f__law_bent)) {f_people_in : Addr} {fd_people_in : FuncData} (G_people_in : FnOk P w K mg base (CX1 P w) 4 f_people_in fd_people_in ["hall", "people"] (spX K F_people_in)) (b_people_in : Binds K fd_people_in ["hall", "people"] []) (k_people_in : PySem.W.keepIn K (.ref f_people_in) = true) (m_people_in : mg "people_in" = some (.ref f_people_in)) {f__law_due : Addr} {fd__law_due : FuncData} (G__law_due : FnOk P w K mg base CX0 1 f__law_due fd__law_due ["_law_people", "_law_width", "_law_height"] (spN K F__law_due)) (b__law_due : Binds K fd__law_due ["_law_people", "_law_width", "_law_height"] []) (k__law_due : PySem.W.keepIn K (.ref f__law_due) = true) (m__law_due : mg "_law_due" = some (.ref f__law_due)) {f__law_only : Addr} {fd__law_only : FuncData} (G__law_only : FnOk P w K mg base CX0 1 f__law_only fd__law_only ["_law_e", "_law_at"] (spE K F__law_only)) (b__law_only : Binds K fd__law_only ["_law_e", "_law_at"] []) (k__law_only : PySem.W.keepIn K (.ref f__law_only) = true) (m__law_only : mg "_law_only" = some (.ref f__law_only)) {C_NoPerson : Addr} (ya_NoPerson : PySem.W.nsIn K mainGlobals "NoPerson" = some (some (.ref C_NoPerson))) (mc_NoPerson : mg "NoPerson" = some (.ref C_NoPerson)) {C_SightError : Addr} (ya_SightError : PySem.W.nsIn K mainGlobals "SightError" = some (some (.ref C_SightError))) (mc_SightError : mg "SightError" = some (.ref C_SightError)) (hi_NoPerson_SightError : hitsB K C_NoPerson C_SightError = true) (kn_NoPerson : XKnow K "NoPerson" C_NoPerson) (fn_NoPerson_number : NoAttr K C_NoPerson "number") (z_range : mg "range" = none) (z_list : mg "list" = none) (z_isinstance : mg "isinstance" = none) : FnOk P w K mg base CX0 5 f fd ["_law_script"] (spN K F_law) :=
  fn_d F sc_law rfl rfl fun cdv A outer s H E hr =>
    (psd_cons (psd_set 1 sc_law.nd (pd_op od_plus pd_int (pd_op od_mod (pd_call G__law_cell (hr.mono (by decide)) m__law_cell k__law_cell b__law_cell (pad_cons (pd_var 0) (pad_cons pd_int pad_nil))) pd_int)))
      (psd_cons (psd_set 2 sc_law.nd (pd_op od_plus pd_int (pd_op od_mod (pd_op od_fdiv (pd_call G__law_cell (hr.mono (by decide)) m__law_cell k__law_cell b__law_cell (pad_cons (pd_var 0) (pad_cons pd_int pad_nil))) pd_int) pd_int)))
      (psd_cons (psd_own 3 sc_law.nd (pfd_lst pad_nil))
      (psd_cons (psd_for PassesOwn.never rfl (pid_seq (pd_slice (pd_var 0) (pod_some pd_int) (pod_some pd_int))) (pgd_name 4 sc_law.nd) (psd_one (psd_app 3 (pd_call G__law_point (hr.mono (by decide)) m__law_point k__law_point b__law_point (pad_cons (pd_call G__law_numbers (hr.mono (by decide)) m__law_numbers k__law_numbers b__law_numbers (pad_cons (pd_var 4) (pad_cons pd_int pad_nil))) (pad_cons (pd_var 1) (pad_cons (pd_var 2) pad_nil)))))))
      (psd_frz 3 (psd_cons (psd_for PassesOwn.never rfl (pid_range1 (by rfl) z_range (pad_cons pd_int pad_nil)) (pgd_name 5 sc_law.nd) (psd_one (psd_if (ptd_cmp (od_eq hr.units) (pd_op od_mod (pd_op od_fdiv (pd_call G__law_cell (hr.mono (by decide)) m__law_cell k__law_cell b__law_cell (pad_cons (pd_var 0) (pad_cons pd_int pad_nil))) (pd_op od_plus pd_int (pd_var 5))) pd_int) pd_int (nomark _)) (psd_one (psd_set 3 sc_law.nd (pd_call G__law_bent (hr.mono (by decide)) m__law_bent k__law_bent b__law_bent (pad_cons (pd_var 3) (pad_cons (pd_call G__law_cell (hr.mono (by decide)) m__law_cell k__law_cell b__law_cell (pad_cons (pd_var 0) (pad_cons (pd_op od_plus pd_int (pd_var 5)) pad_nil))) (pad_cons (pd_var 1) (pad_cons (pd_var 2) pad_nil))))))) psd_nil)))
      (psd_cons (psd_set 6 sc_law.nd (pd_callT cd_list (by rfl) z_list (by rfl) (pad_cons (pd_var 3) pad_nil)))
      (psd_cons (psd_set 7 sc_law.nd pd_non)
      (psd_cons (psd_set 8 sc_law.nd pd_non)
      (psd_cons (psd_try G_people_in (hr.mono (by decide)) m_people_in k_people_in b_people_in (pad_cons (pd_tup (pad_cons (pd_var 1) (pad_cons (pd_var 2) (pad_cons (pd_tup pad_nil) pad_nil)))) (pad_cons (pd_var 6) pad_nil)) sc_law.nd mc_SightError (one_of ⟨_, ya_NoPerson, hits_of hi_NoPerson_SightError⟩) (fun e => (psd_one (psd_mvX 8 9 sc_law.nd))))
      (psd_cons (psd_set 10 sc_law.nd (pd_call G__law_due (hr.mono (by decide)) m__law_due k__law_due b__law_due (pad_cons (pd_var 3) (pad_cons (pd_var 1) (pad_cons (pd_var 2) pad_nil)))))
      (psd_cons (psd_if (ptd_cmp (od_ne hr.units) (pd_var 6) (pd_var 3) (nomark _)) (psd_one (psd_ret pd_bl)) psd_nil)
      (psd_cons (psd_if (ptd_cmp od_isNotN (pd_var 10) pd_non (nomark _)) (psd_one (psd_ret (pd_and (pd_notNS 8) (pd_and (pd_callE 8 G__law_only (hr.mono (by decide)) m__law_only k__law_only b__law_only (pad_cons pd_int pad_nil)) (pd_one (pd_cmp (od_eq hr.units) (pd_fldX 8 ["NoPerson"] (one_of ⟨_, kn_NoPerson, fn_NoPerson_number⟩)) (pd_var 10) (nomark _))))))) psd_nil)
      (psd_cons (psd_if (ptd_view 7 ((pwd_or (ptd_notNS 8) (pwd_or (ptd_not (ptd_val (pd_isinst "list" (by rfl) z_isinstance z_list (by rfl) (by rfl) (pd_var 7)))) (pwd_or1 (ptd_cmp (od_ne hr.units) (pd_var 7) (pd_var 3) (nomark _)))))).pt) (psd_one (psd_ret pd_bl)) psd_nil)
      (psd_cons (psd_app 7 pd_int)
      (psd_one (psd_ret (pd_cmp (od_eq hr.units) (pd_var 6) (pd_var 3) (nomark _)))))))))))))))))))
end
theorem all_mk {l : PySem.W.OpenLaw} {w : World} {K : PySem.W.Frag} {h : Heap} {mg : Str → Option Value} {fa f0 f1 f2 f3 f4 f5 f6 f7 f8 f9 f10 f11 f12 : Addr} (X : K.In h) (G : h.Ns mainGlobals mg) (hfa : mg "law" = some (.ref fa))
    {od0 an0 od1 an1 od2 an2 od3 an3 od4 an4 od5 an5 od6 an6 od7 an7 od8 an8 od9 an9 od10 an10 od11 an11 od12 an12 : Option Addr} {sl0 sl1 sl2 sl3 sl4 sl5 sl6 sl7 sl8 sl9 sl10 sl11 sl12 : Array (Option Value)} {oc0 kV0 dc0 pm0 cd0 ct0 oc1 kV1 dc1 pm1 cd1 ct1 oc2 kV2 dc2 pm2 cd2 ct2 oc3 kV3 dc3 pm3 cd3 ct3 oc4 kV4 dc4 pm4 cd4 ct4 oc5 kV5 dc5 pm5 cd5 ct5 oc6 kV6 dc6 pm6 cd6 ct6 oc7 kV7 dc7 pm7 cd7 ct7 oc8 kV8 dc8 pm8 cd8 ct8 oc9 kV9 dc9 pm9 cd9 ct9 oc10 kV10 dc10 pm10 cd10 ct10 oc11 kV11 dc11 pm11 cd11 ct11 oc12 kV12 dc12 pm12 cd12 ct12 : Value}
    (a0 : PySem.W.nsIn K mainGlobals "below" = some (some (.ref f0))) (l0 : K.lookup f0 = some ⟨oc0, od0, .func (PySem.W.fnOf "below" "below" (defArgs s_below) (defBody s_below) (defScope s_below) .none kV0 dc0 pm0 an0 cd0 ct0), sl0⟩) (c0 : PySem.W.codeIn K cd0 "below" = true) (k0 : PySem.W.keepIn K (.ref f0) = true)
    (a1 : PySem.W.nsIn K mainGlobals "is_between_lines" = some (some (.ref f1))) (l1 : K.lookup f1 = some ⟨oc1, od1, .func (PySem.W.fnOf "is_between_lines" "is_between_lines" (defArgs s_is_between_lines) (defBody s_is_between_lines) (defScope s_is_between_lines) .none kV1 dc1 pm1 an1 cd1 ct1), sl1⟩) (c1 : PySem.W.codeIn K cd1 "is_between_lines" = true) (k1 : PySem.W.keepIn K (.ref f1) = true)
    (a2 : PySem.W.nsIn K mainGlobals "may_stand" = some (some (.ref f2))) (l2 : K.lookup f2 = some ⟨oc2, od2, .func (PySem.W.fnOf "may_stand" "may_stand" (defArgs s_may_stand) (defBody s_may_stand) (defScope s_may_stand) .none kV2 dc2 pm2 an2 cd2 ct2), sl2⟩) (c2 : PySem.W.codeIn K cd2 "may_stand" = true) (k2 : PySem.W.keepIn K (.ref f2) = true)
    (a3 : PySem.W.nsIn K mainGlobals "people_in" = some (some (.ref f3))) (l3 : K.lookup f3 = some ⟨oc3, od3, .func (PySem.W.fnOf "people_in" "people_in" (defArgs s_people_in) (defBody s_people_in) (defScope s_people_in) .none kV3 dc3 pm3 an3 cd3 ct3), sl3⟩) (c3 : PySem.W.codeIn K cd3 "people_in" = true) (k3 : PySem.W.keepIn K (.ref f3) = true)
    (a4 : PySem.W.nsIn K mainGlobals "_law_cell" = some (some (.ref f4))) (l4 : K.lookup f4 = some ⟨oc4, od4, .func (PySem.W.fnOf "_law_cell" "_law_cell" (defArgs s__law_cell) (defBody s__law_cell) (defScope s__law_cell) .none kV4 dc4 pm4 an4 cd4 ct4), sl4⟩) (c4 : PySem.W.codeIn K cd4 "_law_cell" = true) (k4 : PySem.W.keepIn K (.ref f4) = true)
    (a5 : PySem.W.nsIn K mainGlobals "_law_numbers" = some (some (.ref f5))) (l5 : K.lookup f5 = some ⟨oc5, od5, .func (PySem.W.fnOf "_law_numbers" "_law_numbers" (defArgs s__law_numbers) (defBody s__law_numbers) (defScope s__law_numbers) .none kV5 dc5 pm5 an5 cd5 ct5), sl5⟩) (c5 : PySem.W.codeIn K cd5 "_law_numbers" = true) (k5 : PySem.W.keepIn K (.ref f5) = true)
    (a6 : PySem.W.nsIn K mainGlobals "_law_gcd" = some (some (.ref f6))) (l6 : K.lookup f6 = some ⟨oc6, od6, .func (PySem.W.fnOf "_law_gcd" "_law_gcd" (defArgs s__law_gcd) (defBody s__law_gcd) (defScope s__law_gcd) .none kV6 dc6 pm6 an6 cd6 ct6), sl6⟩) (c6 : PySem.W.codeIn K cd6 "_law_gcd" = true) (k6 : PySem.W.keepIn K (.ref f6) = true)
    (a7 : PySem.W.nsIn K mainGlobals "_law_lowest" = some (some (.ref f7))) (l7 : K.lookup f7 = some ⟨oc7, od7, .func (PySem.W.fnOf "_law_lowest" "_law_lowest" (defArgs s__law_lowest) (defBody s__law_lowest) (defScope s__law_lowest) .none kV7 dc7 pm7 an7 cd7 ct7), sl7⟩) (c7 : PySem.W.codeIn K cd7 "_law_lowest" = true) (k7 : PySem.W.keepIn K (.ref f7) = true)
    (a8 : PySem.W.nsIn K mainGlobals "_law_only" = some (some (.ref f8))) (l8 : K.lookup f8 = some ⟨oc8, od8, .func (PySem.W.fnOf "_law_only" "_law_only" (defArgs s__law_only) (defBody s__law_only) (defScope s__law_only) .none kV8 dc8 pm8 an8 cd8 ct8), sl8⟩) (c8 : PySem.W.codeIn K cd8 "_law_only" = true) (k8 : PySem.W.keepIn K (.ref f8) = true)
    (a9 : PySem.W.nsIn K mainGlobals "_law_point" = some (some (.ref f9))) (l9 : K.lookup f9 = some ⟨oc9, od9, .func (PySem.W.fnOf "_law_point" "_law_point" (defArgs s__law_point) (defBody s__law_point) (defScope s__law_point) .none kV9 dc9 pm9 an9 cd9 ct9), sl9⟩) (c9 : PySem.W.codeIn K cd9 "_law_point" = true) (k9 : PySem.W.keepIn K (.ref f9) = true)
    (a10 : PySem.W.nsIn K mainGlobals "_law_bent" = some (some (.ref f10))) (l10 : K.lookup f10 = some ⟨oc10, od10, .func (PySem.W.fnOf "_law_bent" "_law_bent" (defArgs s__law_bent) (defBody s__law_bent) (defScope s__law_bent) .none kV10 dc10 pm10 an10 cd10 ct10), sl10⟩) (c10 : PySem.W.codeIn K cd10 "_law_bent" = true) (k10 : PySem.W.keepIn K (.ref f10) = true)
    (a11 : PySem.W.nsIn K mainGlobals "_law_due" = some (some (.ref f11))) (l11 : K.lookup f11 = some ⟨oc11, od11, .func (PySem.W.fnOf "_law_due" "_law_due" (defArgs s__law_due) (defBody s__law_due) (defScope s__law_due) .none kV11 dc11 pm11 an11 cd11 ct11), sl11⟩) (c11 : PySem.W.codeIn K cd11 "_law_due" = true) (k11 : PySem.W.keepIn K (.ref f11) = true)
    (a12 : PySem.W.nsIn K mainGlobals "law" = some (some (.ref f12))) (l12 : K.lookup f12 = some ⟨oc12, od12, .func (PySem.W.fnOf "law" "law" (defArgs s_law) (defBody s_law) (defScope s_law) .none kV12 dc12 pm12 an12 cd12 ct12), sl12⟩) (c12 : PySem.W.codeIn K cd12 "law" = true) (k12 : PySem.W.keepIn K (.ref f12) = true)
    {C_NoPerson C_NoHiding C_NoText C_NoHall C_NoName C_NoRow C_NoRing C_SightError : Addr}
    {fI_NoPerson : Addr} {cdd_NoPerson : ClassData} {odI_NoPerson anI_NoPerson : Option Addr} {slI_NoPerson : Array (Option Value)} {ocI_NoPerson kVI_NoPerson dcI_NoPerson pmI_NoPerson cdI_NoPerson ctI_NoPerson : Value}
    (ya_NoPerson : PySem.W.nsIn K mainGlobals "NoPerson" = some (some (.ref C_NoPerson)))
    (ya_NoHiding : PySem.W.nsIn K mainGlobals "NoHiding" = some (some (.ref C_NoHiding)))
    (ya_NoText : PySem.W.nsIn K mainGlobals "NoText" = some (some (.ref C_NoText)))
    (ya_NoHall : PySem.W.nsIn K mainGlobals "NoHall" = some (some (.ref C_NoHall)))
    (ya_NoName : PySem.W.nsIn K mainGlobals "NoName" = some (some (.ref C_NoName)))
    (ya_NoRow : PySem.W.nsIn K mainGlobals "NoRow" = some (some (.ref C_NoRow)))
    (ya_NoRing : PySem.W.nsIn K mainGlobals "NoRing" = some (some (.ref C_NoRing)))
    (ya_SightError : PySem.W.nsIn K mainGlobals "SightError" = some (some (.ref C_SightError)))
    (yd_NoPerson : PySem.W.clsIn K C_NoPerson = some cdd_NoPerson) (yi_NoPerson : PySem.W.nsIn K cdd_NoPerson.ns "__init__" = some (some (.ref fI_NoPerson))) (yl_NoPerson : K.lookup fI_NoPerson = some ⟨ocI_NoPerson, odI_NoPerson, .func (PySem.W.fnOf "__init__" "NoPerson.__init__" (defArgs sI_NoPerson) (defBody sI_NoPerson) (defScope sI_NoPerson) .none kVI_NoPerson dcI_NoPerson pmI_NoPerson anI_NoPerson cdI_NoPerson ctI_NoPerson), slI_NoPerson⟩) (yc_NoPerson : PySem.W.codeIn K cdI_NoPerson "NoPerson.__init__" = true) (yk_NoPerson : PySem.W.keepIn K (.ref fI_NoPerson) = true) (yp_NoPerson : PySem.W.keepIn K (.ref C_NoPerson) = true) (yf_NoPerson : PySem.W.isFn K (.ref fI_NoPerson) = true) (yn_NoPerson_number : PySem.W.findIn K (.ref C_NoPerson) "number" = some none)
    (ye_NoPerson : exInit K C_NoPerson fI_NoPerson = true) (yx_NoPerson : xclsB K C_NoPerson = true) (yt_NoPerson : xkitB K C_NoPerson = true)
    (ko_NoPerson_NoHiding : PySem.W.kitOne K (.ref C_NoPerson) (.ref C_NoHiding) = some ((anc "NoPerson").contains "NoHiding"))
    (ko_NoPerson_NoPerson : PySem.W.kitOne K (.ref C_NoPerson) (.ref C_NoPerson) = some ((anc "NoPerson").contains "NoPerson"))
    (ko_NoPerson_NoText : PySem.W.kitOne K (.ref C_NoPerson) (.ref C_NoText) = some ((anc "NoPerson").contains "NoText"))
    (ko_NoPerson_NoHall : PySem.W.kitOne K (.ref C_NoPerson) (.ref C_NoHall) = some ((anc "NoPerson").contains "NoHall"))
    (ko_NoPerson_NoName : PySem.W.kitOne K (.ref C_NoPerson) (.ref C_NoName) = some ((anc "NoPerson").contains "NoName"))
    (ko_NoPerson_NoRow : PySem.W.kitOne K (.ref C_NoPerson) (.ref C_NoRow) = some ((anc "NoPerson").contains "NoRow"))
    (ko_NoPerson_NoRing : PySem.W.kitOne K (.ref C_NoPerson) (.ref C_NoRing) = some ((anc "NoPerson").contains "NoRing"))
    (ko_NoPerson_SightError : PySem.W.kitOne K (.ref C_NoPerson) (.ref C_SightError) = some ((anc "NoPerson").contains "SightError"))
    (ko_NoPerson_ValueError : PySem.W.kitOne K (.ref C_NoPerson) (.type "ValueError") = some ((anc "NoPerson").contains "ValueError"))
    (hi_NoPerson_SightError : hitsB K C_NoPerson C_SightError = true)
    (z_enumerate : PySem.W.nsIn K mainGlobals "enumerate" = some none)
    (z_list : PySem.W.nsIn K mainGlobals "list" = some none)
    (z_abs : PySem.W.nsIn K mainGlobals "abs" = some none)
    (z_range : PySem.W.nsIn K mainGlobals "range" = some none)
    (z_int : PySem.W.nsIn K mainGlobals "int" = some none)
    (z_sorted : PySem.W.nsIn K mainGlobals "sorted" = some none)
    (z_isinstance : PySem.W.nsIn K mainGlobals "isinstance" = some none)
    (z_ValueError : PySem.W.nsIn K mainGlobals "ValueError" = some none)
    (z_tuple : PySem.W.nsIn K mainGlobals "tuple" = some none)
    (z_len : PySem.W.nsIn K mainGlobals "len" = some none)
    (z_zip : PySem.W.nsIn K mainGlobals "zip" = some none)
    : ∃ fd : FuncData, (∀ (s : Shared) (v : Value), BindsTo s fd ⟨[v], []⟩ [("_law_script", v)]) ∧ ∀ base : Heap, K.In base → base.Ns mainGlobals mg → FnOk l.prog w K mg base CX0 5 fa fd ["_law_script"] (spN K F_law) := by
  have e := hfa.symm.trans (PySem.W.mg_of X G a12)
  cases e
  have F0 := fun_mk (st := s_below) l0 c0 k0
  have b0 := F0.binds (ps := ["one", "other"]) fun _ _ _ _ _ _ us hl => match us, hl with | [_, _], _ => rfl
  have F1 := fun_mk (st := s_is_between_lines) l1 c1 k1
  have b1 := F1.binds (ps := ["number", "last"]) fun _ _ _ _ _ _ us hl => match us, hl with | [_, _], _ => rfl
  have F2 := fun_mk (st := s_may_stand) l2 c2 k2
  have b2 := F2.binds (ps := ["hall", "point"]) fun _ _ _ _ _ _ us hl => match us, hl with | [_, _], _ => rfl
  have F3 := fun_mk (st := s_people_in) l3 c3 k3
  have b3 := F3.binds (ps := ["hall", "people"]) fun _ _ _ _ _ _ us hl => match us, hl with | [_, _], _ => rfl
  have F4 := fun_mk (st := s__law_cell) l4 c4 k4
  have b4 := F4.binds (ps := ["_law_script", "_law_k"]) fun _ _ _ _ _ _ us hl => match us, hl with | [_, _], _ => rfl
  have F5 := fun_mk (st := s__law_numbers) l5 c5 k5
  have b5 := F5.binds (ps := ["_law_cell_here", "_law_many"]) fun _ _ _ _ _ _ us hl => match us, hl with | [_, _], _ => rfl
  have F6 := fun_mk (st := s__law_gcd) l6 c6 k6
  have b6 := F6.binds (ps := ["_law_one", "_law_other"]) fun _ _ _ _ _ _ us hl => match us, hl with | [_, _], _ => rfl
  have F7 := fun_mk (st := s__law_lowest) l7 c7 k7
  have b7 := F7.binds (ps := ["_law_top", "_law_bottom"]) fun _ _ _ _ _ _ us hl => match us, hl with | [_, _], _ => rfl
  have F8 := fun_mk (st := s__law_only) l8 c8 k8
  have b8 := F8.binds (ps := ["_law_e", "_law_at"]) fun _ _ _ _ _ _ us hl => match us, hl with | [_, _], _ => rfl
  have F9 := fun_mk (st := s__law_point) l9 c9 k9
  have b9 := F9.binds (ps := ["_law_xs", "_law_width", "_law_height"]) fun _ _ _ _ _ _ us hl => match us, hl with | [_, _, _], _ => rfl
  have F10 := fun_mk (st := s__law_bent) l10 c10 k10
  have b10 := F10.binds (ps := ["_law_people", "_law_cell_here", "_law_width", "_law_height"]) fun _ _ _ _ _ _ us hl => match us, hl with | [_, _, _, _], _ => rfl
  have F11 := fun_mk (st := s__law_due) l11 c11 k11
  have b11 := F11.binds (ps := ["_law_people", "_law_width", "_law_height"]) fun _ _ _ _ _ _ us hl => match us, hl with | [_, _, _], _ => rfl
  have F12 := fun_mk (st := s_law) l12 c12 k12
  refine ⟨PySem.W.fnOf "law" "law" (defArgs s_law) (defBody s_law) (defScope s_law) .none kV12 dc12 pm12 an12 cd12 ct12, fun s v => .of_eq rfl, fun base _ _ => ?_⟩
  have FI_NoPerson := fun_mk (st := sI_NoPerson) yl_NoPerson yc_NoPerson yk_NoPerson
  have bI_NoPerson := FI_NoPerson.binds (ps := ["self", "number"]) fun _ _ _ _ _ _ us hl => match us, hl with | [_, _], _ => rfl
  have gI_NoPerson := fn_init (P := l.prog) (w := w) (mg := mg) (base := base) FI_NoPerson scI_NoPerson rfl (xcls_of yx_NoPerson) yn_NoPerson_number (.inl rfl) (.inl rfl)
  have g0 := ok_below (P := l.prog) (w := w) (mg := mg) (base := base) F0 
  have g1 := ok_is_between_lines (P := l.prog) (w := w) (mg := mg) (base := base) F1 g0 b0 k0 (PySem.W.mg_of X G a0)
  have g2 := ok_may_stand (P := l.prog) (w := w) (mg := mg) (base := base) F2 g1 b1 k1 (PySem.W.mg_of X G a1)
  have g3 := ok_people_in (P := l.prog) (w := w) (mg := mg) (base := base) F3 g2 b2 k2 (PySem.W.mg_of X G a2) ya_NoPerson (PySem.W.mg_of X G ya_NoPerson) ye_NoPerson yp_NoPerson yf_NoPerson gI_NoPerson bI_NoPerson (PySem.W.mg_none_of X G z_enumerate) (PySem.W.mg_none_of X G z_list)
  have g4 := ok__law_cell (P := l.prog) (w := w) (mg := mg) (base := base) F4 
  have g5 := ok__law_numbers (P := l.prog) (w := w) (mg := mg) (base := base) F5 (PySem.W.mg_none_of X G z_abs) (PySem.W.mg_none_of X G z_range) (PySem.W.mg_none_of X G z_int)
  have g6 := ok__law_gcd (P := l.prog) (w := w) (mg := mg) (base := base) F6 (PySem.W.mg_none_of X G z_abs) (PySem.W.mg_none_of X G z_sorted)
  have g7 := ok__law_lowest (P := l.prog) (w := w) (mg := mg) (base := base) F7 g6 b6 k6 (PySem.W.mg_of X G a6)
  have g8 := ok__law_only (P := l.prog) (w := w) (mg := mg) (base := base) F8 ya_NoPerson (PySem.W.mg_of X G ya_NoPerson) (know_of ya_NoPerson yx_NoPerson yt_NoPerson) ya_NoHiding (PySem.W.mg_of X G ya_NoHiding) ko_NoPerson_NoHiding ko_NoPerson_NoPerson ya_NoText (PySem.W.mg_of X G ya_NoText) ko_NoPerson_NoText ya_NoHall (PySem.W.mg_of X G ya_NoHall) ko_NoPerson_NoHall ya_NoName (PySem.W.mg_of X G ya_NoName) ko_NoPerson_NoName ya_NoRow (PySem.W.mg_of X G ya_NoRow) ko_NoPerson_NoRow ya_NoRing (PySem.W.mg_of X G ya_NoRing) ko_NoPerson_NoRing ya_SightError (PySem.W.mg_of X G ya_SightError) ko_NoPerson_SightError ko_NoPerson_ValueError (PySem.W.mg_none_of X G z_isinstance) (PySem.W.mg_none_of X G z_ValueError) (PySem.W.mg_none_of X G z_range)
  have g9 := ok__law_point (P := l.prog) (w := w) (mg := mg) (base := base) F9 g7 b7 k7 (PySem.W.mg_of X G a7) (PySem.W.mg_none_of X G z_tuple)
  have g10 := ok__law_bent (P := l.prog) (w := w) (mg := mg) (base := base) F10 (PySem.W.mg_none_of X G z_len)
  have g11 := ok__law_due (P := l.prog) (w := w) (mg := mg) (base := base) F11 (PySem.W.mg_none_of X G z_len) (PySem.W.mg_none_of X G z_range) (PySem.W.mg_none_of X G z_zip)
  exact ok_law (P := l.prog) (w := w) (mg := mg) (base := base) F12 g4 b4 k4 (PySem.W.mg_of X G a4) g9 b9 k9 (PySem.W.mg_of X G a9) g5 b5 k5 (PySem.W.mg_of X G a5) g10 b10 k10 (PySem.W.mg_of X G a10) g3 b3 k3 (PySem.W.mg_of X G a3) g11 b11 k11 (PySem.W.mg_of X G a11) g8 b8 k8 (PySem.W.mg_of X G a8) ya_NoPerson (PySem.W.mg_of X G ya_NoPerson) ya_SightError (PySem.W.mg_of X G ya_SightError) hi_NoPerson_SightError (know_of ya_NoPerson yx_NoPerson yt_NoPerson) yn_NoPerson_number (PySem.W.mg_none_of X G z_range) (PySem.W.mg_none_of X G z_list) (PySem.W.mg_none_of X G z_isinstance)
theorem reps_ints {K : PySem.W.Frag} {H : Hp} : ∀ ns : List Int, Reps K H (ns.map D.int) (ns.map V.int)
  | [] => Reps.nil
  | _ :: ns => Reps.cons (rep_int.mpr rfl) (reps_ints ns)
theorem walk {l : PySem.W.OpenLaw} {q : Program} {loose : List Str} {XP : (Str → Option Value) → Heap → Prop} {YP : World → Heap → Prop} {d : DefRec} {K : Params → PySem.W.Frag} (hn : l.most = some 63) (hdf : d.params.defaults = [])
    (hT : ∀ ns : List Int, ns.length ≤ 63 → F_law [.lst (ns.map D.int)] = .ok (.im (.bl true)))
    (hY : ∀ (w : World) (h : Heap), YP w h → (K w.params).In h)
    (F : ∀ (w : World) (mg : Str → Option Value) (fa : Addr) (h : Heap), (K w.params).In h → h.Ns mainGlobals mg → mg d.name = some (.ref fa) →
      ∃ fd : FuncData, (∀ (s : Shared) (u : Value), BindsTo s fd ⟨[u], []⟩ [("_law_script", u)]) ∧ ∀ base : Heap, (K w.params).In base → base.Ns mainGlobals mg → FnOk l.prog w (K w.params) mg base CX0 5 fa fd ["_law_script"] (spN (K w.params) F_law)) :
    PySem.W.WalkO q loose XP YP l.row.toRowW d [] (fun f vs => PySem.call f vs) :=
  L2.walk_of (n := 63) (k := 5) (x := "_law_script") (CX := fun _ => CX0) (sp := fun w => spN (K w.params) F_law) hn (by decide) hdf ⟨rfl, by decide, by decide⟩ hY F
    (fun w H a ns hl _ hS => ⟨H, [.lst (ns.map D.int)], .im (.bl true), Same.refl _, Reps.cons (rep_lst.mpr ⟨a, ns.map V.int, rfl, hS, reps_ints ns⟩) Reps.nil, hT ns hl, fun v Hf' H' _ r => (rep_bl (K := K w.params) (H := Hf')).mp r⟩) fun _ _ _ _ _ z => z
end Law

set_option maxRecDepth 100000
set_option maxHeartbeats 4000000
namespace Law
open PySem L2 DL

/-! ### numbers -/
theorem ten_pow {k : Nat} (h : k ≤ 900) : 10 ^ k < 2 ^ 4000 := by
  have h1 : (10 : Nat) ^ k ≤ 16 ^ k := Nat.pow_le_pow_left (by decide) k
  have h2 : (16 : Nat) ^ k = 2 ^ (4 * k) := by rw [show (16 : Nat) = 2 ^ 4 from rfl, ← Nat.pow_mul]
  have h3 : (2 : Nat) ^ (4 * k) < 2 ^ 4000 := Nat.pow_lt_pow_right (by decide) (by omega)
  omega
theorem sm_of {x : Int} {k : Nat} (h : x.natAbs ≤ 10 ^ k) (hk : k ≤ 900) : sm x = true := sm_iff.mpr (Nat.lt_of_le_of_lt h (ten_pow hk))
theorem mul_le' {x y : Int} {j k : Nat} (hx : x.natAbs ≤ 10 ^ j) (hy : y.natAbs ≤ 10 ^ k) : (x * y).natAbs ≤ 10 ^ (j + k) := by
  rw [Int.natAbs_mul, Nat.pow_add]
  exact Nat.mul_le_mul hx hy
theorem add_le' {x y : Int} {k : Nat} (hx : x.natAbs ≤ 10 ^ k) (hy : y.natAbs ≤ 10 ^ k) : (x + y).natAbs ≤ 10 ^ (k + 1) := by
  have := Int.natAbs_add_le x y
  rw [Nat.pow_succ]
  omega
theorem sub_le' {x y : Int} {k : Nat} (hx : x.natAbs ≤ 10 ^ k) (hy : y.natAbs ≤ 10 ^ k) : (x - y).natAbs ≤ 10 ^ (k + 1) := by
  have := Int.natAbs_sub_le x y
  rw [Nat.pow_succ]
  omega
theorem gTimes_ok {i j : Int} (hi : sm i = true) (hj : sm j = true) : gTimes (.int i) (.int j) = .ok (.int (i * j)) := by
  show (if (sm i && sm j) = true then _ else _) = _
  rw [hi, hj]; rfl
theorem gFdiv_ok {i j : Int} (hj : 0 < j) (hs : sm j = true) : gFdiv (.int i) (.int j) = .ok (.int (i / j)) := by
  show (if (j != 0 && sm j) = true then M.ok (D.int (i.fdiv j)) else _) = _
  have : (j != 0) = true := by simp; omega
  rw [this, hs, Int.fdiv_eq_ediv_of_nonneg i (by omega)]; rfl
theorem gMod_ok {i j : Int} (hj : 0 < j) : gMod (.int i) (.int j) = .ok (.int (i % j)) := by
  show (if (j != 0) = true then M.ok (D.int (i.fmod j)) else _) = _
  have : (j != 0) = true := by simp; omega
  rw [this, Int.fmod_eq_emod_of_nonneg i (by omega)]; rfl


theorem gcd_step {g l : Int} (hg : 0 ≤ g) (hl : 0 < l) : Int.gcd l (g % l) = Int.gcd g l := by
  obtain ⟨g', rfl⟩ := Int.eq_ofNat_of_zero_le hg
  obtain ⟨l', rfl⟩ := Int.eq_ofNat_of_zero_le (Int.le_of_lt hl)
  rw [← Int.natCast_emod]
  simp only [Int.gcd, Int.natAbs_natCast]
  rw [Nat.gcd_comm l', ← Nat.gcd_rec, Nat.gcd_comm]
theorem gcd_zero' {g : Int} (hg : 0 ≤ g) : ((Int.gcd g 0 : Nat) : Int) = g := by
  rw [Int.gcd_zero_right]; omega

/-! ### the law's own divisor -/
theorem loop_lg (x y : Option S) : ∀ (n : Nat) (lo hi : Int), 0 ≤ hi → 0 ≤ lo → lo.toNat < n →
    whileD (DL.tB (eOp gGt (eVar 2) (eC (.int 0)))) (sPar 2 3 (aCons (eOp gMod (eVar 3) (eVar 2)) (aCons (eVar 2) aNil))) n [x, y, some (.im (.int lo)), some (.im (.int hi))] =
      .ok (.nx [x, y, some (.im (.int 0)), some (.im (.int (Int.gcd hi lo : Nat)))])
  | 0, _, _, _, _, h => by omega
  | n + 1, lo, hi, hg, hl, h => by
    by_cases hz : lo = 0
    · subst hz
      simp [whileD, DL.tB, eOp, eVar, eC, gGt, gI0, asB]
      omega
    · have hp : 0 < lo := by omega
      have hm0 : 0 ≤ hi % lo := Int.emod_nonneg hi (by omega)
      have hm1 : hi % lo < lo := Int.emod_lt_of_pos hi hp
      have e := loop_lg x y n (hi % lo) lo hl hm0 (by omega)
      rw [gcd_step hg hp] at e
      rw [← e]
      simp [whileD, DL.tB, eOp, eVar, eC, gGt, gI0, asB, sPar, aCons, aNil, gMod_ok hp, hp]
theorem f_lg (a b : Int) : F__law_gcd [.int a, .int b] = .ok (.im (.int (Int.gcd a b : Nat))) := by
  have ha : (if a < 0 then -a else a) = (a.natAbs : Int) := by split <;> omega
  have hb : (if b < 0 then -b else b) = (b.natAbs : Int) := by split <;> omega
  have key : ∀ lo hi : Int, 0 ≤ lo → 0 ≤ hi → Int.gcd hi lo = Int.gcd a b → sortI [(a.natAbs : Int), (b.natAbs : Int)] = [lo, hi] → F__law_gcd [.int a, .int b] = .ok (.im (.int (Int.gcd a b : Nat))) := fun lo hi h1 h2 h3 h4 => by
    have e := loop_lg (some (.im (.int a))) (some (.im (.int b))) (lo.toNat + 1) lo hi h2 h1 (by omega)
    have e2 := sWhile_eq (c := DL.tB (eOp gGt (eVar 2) (eC (.int 0)))) (f := sPar 2 3 (aCons (eOp gMod (eVar 3) (eVar 2)) (aCons (eVar 2) aNil))) (n := lo.toNat + 1) (sd := [some (.im (.int a)), some (.im (.int b)), some (.im (.int lo)), some (.im (.int hi))]) (by rw [e]; simp)
    rw [e, h3] at e2
    simp [F__law_gcd, fnD, fin', sSeq, sAsg, sRet, eCB, bAbs, bSorted, intsOf, aCons, aNil, eVar, ha, hb, eLst, few, h4, gTupD, gsCons, gsNil, gNm, e2]
  by_cases hc : (a.natAbs : Int) ≤ b.natAbs
  · refine key a.natAbs b.natAbs (by omega) (by omega) ?_ ?_
    · simp [Int.gcd, Nat.gcd_comm]
    · simp only [sortI, insI]; rw [if_pos hc]
  · refine key b.natAbs a.natAbs (by omega) (by omega) ?_ ?_
    · simp [Int.gcd]
    · simp only [sortI, insI]; rw [if_neg hc]

/-! ### lowest terms -/
structure Low (t b p q : Int) : Prop where
  pos : 0 < q
  cop : Int.gcd p q = 1
  eq : p * b = t * q
  pl : p.natAbs ≤ t.natAbs
  ql : q.natAbs ≤ b.natAbs
theorem gcd_pos {t b : Int} (hb : 0 < b) : (0 : Int) < (Int.gcd t b : Nat) := by
  have : 0 < Int.gcd t b := Nat.pos_of_ne_zero fun z => by
    have := (Int.gcd_eq_zero_iff.mp z).2
    omega
  omega
theorem gcd_le {t b : Int} (hb : 0 < b) : ((Int.gcd t b : Nat) : Int).natAbs ≤ b.natAbs := by
  have : ((Int.gcd t b : Nat) : Int) ∣ b := Int.gcd_dvd_right t b
  have := Int.le_of_dvd hb this
  omega
theorem low_of {t b : Int} (hb : 0 < b) : Low t b (t / (Int.gcd t b : Nat)) (b / (Int.gcd t b : Nat)) := by
  have hg := gcd_pos (t := t) hb
  obtain ⟨p, hp⟩ : ((Int.gcd t b : Nat) : Int) ∣ t := Int.gcd_dvd_left t b
  obtain ⟨q, hq⟩ : ((Int.gcd t b : Nat) : Int) ∣ b := Int.gcd_dvd_right t b
  have ep : t / (Int.gcd t b : Nat) = p := by
    conv => lhs; lhs; rw [hp]
    exact Int.mul_ediv_cancel_left p (by omega)
  have eq' : b / (Int.gcd t b : Nat) = q := by
    conv => lhs; lhs; rw [hq]
    exact Int.mul_ediv_cancel_left q (by omega)
  rw [ep, eq']
  have hgN : 0 < Int.gcd t b := by omega
  have hq0 : 0 < q := by
    refine Int.lt_of_mul_lt_mul_left (a := ((Int.gcd t b : Nat) : Int)) ?_ (by omega)
    rw [← hq, Int.mul_zero]; exact hb
  have eg : Int.gcd t b = Int.gcd t b * Int.gcd p q := by
    have e1 := Int.gcd_mul_left ((Int.gcd t b : Nat) : Int) p q
    rw [← hp, ← hq] at e1
    simpa using e1
  refine ⟨hq0, ?_, ?_, ?_, ?_⟩
  · refine Nat.eq_of_mul_eq_mul_left hgN ?_
    rw [Nat.mul_one]; exact eg.symm
  · generalize ((Int.gcd t b : Nat) : Int) = G at hp hq
    rw [hp, hq, ← Int.mul_assoc, Int.mul_comm p G]
  · have : t.natAbs = Int.gcd t b * p.natAbs := by
      conv => lhs; rw [hp]
      rw [Int.natAbs_mul, Int.natAbs_natCast]
    rw [this]; exact Nat.le_mul_of_pos_left _ hgN
  · have : b.natAbs = Int.gcd t b * q.natAbs := by
      conv => lhs; rw [hq]
      rw [Int.natAbs_mul, Int.natAbs_natCast]
    rw [this]; exact Nat.le_mul_of_pos_left _ hgN
theorem f_lowest {t b : Int} {k : Nat} (hb : 0 < b) (hs : b.natAbs ≤ 10 ^ k) (hk : k ≤ 900) : ∃ p q, F__law_lowest [.int t, .int b] = .ok (.im (.tup [.int p, .int q])) ∧ Low t b p q := by
  refine ⟨_, _, ?_, low_of hb⟩
  have h1 := gcd_pos (t := t) hb
  have h2 : sm ((Int.gcd t b : Nat) : Int) = true := sm_of (Nat.le_trans (gcd_le hb) hs) hk
  simp [F__law_lowest, fnD, fin', sSeq, sSet, sRet, eCall, f_lg, S.toD, aCons, aNil, eVar, eTup, eOp, gFdiv_ok h1 h2, few]
theorem atI0 {α : Type} (x : α) (r : List α) : atI (x :: r) 0 = some x := by
  have := atI_nat (xs := x :: r) (j := 0) (v := x) rfl
  exact this
theorem atI1 {α : Type} (x y : α) (r : List α) : atI (x :: y :: r) 1 = some y := by
  have := atI_nat (xs := x :: y :: r) (j := 1) (v := y) rfl
  exact this
theorem f_below {a b c d : Int} (ha' : a.natAbs ≤ 10 ^ 25) (hb' : b.natAbs ≤ 10 ^ 25) (hc' : c.natAbs ≤ 10 ^ 25) (hd' : d.natAbs ≤ 10 ^ 25) :
    F_below [.tup [.int a, .int b], .tup [.int c, .int d]] = .ok (.im (.bl (decide (a * d < c * b)))) := by
  simp [F_below, fnD, fin', sRet, eVar, eC, eOp, gIx, atI0, atI1, gTimes_ok (sm_of ha' (by decide)) (sm_of hd' (by decide)), gTimes_ok (sm_of hc' (by decide)) (sm_of hb' (by decide)), gLt, gI0]
def cz (ns : List Int) (k : Nat) : Int := (ns[k]?).getD 0
theorem f_cell (ns : List Int) (k : Nat) : F__law_cell [.lst (ns.map D.int), .int (k : Int)] = .ok (.im (.int (cz ns k))) := by
  have e1 : (k : Int) + 1 = ((k + 1 : Nat) : Int) := by omega
  have hcut : cutD (ns.map D.int) (some (k : Int)) (some ((k : Int) + 1)) ++ [D.int 0] = D.int (cz ns k) :: (if k < ns.length then [D.int 0] else []) := by
    unfold cutD
    rw [e1, HT.sIx_nat, HT.sIx_nat, List.length_map]
    by_cases hk : k < ns.length
    · rw [Nat.min_eq_left (by omega), Nat.min_eq_left (by omega), if_pos hk, ← List.map_drop, ← List.map_take, List.drop_eq_getElem_cons hk]
      have : k + 1 - k = 1 := by omega
      rw [this, List.take_succ_cons, List.take_zero]
      simp [cz, hk]
    · rw [Nat.min_eq_right (by omega), Nat.min_eq_right (by omega), if_neg hk, Nat.sub_self, List.take_zero]
      have : cz ns k = 0 := by unfold cz; rw [List.getElem?_eq_none (by omega)]; rfl
      rw [this]; rfl
  have hf : few (D.int (cz ns k) :: (if k < ns.length then [D.int 0] else [])) = true := by
    unfold few; split <;> simp
  simp [F__law_cell, fnD, fin', sRet, eVar, eC, eOp, eSl, oSome, gPlus, gSl, eLst, aCons, aNil, hcut, hf, show few [D.int 0] = true from rfl, gIx, atI0]

end Law

set_option maxRecDepth 100000
set_option maxHeartbeats 4000000
set_option linter.unusedSimpArgs false
set_option exponentiation.threshold 5000
namespace Law
open PySem L2 DL
theorem mapD_ok {gt : D → DSt → M DSt} {fe : DSt → M D} {sd0 : DSt} (φ : D → D) : ∀ {ds : List D}, (∀ d ∈ ds, ∃ sd1, gt d sd0 = .ok sd1 ∧ fe sd1 = .ok (φ d)) → mapD gt fe sd0 ds = .ok (ds.map φ)
  | [], _ => rfl
  | d :: ds, h => by
    obtain ⟨sd1, h1, h2⟩ := h d List.mem_cons_self
    simp [mapD, h1, h2, mapD_ok φ fun d hd => h d (List.mem_cons_of_mem _ hd)]
theorem range0 (n : Nat) : rangeD 0 n = (List.range n).map fun (k : Nat) => D.int (k : Int) := by
  unfold rangeD; simp
theorem iR1 {fs : DSt → M (List D)} {sd : DSt} {n : Nat} (h : fs sd = .ok [.int (n : Int)]) (hn : n ≤ 1000) : iRange1 fs sd = .ok ((List.range n).map fun (k : Nat) => D.int (k : Int)) := by
  simp [iRange1, h, range0]
  omega
theorem few_of {ds : List D} (h : ds.length ≤ 1000000) : few ds = true := decide_eq_true h
theorem fn1 (m : Nat) (f : DSt → M O) (a0 : D) : fnD 1 m f [a0] = fin' (f ([some (S.im a0)] ++ List.replicate m none)) := rfl
theorem fn2 (m : Nat) (f : DSt → M O) (a0 a1 : D) : fnD 2 m f [a0, a1] = fin' (f ([some (S.im a0), some (S.im a1)] ++ List.replicate m none)) := rfl
theorem fn3 (m : Nat) (f : DSt → M O) (a0 a1 a2 : D) : fnD 3 m f [a0, a1, a2] = fin' (f ([some (S.im a0), some (S.im a1), some (S.im a2)] ++ List.replicate m none)) := rfl
theorem fn4 (m : Nat) (f : DSt → M O) (a0 a1 a2 a3 : D) : fnD 4 m f [a0, a1, a2, a3] = fin' (f ([some (S.im a0), some (S.im a1), some (S.im a2), some (S.im a3)] ++ List.replicate m none)) := rfl
theorem sSeq_nx {f g : DSt → M O} {sd sd' : DSt} (h : f sd = .ok (.nx sd')) : sSeq f g sd = g sd' := by unfold sSeq; rw [h]; rfl
theorem sSeq_rt {f g : DSt → M O} {sd : DSt} {s : S} (h : f sd = .ok (.rt s)) : sSeq f g sd = .ok (.rt s) := by unfold sSeq; rw [h]; rfl
theorem sFor_ok {fi : DSt → M (List D)} {g : D → DSt → M DSt} {f : DSt → M O} {sd : DSt} {ds : List D} (h : fi sd = .ok ds) : sFor fi g f sd = loopD g f ds sd := by unfold sFor; rw [h]; rfl
theorem go {f g : DSt → M O} {sd sd' : DSt} {r : M O} (h : f sd = .ok (.nx sd')) (k : g sd' = r) : sSeq f g sd = r := (sSeq_nx h).trans k
theorem fin_of {r : M O} {s : S} (h : r = .ok (.rt s)) : fin' r = .ok s := by rw [h]; rfl
theorem own_nil (i : Nat) (sd : DSt) : sOwn i (fLst aNil) sd = .ok (.nx (sd.set i (some (.ow [])))) := by
  unfold sOwn fLst aNil
  rw [M.bind_ok, few_of (Nat.zero_le _), if_pos rfl, M.bind_ok]
theorem p4000 {n : Nat} (h : n ≤ 10 ^ 30) : n < 2 ^ 4000 := by
  have h1 : (10 : Nat) ^ 30 ≤ 16 ^ 30 := Nat.pow_le_pow_left (by decide) 30
  have h2 : (16 : Nat) ^ 30 = 2 ^ 120 := by rw [show (16 : Nat) = 2 ^ 4 from rfl, ← Nat.pow_mul]
  have h3 : (2 : Nat) ^ 120 < 2 ^ 4000 := Nat.pow_lt_pow_right (by decide) (by decide)
  omega
theorem sm30 {x : Int} (h : -1000000000000000000000000000000 ≤ x) (h' : x ≤ 1000000000000000000000000000000) : sm x = true := sm_iff.mpr (p4000 (by have : (10 : Nat) ^ 30 = 1000000000000000000000000000000 := rfl; omega))
theorem gT {i j : Int} (hi : sm i = true) (hj : sm j = true) : gTimes (.int i) (.int j) = .ok (.int (i * j)) := by
  show (if (sm i && sm j) = true then _ else _) = _
  rw [hi, hj]; rfl
theorem gFd {i j : Int} (hj : 0 < j) (hs : sm j = true) : gFdiv (.int i) (.int j) = .ok (.int (i / j)) := by
  show (if (j != 0 && sm j) = true then M.ok (D.int (i.fdiv j)) else _) = _
  have : (j != 0) = true := by simp; omega
  rw [this, hs, Int.fdiv_eq_ediv_of_nonneg i (by omega)]; rfl
theorem gM {i j : Int} (hj : 0 < j) : gMod (.int i) (.int j) = .ok (.int (i % j)) := by
  show (if (j != 0) = true then M.ok (D.int (i.fmod j)) else _) = _
  have : (j != 0) = true := by simp; omega
  rw [this, Int.fmod_eq_emod_of_nonneg i (by omega)]; rfl
theorem mul_bd {a b : Int} {A B : Int} (ha : 0 ≤ a) (ha' : a ≤ A) (hb : 0 ≤ b) (hb' : b ≤ B) : 0 ≤ a * b ∧ a * b ≤ A * B := ⟨Int.mul_nonneg ha hb, Int.mul_le_mul ha' hb' hb (by omega)⟩
theorem set_ok {i : Nat} {f : DSt → M D} {sd : DSt} {d : D} (h : f sd = .ok d) : sSet i f sd = .ok (.nx (sd.set i (some (.im d)))) := by unfold sSet; rw [h]; rfl
theorem call_ok {F : List D → M S} {fs : DSt → M (List D)} {sd : DSt} {ds : List D} {s : S} {d : D} (h1 : fs sd = .ok ds) (h2 : F ds = .ok s) (h3 : s.toD = .ok d) : eCall F fs sd = .ok d := by
  unfold eCall; rw [h1, M.bind_ok, h2]; exact h3
theorem a1 {fa : DSt → M D} {sd : DSt} {d : D} (h : fa sd = .ok d) : aCons fa aNil sd = .ok [d] := by unfold aCons aNil; rw [h]; rfl
theorem aC {fa : DSt → M D} {fr : DSt → M (List D)} {sd : DSt} {d : D} {ds : List D} (h : fa sd = .ok d) (h2 : fr sd = .ok ds) : aCons fa fr sd = .ok (d :: ds) := by unfold aCons; rw [h, M.bind_ok, h2]; rfl
theorem ret_ok {f : DSt → M D} {sd : DSt} {d : D} (h : f sd = .ok d) : sRet f sd = .ok (.rt (.im d)) := by unfold sRet; rw [h]; rfl
theorem cb_ok {g : List D → M D} {fs : DSt → M (List D)} {sd : DSt} {ds : List D} {r : M D} (h1 : fs sd = .ok ds) (h2 : g ds = r) : eCB g fs sd = r := by unfold eCB; rw [h1]; exact h2
def nbBody : DSt → M O := (sSeq (sSet 3 (eOp gMod (eOp gPlus (eOp gPlus (eOp gTimes (eVar 3) (eOp gPlus (eOp gMod (eVar 3) (eC (.int 65521))) (eC (.int 40487)))) (eOp gTimes (eC (.int 7)) (eVar 5))) (eC (.int 5))) (eC (.int 1999999973))))
      (sSeq (sApp 2 (eOp gIx (eLst (aCons (eVar 3) (aCons (eOp gMod (eVar 4) (eC (.int 1000000))) aNil))) (eCB bInt (aCons (eOp gGt (eVar 4) (eC (.int 0))) aNil))))
      (sSet 4 (eOp gFdiv (eVar 4) (eC (.int 1000000))))))
def nbOk (d : Int) : Prop := 0 ≤ d ∧ d < 1999999973
theorem nb_turn (s0 s1 : Option S) (ds : List D) (hd : ds.length ≤ 1000) (N R K : Int) (hN : 0 ≤ N) (hN' : N < 1999999973) (hK : 0 ≤ K) (hK' : K ≤ 1000) :
    ∃ d N' : Int, 0 ≤ N' ∧ N' < 1999999973 ∧ nbOk d ∧ nbBody [s0, s1, some (.ow ds), some (.im (.int N)), some (.im (.int R)), some (.im (.int K))] =
      .ok (.nx [s0, s1, some (.ow (ds ++ [.int d])), some (.im (.int N')), some (.im (.int (R / 1000000))), some (.im (.int K))]) := by
  have q1 : 0 ≤ N % 65521 := Int.emod_nonneg _ (by decide)
  have q2 : N % 65521 < 65521 := Int.emod_lt_of_pos _ (by decide)
  have g1 := gM (i := N) (j := 65521) (by decide)
  have g2 := gT (i := N) (j := N % 65521 + 40487) (sm30 (by omega) (by omega)) (sm30 (by omega) (by omega))
  have g3 := gT (i := 7) (j := K) (sm30 (by omega) (by omega)) (sm30 (by omega) (by omega))
  have g4 := gM (i := N * (N % 65521 + 40487) + 7 * K + 5) (j := 1999999973) (by decide)
  have e1 : sSet 3 (eOp gMod (eOp gPlus (eOp gPlus (eOp gTimes (eVar 3) (eOp gPlus (eOp gMod (eVar 3) (eC (.int 65521))) (eC (.int 40487)))) (eOp gTimes (eC (.int 7)) (eVar 5))) (eC (.int 5))) (eC (.int 1999999973)))
      [s0, s1, some (.ow ds), some (.im (.int N)), some (.im (.int R)), some (.im (.int K))] =
      .ok (.nx [s0, s1, some (.ow ds), some (.im (.int ((N * (N % 65521 + 40487) + 7 * K + 5) % 1999999973))), some (.im (.int R)), some (.im (.int K))]) := by
    simp [sSet, eOp, eVar, eC, g1, gPlus, g2, g3, g4]
  have b1 : 0 ≤ (N * (N % 65521 + 40487) + 7 * K + 5) % 1999999973 := Int.emod_nonneg _ (by decide)
  have b2 : (N * (N % 65521 + 40487) + 7 * K + 5) % 1999999973 < 1999999973 := Int.emod_lt_of_pos _ (by decide)
  generalize (N * (N % 65521 + 40487) + 7 * K + 5) % 1999999973 = N' at e1 b1 b2
  have f1 : few ds = true := few_of (by omega)
  have g5 := gM (i := R) (j := 1000000) (by decide)
  have g8 := gFd (i := R) (j := 1000000) (by decide) (sm30 (by decide) (by decide))
  have f2 : few [D.int N', D.int (R % 1000000)] = true := few_of (by simp)
  by_cases hR : R > 0
  · have p1 : 0 ≤ R % 1000000 := Int.emod_nonneg _ (by decide)
    have p2 : R % 1000000 < 1000000 := Int.emod_lt_of_pos _ (by decide)
    refine ⟨R % 1000000, N', b1, b2, ⟨p1, by omega⟩, go e1 ?_⟩
    simp [sSeq, sApp, eOp, eLst, aCons, aNil, eVar, eC, g5, f2, eCB, gGt, gI0, hR, bInt, gIx, atI1, f1, sSet, g8]
  · refine ⟨N', N', b1, b2, ⟨b1, b2⟩, go e1 ?_⟩
    simp [sSeq, sApp, eOp, eLst, aCons, aNil, eVar, eC, g5, f2, eCB, gGt, gI0, hR, bInt, gIx, atI0, f1, sSet, g8]
theorem nb_loop (s0 s1 : Option S) : ∀ (ks : List Nat) (ds : List Int) (N R : Int) (v : Option S), ds.length + ks.length ≤ 1000 → (∀ k ∈ ks, k ≤ 1000) → 0 ≤ N → N < 1999999973 → (∀ d ∈ ds, nbOk d) →
    ∃ (es : List Int) (N' R' : Int) (v' : Option S), es.length = ds.length + ks.length ∧ (∀ d ∈ es, nbOk d) ∧ loopD (gNm 5) nbBody (ks.map fun (k : Nat) => D.int (k : Int)) [s0, s1, some (.ow (ds.map D.int)), some (.im (.int N)), some (.im (.int R)), v] =
      .ok (.nx [s0, s1, some (.ow (es.map D.int)), some (.im (.int N')), some (.im (.int R')), v'])
  | [], ds, N, R, v, _, _, _, _, hd => ⟨ds, N, R, v, by simp, hd, by simp [loopD]⟩
  | k :: ks, ds, N, R, v, h, hk, hN, hN', hd => by
    rw [List.length_cons] at h
    have hk0 := hk k List.mem_cons_self
    obtain ⟨d, N1, h1, h2, h3, e⟩ := nb_turn s0 s1 (ds.map D.int) (by simp; omega) N R (k : Int) hN hN' (by omega) (by omega)
    obtain ⟨es, N', R', v', hl, ho, ih⟩ := nb_loop s0 s1 ks (ds ++ [d]) N1 (R / 1000000) (some (.im (.int (k : Int)))) (by simp; omega) (fun k hk' => hk k (List.mem_cons_of_mem _ hk')) h1 h2 (fun d' hd' => by
      rcases List.mem_append.mp hd' with q | q
      · exact hd d' q
      · have : d' = d := by simpa using q
        rw [this]; exact h3)
    refine ⟨es, N', R', v', by rw [hl]; simp; omega, ho, ?_⟩
    rw [List.map_append, List.map_cons, List.map_nil] at ih
    rw [← ih]
    simp [loopD, gNm, e]
theorem f_numbers (c : Int) (n : Nat) (hn : n ≤ 1000) : ∃ es : List Int, es.length = n ∧ (∀ d ∈ es, nbOk d) ∧ F__law_numbers [.int c, .int (n : Int)] = .ok (.ow (es.map D.int)) := by
  have g1 := gM (i := c) (j := 1999999973) (by decide)
  have q1 : 0 ≤ c % 1999999973 := Int.emod_nonneg _ (by decide)
  have q2 : c % 1999999973 < 1999999973 := Int.emod_lt_of_pos _ (by decide)
  have g2 := gT (i := c % 1999999973 + 31) (j := 765432101) (sm30 (by omega) (by omega)) (sm30 (by omega) (by omega))
  have g3 := gM (i := (c % 1999999973 + 31) * 765432101) (j := 1999999973) (by decide)
  have g4 : gPow (.int 10) (.int 18) = .ok (.int 1000000000000000000) := rfl
  have b1 : 0 ≤ (c % 1999999973 + 31) * 765432101 % 1999999973 := Int.emod_nonneg _ (by decide)
  have b2 : (c % 1999999973 + 31) * 765432101 % 1999999973 < 1999999973 := Int.emod_lt_of_pos _ (by decide)
  have e2 : sSet 3 (eOp gMod (eOp gTimes (eOp gPlus (eOp gMod (eVar 0) (eC (.int 1999999973))) (eC (.int 31))) (eC (.int 765432101))) (eC (.int 1999999973))) [some (.im (.int c)), some (.im (.int (n : Int))), some (.ow []), none, none, none] =
      .ok (.nx [some (.im (.int c)), some (.im (.int (n : Int))), some (.ow []), some (.im (.int ((c % 1999999973 + 31) * 765432101 % 1999999973))), none, none]) := by
    simp [sSet, eOp, eVar, eC, g1, gPlus, g2, g3]
  generalize (c % 1999999973 + 31) * 765432101 % 1999999973 = N at e2 b1 b2
  obtain ⟨R, e4⟩ : ∃ R : Int, (sIf (DL.tO (DL.tB (eOp gLt (eVar 0) (eC (.int 0)))) (DL.tB (eOp gGe (eVar 0) (eOp gPow (eC (.int 10)) (eC (.int 18)))))) (sSet 4 (eCB bAbs (aCons (eVar 0) aNil))) sNil) [some (.im (.int c)), some (.im (.int (n : Int))), some (.ow []), some (.im (.int N)), some (.im (.int 0)), none] =
      .ok (.nx [some (.im (.int c)), some (.im (.int (n : Int))), some (.ow []), some (.im (.int N)), some (.im (.int R)), none]) := by
    by_cases h1 : c < 0
    · exact ⟨-c, by simp [sIf, DL.tO, DL.tB, eOp, eVar, eC, gLt, gI0, h1, asB, sSet, eCB, bAbs, aCons, aNil]⟩
    · by_cases h2 : 1000000000000000000 ≤ c
      · exact ⟨c, by simp [sIf, DL.tO, DL.tB, eOp, eVar, eC, gLt, gGe, gI0, h1, h2, g4, asB, sSet, eCB, bAbs, aCons, aNil]⟩
      · exact ⟨0, by simp [sIf, DL.tO, DL.tB, eOp, eVar, eC, gLt, gGe, gI0, h1, h2, g4, asB, sSet, eCB, bAbs, aCons, aNil, sNil]⟩
  obtain ⟨es, N', R', v', hl, ho, e5⟩ := nb_loop (some (.im (.int c))) (some (.im (.int (n : Int)))) (List.range n) [] N R none (by simp; omega) (fun k hk => by have := List.mem_range.mp hk; omega) b1 b2 (fun d hd => by simp at hd)
  refine ⟨es, by simpa using hl, ho, ?_⟩
  have r1 : ∀ s0 s, iRange1 (aCons (eVar 1) aNil) (s0 :: some (.im (.int (n : Int))) :: s) = .ok ((List.range n).map fun (k : Nat) => D.int (k : Int)) := fun s0 s => iR1 (by simp [aCons, aNil, eVar]) hn
  exact (fn2 _ _ _ _).trans (fin_of (go (own_nil 2 _) (go e2 (go rfl (go e4 (go ((sFor_ok (r1 _ _)).trans e5) rfl))))))
/-! ### points -/
structure Pt where
  a : Int
  b : Int
  c : Int
  d : Int
def Pt.D (p : Pt) : D := .tup [.tup [.int p.a, .int p.b], .tup [.int p.c, .int p.d]]
structure Pt.ok (p : Pt) : Prop where
  a : p.a.natAbs ≤ 10 ^ 5
  b : p.b.natAbs ≤ 10 ^ 5
  c : p.c.natAbs ≤ 10 ^ 5
  d : p.d.natAbs ≤ 10 ^ 5
noncomputable def ptBody : DSt → M O := (sSeq (sSet 7 (eOp gPlus (eC (.int 2)) (eOp gMod (eVar 4) (eOp gIx (eLst (aCons (eC (.int 11)) (aCons (eC (.int 999)) aNil))) (eOp gFdiv (eOp gMod (eVar 5) (eC (.int 8))) (eC (.int 7)))))))
      (sSeq (sSet 8 (eOp gPlus (eOp gMod (eOp gFdiv (eVar 5) (eC (.int 8))) (eOp DL.gSub (eOp gTimes (eVar 6) (eVar 7)) (eC (.int 1)))) (eC (.int 1))))
      (sSeq (sIf (DL.tB (eOp gEq (eOp gMod (eVar 8) (eVar 7)) (eC (.int 0)))) (sSet 8 (eOp DL.gSub (eVar 8) (eC (.int 1)))) sNil)
      (sApp 3 (eCall F__law_lowest (aCons (eVar 8) (aCons (eVar 7) aNil)))))))
theorem pt_turn (s0 s1 s2 v7 v8 : Option S) (ds : List D) (hd : ds.length ≤ 100) (x y E : Int) (hx : nbOk x) (hy : nbOk y) (hE : 1 ≤ E) (hE' : E ≤ 8) :
    ∃ (p q : Int) (w7 w8 : Option S), p.natAbs ≤ 10 ^ 5 ∧ q.natAbs ≤ 10 ^ 5 ∧ ptBody [s0, s1, s2, some (.ow ds), some (.im (.int x)), some (.im (.int y)), some (.im (.int E)), v7, v8] =
      .ok (.nx [s0, s1, s2, some (.ow (ds ++ [.tup [.int p, .int q]])), some (.im (.int x)), some (.im (.int y)), some (.im (.int E)), w7, w8]) := by
  obtain ⟨hx0, hx1⟩ := hx
  obtain ⟨hy0, hy1⟩ := hy
  have m8 : 0 ≤ y % 8 := Int.emod_nonneg _ (by decide)
  have m8' : y % 8 < 8 := Int.emod_lt_of_pos _ (by decide)
  obtain ⟨mo, hM, hM', e1⟩ : ∃ mo : Int, 11 ≤ mo ∧ mo ≤ 999 ∧ eOp gIx (eLst (aCons (eC (.int 11)) (aCons (eC (.int 999)) aNil))) (eOp gFdiv (eOp gMod (eVar 5) (eC (.int 8))) (eC (.int 7))) [s0, s1, s2, some (.ow ds), some (.im (.int x)), some (.im (.int y)), some (.im (.int E)), v7, v8] = .ok (.int mo) := by
    have g1 := gM (i := y) (j := 8) (by decide)
    have g2 := gFd (i := y % 8) (j := 7) (by decide) (sm30 (by decide) (by decide))
    have f2 : few [D.int 11, D.int 999] = true := few_of (by simp)
    by_cases q : y % 8 < 7
    · have z : y % 8 / 7 = 0 := by omega
      rw [z] at g2
      exact ⟨11, by decide, by decide, by simp [eOp, eLst, aCons, aNil, eC, eVar, f2, g1, g2, gIx, atI0]⟩
    · have z : y % 8 / 7 = 1 := by omega
      rw [z] at g2
      exact ⟨999, by decide, by decide, by simp [eOp, eLst, aCons, aNil, eC, eVar, f2, g1, g2, gIx, atI1]⟩
  have g3 := gM (i := x) (j := mo) (by omega)
  have n1 : 0 ≤ x % mo := Int.emod_nonneg _ (by omega)
  have n2 : x % mo < mo := Int.emod_lt_of_pos _ (by omega)
  have s1e : sSet 7 (eOp gPlus (eC (.int 2)) (eOp gMod (eVar 4) (eOp gIx (eLst (aCons (eC (.int 11)) (aCons (eC (.int 999)) aNil))) (eOp gFdiv (eOp gMod (eVar 5) (eC (.int 8))) (eC (.int 7)))))) [s0, s1, s2, some (.ow ds), some (.im (.int x)), some (.im (.int y)), some (.im (.int E)), v7, v8] =
      .ok (.nx [s0, s1, s2, some (.ow ds), some (.im (.int x)), some (.im (.int y)), some (.im (.int E)), some (.im (.int (2 + x % mo))), v8]) := by
    have e2 : eOp gMod (eVar 4) (eOp gIx (eLst (aCons (eC (.int 11)) (aCons (eC (.int 999)) aNil))) (eOp gFdiv (eOp gMod (eVar 5) (eC (.int 8))) (eC (.int 7)))) [s0, s1, s2, some (.ow ds), some (.im (.int x)), some (.im (.int y)), some (.im (.int E)), v7, v8] = .ok (.int (x % mo)) := by
      unfold eOp at e1 ⊢
      rw [show eVar 4 [s0, s1, s2, some (.ow ds), some (.im (.int x)), some (.im (.int y)), some (.im (.int E)), v7, v8] = .ok (.int x) from rfl]
      simp only [DL.M.bind_ok]
      rw [e1]
      exact g3
    refine set_ok (d := .int (2 + x % mo)) ?_
    rw [eOp, e2]
    rfl
  generalize hb : 2 + x % mo = b at s1e
  have b2 : 2 ≤ b := by omega
  have b3 : b ≤ 1000 := by omega
  have eb : 2 ≤ E * b ∧ E * b ≤ 8000 := by
    constructor
    · have := Int.mul_le_mul hE b2 (by decide) (by omega)
      omega
    · have := (mul_bd (a := E) (b := b) (A := 8) (B := 1000) (by omega) hE' (by omega) b3).2
      omega
  have g4 := gFd (i := y) (j := 8) (by decide) (sm30 (by decide) (by decide))
  have g5 := gT (i := E) (j := b) (sm30 (by omega) (by omega)) (sm30 (by omega) (by omega))
  have g6 := gM (i := y / 8) (j := E * b - 1) (by omega)
  have n3 : 0 ≤ y / 8 % (E * b - 1) := Int.emod_nonneg _ (by omega)
  have n4 : y / 8 % (E * b - 1) < E * b - 1 := Int.emod_lt_of_pos _ (by omega)
  have s2e : sSet 8 (eOp gPlus (eOp gMod (eOp gFdiv (eVar 5) (eC (.int 8))) (eOp DL.gSub (eOp gTimes (eVar 6) (eVar 7)) (eC (.int 1)))) (eC (.int 1))) [s0, s1, s2, some (.ow ds), some (.im (.int x)), some (.im (.int y)), some (.im (.int E)), some (.im (.int b)), v8] =
      .ok (.nx [s0, s1, s2, some (.ow ds), some (.im (.int x)), some (.im (.int y)), some (.im (.int E)), some (.im (.int b)), some (.im (.int (y / 8 % (E * b - 1) + 1)))]) := by
    simp [sSet, eOp, eVar, eC, g4, g5, DL.gSub, gI0, g6, gPlus]
  generalize ht : y / 8 % (E * b - 1) + 1 = t at s2e
  obtain ⟨t', ht', s3e⟩ : ∃ t' : Int, t'.natAbs ≤ 10 ^ 5 ∧ sIf (DL.tB (eOp gEq (eOp gMod (eVar 8) (eVar 7)) (eC (.int 0)))) (sSet 8 (eOp DL.gSub (eVar 8) (eC (.int 1)))) sNil [s0, s1, s2, some (.ow ds), some (.im (.int x)), some (.im (.int y)), some (.im (.int E)), some (.im (.int b)), some (.im (.int t))] =
      .ok (.nx [s0, s1, s2, some (.ow ds), some (.im (.int x)), some (.im (.int y)), some (.im (.int E)), some (.im (.int b)), some (.im (.int t'))]) := by
    have g7 := gM (i := t) (j := b) (by omega)
    by_cases q : t % b = 0
    · exact ⟨t - 1, by omega, by simp [sIf, DL.tB, eOp, eVar, eC, g7, gEq, D.dep, D.eq, q, asB, sSet, DL.gSub, gI0]⟩
    · exact ⟨t, by omega, by simp [sIf, DL.tB, eOp, eVar, eC, g7, gEq, D.dep, D.eq, q, asB, sNil]⟩
  obtain ⟨p, q, el, low⟩ := f_lowest (t := t') (b := b) (k := 5) (by omega) (by omega) (by decide)
  refine ⟨p, q, some (.im (.int b)), some (.im (.int t')), Nat.le_trans low.pl ht', Nat.le_trans low.ql (by omega), go s1e (go s2e (go s3e ?_))⟩
  have f3 : few ds = true := few_of (by omega)
  simp [sApp, eCall, aCons, aNil, eVar, el, S.toD, f3]
end Law

set_option maxRecDepth 100000
set_option maxHeartbeats 4000000
set_option linter.unusedSimpArgs false
set_option exponentiation.threshold 5000
namespace Law
open PySem L2 DL
theorem atI2 {α : Type} (x y z : α) (r : List α) : atI (x :: y :: z :: r) 2 = some z := by
  have := atI_nat (xs := x :: y :: z :: r) (j := 2) (v := z) rfl
  exact this
theorem atI3 {α : Type} (x y z u : α) (r : List α) : atI (x :: y :: z :: u :: r) 3 = some u := by
  have := atI_nat (xs := x :: y :: z :: u :: r) (j := 3) (v := u) rfl
  exact this
theorem f_point (es : List Int) (he : es.length = 4) (ho : ∀ d ∈ es, nbOk d) (W H : Int) (hW : 1 ≤ W) (hW' : W ≤ 8) (hH : 1 ≤ H) (hH' : H ≤ 8) :
    ∃ p : Pt, p.ok ∧ F__law_point [.lst (es.map D.int), .int W, .int H] = .ok (.im p.D) := by
  match es, he, ho with
  | [x0, x1, x2, x3], _, ho =>
    have o0 := ho x0 (by simp)
    have o1 := ho x1 (by simp)
    have o2 := ho x2 (by simp)
    have o3 := ho x3 (by simp)
    obtain ⟨a, b, w7, w8, ha, hb, t1⟩ := pt_turn (some (.im (.lst [.int x0, .int x1, .int x2, .int x3]))) (some (.im (.int W))) (some (.im (.int H))) none none [] (by simp) x0 x1 W o0 o1 hW hW'
    obtain ⟨c, d, u7, u8, hc, hd, t2⟩ := pt_turn (some (.im (.lst [.int x0, .int x1, .int x2, .int x3]))) (some (.im (.int W))) (some (.im (.int H))) w7 w8 [.tup [.int a, .int b]] (by simp) x2 x3 H o2 o3 hH hH'
    refine ⟨⟨a, b, c, d⟩, ⟨ha, hb, hc, hd⟩, ?_⟩
    have e1 : iSeq (eLst (aCons (eTup (aCons (eOp gIx (eVar 0) (eC (.int 0))) (aCons (eOp gIx (eVar 0) (eC (.int 1))) (aCons (eVar 1) aNil)))) (aCons (eTup (aCons (eOp gIx (eVar 0) (eC (.int 2))) (aCons (eOp gIx (eVar 0) (eC (.int 3))) (aCons (eVar 2) aNil)))) aNil)))
        [some (.im (.lst [.int x0, .int x1, .int x2, .int x3])), some (.im (.int W)), some (.im (.int H)), some (.ow []), none, none, none, none, none] = .ok [.tup [.int x0, .int x1, .int W], .tup [.int x2, .int x3, .int H]] := by
      simp [iSeq, eLst, aCons, aNil, eTup, eOp, eVar, eC, gIx, atI0, atI1, atI2, atI3, few]
    have e2 : loopD (gTupD 3 (gsCons (gNm 4) (gsCons (gNm 5) (gsCons (gNm 6) gsNil)))) ptBody [.tup [.int x0, .int x1, .int W], .tup [.int x2, .int x3, .int H]]
        [some (.im (.lst [.int x0, .int x1, .int x2, .int x3])), some (.im (.int W)), some (.im (.int H)), some (.ow []), none, none, none, none, none] =
        .ok (.nx [some (.im (.lst [.int x0, .int x1, .int x2, .int x3])), some (.im (.int W)), some (.im (.int H)), some (.ow [.tup [.int a, .int b], .tup [.int c, .int d]]), some (.im (.int x2)), some (.im (.int x3)), some (.im (.int H)), u7, u8]) := by
      simp [loopD, gTupD, gsCons, gsNil, gNm, t1, t2]
    exact (fn3 _ _ _ _ _).trans (fin_of (go (own_nil 3 _) (go ((sFor_ok e1).trans e2) rfl)))
/-! ### slices -/
theorem cut_to (ds : List D) (k : Nat) (h : k ≤ ds.length) : cutD ds none (some (k : Int)) = ds.take k := by
  unfold cutD
  rw [HT.sIx_nat]
  have h0 : HT.sIx ds.length 0 none = 0 := by simp [HT.sIx]
  rw [h0, List.drop_zero, Nat.sub_zero, Nat.min_eq_left h]
theorem cut_from (ds : List D) (k : Nat) (h : k ≤ ds.length) : cutD ds (some (k : Int)) none = ds.drop k := by
  unfold cutD
  rw [HT.sIx_nat, Nat.min_eq_left h]
  have h0 : HT.sIx ds.length ds.length none = ds.length := by simp [HT.sIx]
  rw [h0, List.take_of_length_le (by simp)]
theorem ix_nat (ds : List D) (k : Nat) (d : D) (h : ds[k]? = some d) : gIx (.lst ds) (.int (k : Int)) = .ok d := by
  simp [gIx, atI_nat h]
end Law

set_option maxRecDepth 100000
set_option maxHeartbeats 4000000
set_option linter.unusedSimpArgs false
set_option exponentiation.threshold 5000
namespace Law
open PySem L2 DL
theorem pt_dep (p : Pt) : p.D.dep = 2 := by
  simp [Pt.D, D.dep, D.deps]
theorem pts_deps : ∀ ps : List Pt, D.deps (ps.map Pt.D) ≤ 2
  | [] => by simp [D.deps]
  | p :: ps => by
    have := pts_deps ps
    rw [List.map_cons, D.deps, pt_dep]
    omega
theorem pts_get {ps : List Pt} {k : Nat} {p : Pt} (h : ps[k]? = some p) : (ps.map Pt.D)[k]? = some p.D := by
  rw [List.getElem?_map, h]; rfl
def bentPts (W H : Int) (p q : Pt) : List Pt :=
  [⟨1, 1, p.c, p.d⟩, ⟨p.a, p.b, 1, 1⟩, ⟨0, 1, p.c, p.d⟩, ⟨p.a, p.b, 0, 1⟩, ⟨W, 1, p.c, p.d⟩, ⟨p.a, p.b, H, 1⟩, ⟨-1, 2, p.c, p.d⟩, ⟨p.a, p.b, -1, 2⟩, ⟨2 * W + 1, 2, p.c, p.d⟩, ⟨p.a, p.b, 2 * H + 1, 2⟩, ⟨1, 1, 1, 1⟩, q, q, q]
theorem bent_ok (W H : Int) (hW : 1 ≤ W) (hW' : W ≤ 8) (hH : 1 ≤ H) (hH' : H ≤ 8) (p q : Pt) (hp : p.ok) (hq : q.ok) : ∀ r ∈ bentPts W H p q, r.ok := by
  intro r hr
  obtain ⟨pa, pb, pc, pd⟩ := hp
  have t : (10 : Nat) ^ 5 = 100000 := rfl
  simp only [bentPts, List.mem_cons, List.not_mem_nil, or_false] at hr
  rcases hr with rfl | rfl | rfl | rfl | rfl | rfl | rfl | rfl | rfl | rfl | rfl | rfl | rfl | rfl
  all_goals first | exact hq | (refine ⟨?_, ?_, ?_, ?_⟩ <;> first | exact pa | exact pb | exact pc | exact pd | (simp only; omega))
theorem f_bent (ps : List Pt) (hl : ps.length ≤ 100) (hp : ∀ p ∈ ps, p.ok) (c W H : Int) (hW : 1 ≤ W) (hW' : W ≤ 8) (hH : 1 ≤ H) (hH' : H ≤ 8) :
    ∃ qs : List Pt, qs.length = ps.length ∧ (∀ q ∈ qs, q.ok) ∧ F__law_bent [.lst (ps.map Pt.D), .int c, .int W, .int H] = .ok (.im (.lst (qs.map Pt.D))) := by
  by_cases hz : ps = []
  · subst hz
    refine ⟨[], rfl, hp, (fn4 _ _ _ _ _ _).trans (fin_of (sSeq_rt ?_))⟩
    simp [sIf, DL.tB, eOp, eVar, eLst, aNil, few, gEq, D.dep, D.deps, D.eq, D.eqs, asB, sRet]
  · have hn : 0 < ps.length := List.length_pos_iff.mpr hz
    obtain ⟨k, hk⟩ : ∃ k : Nat, c % (ps.length : Int) = (k : Int) := ⟨(c % (ps.length : Int)).toNat, by have := Int.emod_nonneg c (show (ps.length : Int) ≠ 0 by omega); omega⟩
    have hkn : k < ps.length := by have := Int.emod_lt_of_pos c (show (0 : Int) < ps.length by omega); omega
    obtain ⟨j, hj⟩ : ∃ j : Nat, c / 8 % ((k : Int) + 1) = (j : Int) := ⟨(c / 8 % ((k : Int) + 1)).toNat, by have := Int.emod_nonneg (c / 8) (show (k : Int) + 1 ≠ 0 by omega); omega⟩
    have hjk : j ≤ k := by have := Int.emod_lt_of_pos (c / 8) (show (0 : Int) < (k : Int) + 1 by omega); omega
    obtain ⟨m, hm⟩ : ∃ m : Nat, c / 8 % 14 = (m : Int) := ⟨(c / 8 % 14).toNat, by have := Int.emod_nonneg (c / 8) (show (14 : Int) ≠ 0 by decide); omega⟩
    have hm14 : m < 14 := by have := Int.emod_lt_of_pos (c / 8) (show (0 : Int) < 14 by decide); omega
    obtain ⟨p, ep⟩ : ∃ p, ps[k]? = some p := ⟨_, List.getElem?_eq_getElem hkn⟩
    obtain ⟨q, eq⟩ : ∃ q, ps[j]? = some q := ⟨_, List.getElem?_eq_getElem (by omega)⟩
    have hpk := hp p (List.mem_of_getElem? ep)
    have hqj := hp q (List.mem_of_getElem? eq)
    have hb := bent_ok W H hW hW' hH hH' p q hpk hqj
    have hbl : (bentPts W H p q).length = 14 := rfl
    obtain ⟨r, er⟩ : ∃ r, (bentPts W H p q)[m]? = some r := ⟨_, List.getElem?_eq_getElem (by rw [hbl]; exact hm14)⟩
    have hr := hb r (List.mem_of_getElem? er)
    refine ⟨ps.take k ++ [r] ++ ps.drop (k + 1), ?_, ?_, (fn4 _ _ _ _ _ _).trans (fin_of ?_)⟩
    · simp only [List.length_append, List.length_take, List.length_drop, List.length_cons, List.length_nil]; omega
    · intro z hz'
      rcases List.mem_append.mp hz' with z1 | z1
      · rcases List.mem_append.mp z1 with z2 | z2
        · exact hp z (List.mem_of_mem_take z2)
        · have : z = r := by simpa using z2
          rw [this]; exact hr
      · exact hp z (List.mem_of_mem_drop z1)
    have d1 := pts_deps ps
    have e0 : D.eq (.lst (ps.map Pt.D)) (.lst []) = false := by
      cases ps with
      | nil => exact absurd rfl hz
      | cons p r => simp [D.eq, D.eqs]
    have s1 : sIf (DL.tB (eOp gEq (eVar 0) (eLst aNil))) (sRet (eVar 0)) sNil [some (.im (.lst (ps.map Pt.D))), some (.im (.int c)), some (.im (.int W)), some (.im (.int H)), none, none, none, none, none, none] =
        .ok (.nx [some (.im (.lst (ps.map Pt.D))), some (.im (.int c)), some (.im (.int W)), some (.im (.int H)), none, none, none, none, none, none]) := by
      have h1 : (D.lst (ps.map Pt.D)).dep ≤ 60 := by rw [D.dep]; omega
      simp [sIf, DL.tB, eOp, eVar, eLst, aNil, few, gEq, h1, e0, asB, sNil]
    have g1 := gM (i := c) (j := (ps.length : Int)) (by omega)
    rw [hk] at g1
    have s2 : sSet 4 (eOp gMod (eVar 1) (eCB bLen (aCons (eVar 0) aNil))) [some (.im (.lst (ps.map Pt.D))), some (.im (.int c)), some (.im (.int W)), some (.im (.int H)), none, none, none, none, none, none] =
        .ok (.nx [some (.im (.lst (ps.map Pt.D))), some (.im (.int c)), some (.im (.int W)), some (.im (.int H)), some (.im (.int k)), none, none, none, none, none]) := by
      simp [sSet, eOp, eVar, eCB, bLen, aCons, aNil, g1]
    have i1 := ix_nat _ _ _ (pts_get ep)
    have s3 : sAsg (eOp gIx (eVar 0) (eVar 4)) (gTupD 2 (gsCons (gNm 5) (gsCons (gNm 6) gsNil))) [some (.im (.lst (ps.map Pt.D))), some (.im (.int c)), some (.im (.int W)), some (.im (.int H)), some (.im (.int k)), none, none, none, none, none] =
        .ok (.nx [some (.im (.lst (ps.map Pt.D))), some (.im (.int c)), some (.im (.int W)), some (.im (.int H)), some (.im (.int k)), some (.im (.tup [.int p.a, .int p.b])), some (.im (.tup [.int p.c, .int p.d])), none, none, none]) := by
      simp [sAsg, eOp, eVar, i1, Pt.D, gTupD, gsCons, gsNil, gNm]
    have g2 := gFd (i := c) (j := 8) (by decide) (sm30 (by decide) (by decide))
    have t1 := gT (i := 2) (j := W) (sm30 (by decide) (by decide)) (sm30 (by omega) (by omega))
    have t2 := gT (i := 2) (j := H) (sm30 (by decide) (by decide)) (sm30 (by omega) (by omega))
    have hb11 : (bentPts W H p q) = (bentPts W H p q).take 11 ++ [q, q, q] := rfl
    refine go s1 (go s2 (go s3 (go (sd' := [some (.im (.lst (ps.map Pt.D))), some (.im (.int c)), some (.im (.int W)), some (.im (.int H)), some (.im (.int k)), some (.im (.tup [.int p.a, .int p.b])), some (.im (.tup [.int p.c, .int p.d])), some (.im (.int (c / 8))), none, none]) ?_ ?_)))
    · simp [sSet, eOp, eVar, eC, g2]
    refine go (sd' := [some (.im (.lst (ps.map Pt.D))), some (.im (.int c)), some (.im (.int W)), some (.im (.int H)), some (.im (.int k)), some (.im (.tup [.int p.a, .int p.b])), some (.im (.tup [.int p.c, .int p.d])), some (.im (.int (c / 8))), some (.im (.lst (((bentPts W H p q).take 7).map Pt.D))), none]) ?_ ?_
    · simp [sSet, eLst, aCons, aNil, eTup, eC, eVar, eUn, gNeg, few, bentPts, Pt.D]
    refine go (sd' := [some (.im (.lst (ps.map Pt.D))), some (.im (.int c)), some (.im (.int W)), some (.im (.int H)), some (.im (.int k)), some (.im (.tup [.int p.a, .int p.b])), some (.im (.tup [.int p.c, .int p.d])), some (.im (.int (c / 8))), some (.im (.lst (((bentPts W H p q).take 11).map Pt.D))), none]) ?_ ?_
    · simp [sSet, eLst, aCons, aNil, eTup, eC, eVar, eUn, gNeg, few, bentPts, Pt.D, eOp, gPlus, t1, t2]
    have g3 := gM (i := c / 8) (j := (k : Int) + 1) (by omega)
    rw [hj] at g3
    have g4 := gM (i := c / 8) (j := 14) (by decide)
    rw [hm] at g4
    have i2 := ix_nat _ _ _ (pts_get eq)
    have i3 := ix_nat _ _ _ (pts_get er)
    have fw : few ((bentPts W H p q).map Pt.D) = true := few_of (by rw [List.length_map, hbl]; decide)
    have cat : gPlus (.lst (((bentPts W H p q).take 11).map Pt.D)) (.lst [q.D, q.D, q.D]) = .ok (.lst ((bentPts W H p q).map Pt.D)) := by
      have : ((bentPts W H p q).take 11).map Pt.D ++ [q.D, q.D, q.D] = (bentPts W H p q).map Pt.D := rfl
      show (if few (((bentPts W H p q).take 11).map Pt.D ++ [q.D, q.D, q.D]) = true then M.ok (D.lst (((bentPts W H p q).take 11).map Pt.D ++ [q.D, q.D, q.D])) else .bad) = _
      rw [this, fw]; rfl
    generalize ((bentPts W H p q).take 11).map Pt.D = L11 at cat ⊢
    generalize (bentPts W H p q).map Pt.D = L14 at cat i3
    refine go (sd' := [some (.im (.lst (ps.map Pt.D))), some (.im (.int c)), some (.im (.int W)), some (.im (.int H)), some (.im (.int k)), some (.im (.tup [.int p.a, .int p.b])), some (.im (.tup [.int p.c, .int p.d])), some (.im (.int (c / 8))), some (.im (.lst L11)), some (.im r.D)]) ?_ ?_
    · have rep : eRepF (fLst (aCons (eOp gIx (eVar 0) (eOp gMod (eVar 7) (eOp gPlus (eVar 4) (eC (.int 1))))) aNil)) (eC (.int 3)) [some (.im (.lst (ps.map Pt.D))), some (.im (.int c)), some (.im (.int W)), some (.im (.int H)), some (.im (.int k)), some (.im (.tup [.int p.a, .int p.b])), some (.im (.tup [.int p.c, .int p.d])), some (.im (.int (c / 8))), some (.im (.lst L11)), none] = .ok (.lst [q.D, q.D, q.D]) := by
        simp [eRepF, fLst, aCons, aNil, eOp, eVar, eC, gPlus, g3, i2, few]
      refine set_ok (d := r.D) ?_
      have e9 : eOp gPlus (eVar 8) (eRepF (fLst (aCons (eOp gIx (eVar 0) (eOp gMod (eVar 7) (eOp gPlus (eVar 4) (eC (.int 1))))) aNil)) (eC (.int 3))) [some (.im (.lst (ps.map Pt.D))), some (.im (.int c)), some (.im (.int W)), some (.im (.int H)), some (.im (.int k)), some (.im (.tup [.int p.a, .int p.b])), some (.im (.tup [.int p.c, .int p.d])), some (.im (.int (c / 8))), some (.im (.lst L11)), none] = .ok (.lst L14) := by
        rw [eOp, rep]
        simp [eVar, cat]
      rw [eOp, e9]
      simp [eOp, eVar, eC, g4, i3]
    · refine ret_ok ?_
      have c1 := cut_to (ps.map Pt.D) k (by rw [List.length_map]; omega)
      have c2 := cut_from (ps.map Pt.D) (k + 1) (by rw [List.length_map]; omega)
      have hk1 : (k : Int) + 1 = ((k + 1 : Nat) : Int) := by omega
      have f1 : few ((ps.map Pt.D).take k ++ [r.D]) = true := few_of (by simp; omega)
      have f2 : few ((ps.map Pt.D).take k ++ [r.D] ++ (ps.map Pt.D).drop (k + 1)) = true := few_of (by simp; omega)
      have f3 : few [r.D] = true := few_of (by simp)
      have fin : (ps.map Pt.D).take k ++ [r.D] ++ (ps.map Pt.D).drop (k + 1) = (ps.take k ++ [r] ++ ps.drop (k + 1)).map Pt.D := by
        rw [List.map_append, List.map_append, List.map_take, List.map_drop]; rfl
      rw [← fin]
      simp only [eOp, eSl, eVar, oNone, oSome, eC, eLst, aCons, aNil, List.getElem?_cons_zero, List.getElem?_cons_succ, M.bind_ok, gSl, c1, f3, if_true, gPlus, f1, hk1, c2, f2]
end Law

set_option maxRecDepth 100000
set_option maxHeartbeats 4000000
set_option linter.unusedSimpArgs false
set_option exponentiation.threshold 5000
namespace Law
open PySem L2 DL
def badI (a b E : Int) : Bool := decide (b = 1) || (decide (a ≤ 0) || decide (E * b ≤ a))
def Pt.bad (W H : Int) (p : Pt) : Bool := badI p.a p.b W || badI p.c p.d H
theorem pow525 {n : Nat} (h : n ≤ 10 ^ 5) : n ≤ 10 ^ 25 := Nat.le_trans h (Nat.pow_le_pow_right (by decide) (by decide))
theorem f_between {a b E : Int} (ha : a.natAbs ≤ 10 ^ 5) (hb : b.natAbs ≤ 10 ^ 5) (hE : 1 ≤ E) (hE' : E ≤ 8) : F_is_between_lines [.tup [.int a, .int b], .int E] = .ok (.im (.bl (!badI a b E))) := by
  have b1 := f_below (a := 0) (b := 1) (c := a) (d := b) (by decide) (by decide) (pow525 ha) (pow525 hb)
  have b2 := f_below (a := a) (b := b) (c := E) (d := 1) (pow525 ha) (pow525 hb) (by have : (10 : Nat) ^ 25 ≥ 8 := by decide
                                                                                     omega) (by decide)
  rw [Int.zero_mul, Int.mul_one] at b1
  rw [Int.mul_one] at b2
  by_cases h1 : b = 1
  · subst h1
    simp [F_is_between_lines, fnD, fin', sRet, eAnd, eOp, gNe, D.dep, D.eq, gIx, atI1, eVar, eC, asB, badI]
  · by_cases h2 : 0 < a
    · have h2' : ¬ a ≤ 0 := by omega
      by_cases h3 : a < E * b
      · have h3' : ¬ E * b ≤ a := by omega
        simp [F_is_between_lines, fnD, fin', sRet, eAnd, eOp, gNe, D.dep, D.eq, gIx, atI1, eVar, eC, asB, badI, h1, eCall, aCons, aNil, eTup, few, b1, b2, S.toD, h2, h2', h3, h3']
      · have h3' : E * b ≤ a := by omega
        simp [F_is_between_lines, fnD, fin', sRet, eAnd, eOp, gNe, D.dep, D.eq, gIx, atI1, eVar, eC, asB, badI, h1, eCall, aCons, aNil, eTup, few, b1, b2, S.toD, h2, h2', h3, h3']
    · have h2' : a ≤ 0 := by omega
      simp [F_is_between_lines, fnD, fin', sRet, eAnd, eOp, gNe, D.dep, D.eq, gIx, atI1, eVar, eC, asB, badI, h1, eCall, aCons, aNil, eTup, few, b1, b2, S.toD, h2, h2']
theorem f_may {W H : Int} (hW : 1 ≤ W) (hW' : W ≤ 8) (hH : 1 ≤ H) (hH' : H ≤ 8) (p : Pt) (hp : p.ok) (z : D) : F_may_stand [.tup [.int W, .int H, z], p.D] = .ok (.im (.bl (!p.bad W H))) := by
  have e1 := f_between hp.a hp.b hW hW'
  have e2 := f_between hp.c hp.d hH hH'
  unfold Pt.bad
  cases q : badI p.a p.b W with
  | true =>
    rw [q] at e1
    simp [F_may_stand, fnD, fin', sRet, eAnd, eCall, aCons, aNil, eOp, eVar, eC, gIx, atI0, atI1, Pt.D, e1, S.toD, asB]
  | false =>
    rw [q] at e1
    simp [F_may_stand, fnD, fin', sRet, eAnd, eCall, aCons, aNil, eOp, eVar, eC, gIx, atI0, atI1, Pt.D, e1, e2, S.toD, asB]
/-- the first who may not stand there -/
def fb (W H : Int) : List Pt → List Pt → Option Nat
  | _, [] => none
  | pre, p :: r => if p.bad W H || inD p.D (pre.map Pt.D) then some pre.length else fb W H (pre ++ [p]) r
def idx : Nat → Nat → List D
  | _, 0 => []
  | j, n + 1 => .int (j : Int) :: idx (j + 1) n
theorem idx_range : ∀ (n j : Nat), idx j n = (List.range n).map fun (k : Nat) => D.int ((j + k : Nat) : Int)
  | 0, _ => rfl
  | n + 1, j => by
    rw [idx, idx_range n (j + 1), List.range_succ_eq_map, List.map_cons, List.map_map]
    congr 1
    apply List.map_congr_left
    intro k _
    show D.int _ = D.int _
    congr 2
    omega
noncomputable def inBody : DSt → M O := sIf (DL.tO (DL.tB (eOp gEq (eOp gIx (eVar 4) (eC (.int 1))) (eC (.int 1)))) (DL.tO (DL.tB (eOp gLe (eOp gIx (eVar 4) (eC (.int 0))) (eC (.int 0)))) (DL.tB (eOp gGe (eOp gIx (eVar 4) (eC (.int 0))) (eOp gTimes (eVar 5) (eOp gIx (eVar 4) (eC (.int 1)))))))) (sRet (eVar 3)) sNil
theorem in_turn' (s0 s1 s2 : Option S) (k a b E : Int) (ha : a.natAbs ≤ 10 ^ 5) (hb : b.natAbs ≤ 10 ^ 5) (hE : 1 ≤ E) (hE' : E ≤ 8) :
    inBody [s0, s1, s2, some (.im (.int k)), some (.im (.tup [.int a, .int b])), some (.im (.int E))] =
      if badI a b E then .ok (.rt (.im (.int k))) else .ok (.nx [s0, s1, s2, some (.im (.int k)), some (.im (.tup [.int a, .int b])), some (.im (.int E))]) := by
  have t5 : (10 : Nat) ^ 5 = 100000 := rfl
  have g := gT (i := E) (j := b) (sm30 (by omega) (by omega)) (sm30 (by omega) (by omega))
  by_cases h1 : b = 1
  · subst h1
    simp [inBody, sIf, DL.tO, DL.tB, eOp, gIx, atI0, atI1, eVar, eC, gEq, D.dep, D.eq, asB, sRet, badI]
  · by_cases h2 : a ≤ 0
    · simp [inBody, sIf, DL.tO, DL.tB, eOp, gIx, atI0, atI1, eVar, eC, gEq, D.dep, D.eq, asB, sRet, badI, h1, h2, gLe, gI0]
    · by_cases h3 : E * b ≤ a
      · simp [inBody, sIf, DL.tO, DL.tB, eOp, gIx, atI0, atI1, eVar, eC, gEq, D.dep, D.eq, asB, sRet, badI, h1, h2, h3, gLe, gGe, gI0, g]
      · simp [inBody, sIf, DL.tO, DL.tB, eOp, gIx, atI0, atI1, eVar, eC, gEq, D.dep, D.eq, asB, sRet, badI, h1, h2, h3, gLe, gGe, gI0, g, sNil]
noncomputable def dueBody : DSt → M O := sSeq (sFor (iZipTL (aCons (eOp gIx (eVar 0) (eVar 3)) (aCons (eLst (aCons (eVar 1) (aCons (eVar 2) aNil))) aNil))) (gTupD 2 (gsCons (gNm 4) (gsCons (gNm 5) gsNil))) inBody)
      (sIf (DL.tB (eOp gIn (eOp gIx (eVar 0) (eVar 3)) (eSl (eVar 0) oNone (oSome (eVar 3))))) (sRet (eVar 3)) sNil)
theorem due_turn (W H : Int) (hW : 1 ≤ W) (hW' : W ≤ 8) (hH : 1 ≤ H) (hH' : H ≤ 8) (pre r : List Pt) (p : Pt) (hp : p.ok) (v4 v5 : Option S) :
    ∃ w4 w5, dueBody [some (.im (.lst ((pre ++ p :: r).map Pt.D))), some (.im (.int W)), some (.im (.int H)), some (.im (.int (pre.length : Int))), v4, v5] =
      if p.bad W H || inD p.D (pre.map Pt.D) then .ok (.rt (.im (.int (pre.length : Int)))) else .ok (.nx [some (.im (.lst ((pre ++ p :: r).map Pt.D))), some (.im (.int W)), some (.im (.int H)), some (.im (.int (pre.length : Int))), w4, w5]) := by
  have gp : ((pre ++ p :: r).map Pt.D)[pre.length]? = some p.D := pts_get (by rw [List.getElem?_append_right (Nat.le_refl _)]; simp)
  have i1 := ix_nat _ _ _ gp
  have c1 := cut_to ((pre ++ p :: r).map Pt.D) pre.length (by simp)
  have tk : ((pre ++ p :: r).map Pt.D).take pre.length = pre.map Pt.D := by
    rw [← List.map_take, List.take_left]
  rw [tk] at c1
  have dp := pts_deps pre
  generalize (pre ++ p :: r).map Pt.D = L at i1 c1 ⊢
  have it : ∀ v4 v5, iZipTL (aCons (eOp gIx (eVar 0) (eVar 3)) (aCons (eLst (aCons (eVar 1) (aCons (eVar 2) aNil))) aNil)) [some (.im (.lst L)), some (.im (.int W)), some (.im (.int H)), some (.im (.int (pre.length : Int))), v4, v5] =
      .ok [.tup [.tup [.int p.a, .int p.b], .int W], .tup [.tup [.int p.c, .int p.d], .int H]] := fun v4 v5 => by
    simp [iZipTL, aCons, aNil, eOp, eVar, i1, eLst, few, Pt.D, zipD]
  have u1 := in_turn' (some (.im (.lst L))) (some (.im (.int W))) (some (.im (.int H))) (pre.length : Int) p.a p.b W hp.a hp.b hW hW'
  have u2 := in_turn' (some (.im (.lst L))) (some (.im (.int W))) (some (.im (.int H))) (pre.length : Int) p.c p.d H hp.c hp.d hH hH'
  unfold Pt.bad
  cases q1 : badI p.a p.b W with
  | true =>
    rw [q1] at u1
    refine ⟨none, none, ?_⟩
    refine sSeq_rt ((sFor_ok (it _ _)).trans ?_)
    simp [loopD, gTupD, gsCons, gsNil, gNm, u1]
  | false =>
    rw [q1] at u1
    cases q2 : badI p.c p.d H with
    | true =>
      rw [q2] at u2
      refine ⟨none, none, ?_⟩
      refine sSeq_rt ((sFor_ok (it _ _)).trans ?_)
      simp [loopD, gTupD, gsCons, gsNil, gNm, u1, u2]
    | false =>
      rw [q2] at u2
      refine ⟨some (.im (.tup [.int p.c, .int p.d])), some (.im (.int H)), go (sd' := [some (.im (.lst L)), some (.im (.int W)), some (.im (.int H)), some (.im (.int (pre.length : Int))), some (.im (.tup [.int p.c, .int p.d])), some (.im (.int H))]) ((sFor_ok (it _ _)).trans ?_) ?_⟩
      · simp [loopD, gTupD, gsCons, gsNil, gNm, u1, u2]
      · have hd : D.deps (pre.map Pt.D) ≤ 60 := by omega
        cases q3 : inD p.D (pre.map Pt.D) with
        | true => simp [sIf, DL.tB, eOp, eVar, i1, eSl, oNone, oSome, gSl, c1, gIn, hd, q3, asB, sRet]
        | false => simp [sIf, DL.tB, eOp, eVar, i1, eSl, oNone, oSome, gSl, c1, gIn, hd, q3, asB, sNil]
theorem due_loop (W H : Int) (hW : 1 ≤ W) (hW' : W ≤ 8) (hH : 1 ≤ H) (hH' : H ≤ 8) : ∀ (rest pre : List Pt) (v3 v4 v5 : Option S), (∀ p ∈ rest, p.ok) →
    ∃ w3 w4 w5, loopD (gNm 3) dueBody (idx pre.length rest.length) [some (.im (.lst ((pre ++ rest).map Pt.D))), some (.im (.int W)), some (.im (.int H)), v3, v4, v5] =
      match fb W H pre rest with
      | some k => .ok (.rt (.im (.int (k : Int))))
      | none => .ok (.nx [some (.im (.lst ((pre ++ rest).map Pt.D))), some (.im (.int W)), some (.im (.int H)), w3, w4, w5])
  | [], pre, v3, v4, v5, _ => ⟨v3, v4, v5, by simp [idx, loopD, fb]⟩
  | p :: r, pre, v3, v4, v5, hp => by
    obtain ⟨w4, w5, e⟩ := due_turn W H hW hW' hH hH' pre r p (hp p List.mem_cons_self) v4 v5
    cases q : (p.bad W H || inD p.D (pre.map Pt.D)) with
    | true =>
      rw [q] at e
      refine ⟨none, none, none, ?_⟩
      have e := e.trans (if_pos rfl)
      simp only [List.length_cons, idx, loopD, gNm, fb, q, if_true, List.set_cons_succ, List.set_cons_zero, e, M.bind_ok]
    | false =>
      rw [q] at e
      have e := e.trans (if_neg (by decide))
      obtain ⟨x3, x4, x5, ih⟩ := due_loop W H hW hW' hH hH' r (pre ++ [p]) (some (.im (.int (pre.length : Int)))) w4 w5 (fun z hz => hp z (List.mem_cons_of_mem _ hz))
      refine ⟨x3, x4, x5, ?_⟩
      rw [List.append_assoc, List.singleton_append, List.length_append, List.length_singleton] at ih
      simp only [List.length_cons, idx, loopD, gNm, fb, q, Bool.false_eq_true, if_false, List.set_cons_succ, List.set_cons_zero, e, M.bind_ok]
      exact ih
def dueD : Option Nat → D
  | some k => .int (k : Int)
  | none => .non
theorem f_due (ps : List Pt) (hl : ps.length ≤ 100) (hp : ∀ p ∈ ps, p.ok) (W H : Int) (hW : 1 ≤ W) (hW' : W ≤ 8) (hH : 1 ≤ H) (hH' : H ≤ 8) :
    F__law_due [.lst (ps.map Pt.D), .int W, .int H] = .ok (.im (dueD (fb W H [] ps))) := by
  obtain ⟨w3, w4, w5, e⟩ := due_loop W H hW hW' hH hH' ps [] none none none hp
  rw [List.nil_append, List.length_nil, idx_range] at e
  have r1 : iRange1 (aCons (eCB bLen (aCons (eVar 0) aNil)) aNil) [some (.im (.lst (ps.map Pt.D))), some (.im (.int W)), some (.im (.int H)), none, none, none] = .ok ((List.range ps.length).map fun (k : Nat) => D.int (k : Int)) :=
    iR1 (by simp [aCons, aNil, eVar, eCB, bLen]) (by omega)
  simp only [Nat.zero_add] at e
  cases q : fb W H [] ps with
  | some k =>
    rw [q] at e
    exact (fn3 _ _ _ _ _).trans (fin_of (sSeq_rt ((sFor_ok r1).trans e)))
  | none =>
    rw [q] at e
    exact (fn3 _ _ _ _ _).trans (fin_of (go ((sFor_ok r1).trans e) rfl))
end Law

set_option maxRecDepth 100000
set_option maxHeartbeats 4000000
set_option linter.unusedSimpArgs false
set_option exponentiation.threshold 5000
namespace Law
open PySem L2 DL
noncomputable def pBody : DSt → M O := sIf (DL.tO (DL.tN (DL.tB (eCall F_may_stand (aCons (eVar 0) (aCons (eVar 3) aNil))))) (DL.tB (eOp gIn (eVar 3) (eSl (eVar 1) oNone (oSome (eVar 2)))))) (sRaise "NoPerson" "number" (aCons (eVar 2) aNil)) sNil
def noP (k : Nat) : XV := ⟨"NoPerson", ["number"], [.int (k : Int)]⟩
theorem p_turn (W H : Int) (hW : 1 ≤ W) (hW' : W ≤ 8) (hH : 1 ≤ H) (hH' : H ≤ 8) (pre r : List Pt) (p : Pt) (hp : p.ok) :
    pBody [some (.im (.tup [.int W, .int H, .tup []])), some (.im (.lst ((pre ++ p :: r).map Pt.D))), some (.im (.int (pre.length : Int))), some (.im p.D)] =
      if p.bad W H || inD p.D (pre.map Pt.D) then .ex (noP pre.length) else .ok (.nx [some (.im (.tup [.int W, .int H, .tup []])), some (.im (.lst ((pre ++ p :: r).map Pt.D))), some (.im (.int (pre.length : Int))), some (.im p.D)]) := by
  have c1 := cut_to ((pre ++ p :: r).map Pt.D) pre.length (by simp)
  have tk : ((pre ++ p :: r).map Pt.D).take pre.length = pre.map Pt.D := by
    rw [← List.map_take, List.take_left]
  rw [tk] at c1
  have dp := pts_deps pre
  generalize (pre ++ p :: r).map Pt.D = L at c1 ⊢
  have m := f_may hW hW' hH hH' p hp (.tup [])
  have hd : D.deps (pre.map Pt.D) ≤ 60 := by omega
  generalize p.D = pd at m ⊢
  cases q1 : p.bad W H with
  | true =>
    rw [q1] at m
    simp [pBody, sIf, DL.tO, DL.tN, DL.tB, eCall, aCons, aNil, eVar, m, S.toD, asB, sRaise, noP]
  | false =>
    rw [q1] at m
    cases q3 : inD pd (pre.map Pt.D) with
    | true => simp [pBody, sIf, DL.tO, DL.tN, DL.tB, eCall, aCons, aNil, eVar, m, S.toD, asB, sRaise, noP, eOp, eSl, oNone, oSome, gSl, c1, gIn, hd, q3]
    | false => simp [pBody, sIf, DL.tO, DL.tN, DL.tB, eCall, aCons, aNil, eVar, m, S.toD, asB, sRaise, noP, eOp, eSl, oNone, oSome, gSl, c1, gIn, hd, q3, sNil]
theorem loop_ex {g : D → DSt → M DSt} {f : DSt → M O} {d : D} {r : List D} {sd sd1 : DSt} {x : XV} (h1 : g d sd = .ok sd1) (h2 : f sd1 = .ex x) : loopD g f (d :: r) sd = .ex x := by
  simp only [loopD, h1, h2, M.bind_ex]
theorem loop_nx {g : D → DSt → M DSt} {f : DSt → M O} {d : D} {r : List D} {sd sd1 sd2 : DSt} (h1 : g d sd = .ok sd1) (h2 : f sd1 = .ok (.nx sd2)) : loopD g f (d :: r) sd = loopD g f r sd2 := by
  simp only [loopD, h1, h2, M.bind_ok]
theorem sSeq_ex {f g : DSt → M O} {sd : DSt} {x : XV} (h : f sd = .ex x) : sSeq f g sd = .ex x := by unfold sSeq; rw [h]; rfl
theorem fin_ex {r : M O} {x : XV} (h : r = .ex x) : fin' r = .ex x := by rw [h]; rfl
theorem p_loop (W H : Int) (hW : 1 ≤ W) (hW' : W ≤ 8) (hH : 1 ≤ H) (hH' : H ≤ 8) : ∀ (rest pre : List Pt) (v2 v3 : Option S), (∀ p ∈ rest, p.ok) →
    ∃ w2 w3, loopD (gTupD 2 (gsCons (gNm 2) (gsCons (gNm 3) gsNil))) pBody (enumD pre.length (rest.map Pt.D)) [some (.im (.tup [.int W, .int H, .tup []])), some (.im (.lst ((pre ++ rest).map Pt.D))), v2, v3] =
      match fb W H pre rest with
      | some k => .ex (noP k)
      | none => .ok (.nx [some (.im (.tup [.int W, .int H, .tup []])), some (.im (.lst ((pre ++ rest).map Pt.D))), w2, w3])
  | [], pre, v2, v3, _ => ⟨v2, v3, by simp [enumD, loopD, fb]⟩
  | p :: r, pre, v2, v3, hp => by
    have e := p_turn W H hW hW' hH hH' pre r p (hp p List.mem_cons_self)
    cases q : (p.bad W H || inD p.D (pre.map Pt.D)) with
    | true =>
      rw [q] at e
      refine ⟨none, none, ?_⟩
      have e := e.trans (if_pos rfl)
      have t : gTupD 2 (gsCons (gNm 2) (gsCons (gNm 3) gsNil)) (.tup [.int (pre.length : Int), p.D]) [some (.im (.tup [.int W, .int H, .tup []])), some (.im (.lst ((pre ++ p :: r).map Pt.D))), v2, v3] =
          .ok [some (.im (.tup [.int W, .int H, .tup []])), some (.im (.lst ((pre ++ p :: r).map Pt.D))), some (.im (.int (pre.length : Int))), some (.im p.D)] := rfl
      have hfb : fb W H pre (p :: r) = some pre.length := by rw [fb, q]; rfl
      rw [hfb]
      exact loop_ex t e
    | false =>
      rw [q] at e
      have e := e.trans (if_neg (by decide))
      obtain ⟨x2, x3, ih⟩ := p_loop W H hW hW' hH hH' r (pre ++ [p]) (some (.im (.int (pre.length : Int)))) (some (.im p.D)) (fun z hz => hp z (List.mem_cons_of_mem _ hz))
      refine ⟨x2, x3, ?_⟩
      have t : gTupD 2 (gsCons (gNm 2) (gsCons (gNm 3) gsNil)) (.tup [.int (pre.length : Int), p.D]) [some (.im (.tup [.int W, .int H, .tup []])), some (.im (.lst ((pre ++ p :: r).map Pt.D))), v2, v3] =
          .ok [some (.im (.tup [.int W, .int H, .tup []])), some (.im (.lst ((pre ++ p :: r).map Pt.D))), some (.im (.int (pre.length : Int))), some (.im p.D)] := rfl
      rw [List.append_assoc, List.singleton_append, List.length_append, List.length_singleton] at ih
      have hfb : fb W H pre (p :: r) = fb W H (pre ++ [p]) r := by rw [fb, q]; rfl
      rw [hfb]
      exact (loop_nx t e).trans ih
theorem f_people (ps : List Pt) (hl : ps.length ≤ 100) (hp : ∀ p ∈ ps, p.ok) (W H : Int) (hW : 1 ≤ W) (hW' : W ≤ 8) (hH : 1 ≤ H) (hH' : H ≤ 8) :
    F_people_in [.tup [.int W, .int H, .tup []], .lst (ps.map Pt.D)] = match fb W H [] ps with
      | some k => .ex (noP k)
      | none => .ok (.ow (ps.map Pt.D)) := by
  obtain ⟨w2, w3, e⟩ := p_loop W H hW hW' hH hH' ps [] none none hp
  rw [List.nil_append, List.length_nil] at e
  have r1 : iEnum (aCons (eVar 1) aNil) [some (.im (.tup [.int W, .int H, .tup []])), some (.im (.lst (ps.map Pt.D))), none, none] = .ok (enumD 0 (ps.map Pt.D)) := by
    simp [iEnum, aCons, aNil, eVar]
  have e' := (sFor_ok (f := pBody) (g := gTupD 2 (gsCons (gNm 2) (gsCons (gNm 3) gsNil))) r1).trans e
  refine (fn2 _ _ _ _).trans ?_
  cases q : fb W H [] ps with
  | some k =>
    rw [q] at e'
    exact fin_ex (sSeq_ex e')
  | none =>
    rw [q] at e'
    exact fin_of (go e' (by simp [sRetF, fList, aCons, aNil, eVar]))
/-! ### the kinds of the refusal -/
abbrev ancL : List Str := ["NoPerson", "SightError", "ValueError"]
theorem anc_no : anc "NoPerson" = ancL := by
  unfold anc
  rw [if_pos (by decide +kernel)]
theorem inst_no (k : Nat) (cn : Str) (b : Bool) (r : List (Option S)) (h : ancL.contains cn = b) : eInstX 0 ["NoPerson"] anc cn (some (.xc (noP k)) :: r) = .ok (.bl b) := by
  have h1 : (([("NoPerson" : Str)] : List Str).contains (noP k).cls && !(noP k).ns.isEmpty) = true := by
    show (([("NoPerson" : Str)] : List Str).contains "NoPerson" && true) = true
    decide +kernel
  unfold eInstX
  rw [List.getElem?_cons_zero]
  dsimp only
  rw [h1, if_pos rfl]
  show M.ok (D.bl ((anc "NoPerson").contains cn)) = _
  rw [anc_no, h]
theorem fe1 (m : Nat) (f : DSt → M O) (x : XV) (a0 : D) : fnE 1 m f x [a0] = fin' (f (some (.xc x) :: ([some (S.im a0)] ++ List.replicate m none))) := rfl
theorem f_only (k : Nat) : F__law_only (noP k) [.int 2] = .ok (.im (.bl true)) := by
  have i1 := fun r => inst_no k "NoHall" false r (by decide +kernel)
  have i2 := fun r => inst_no k "NoText" false r (by decide +kernel)
  have i3 := fun r => inst_no k "NoPerson" true r (by decide +kernel)
  have i4 := fun r => inst_no k "NoHiding" false r (by decide +kernel)
  have i5 := fun r => inst_no k "NoRing" false r (by decide +kernel)
  have i6 := fun r => inst_no k "NoRow" false r (by decide +kernel)
  have i7 := fun r => inst_no k "NoName" false r (by decide +kernel)
  have i8 := fun r => inst_no k "SightError" true r (by decide +kernel)
  have i9 := fun r => inst_no k "ValueError" true r (by decide +kernel)
  refine (fe1 _ _ _ _).trans (fin_of (go (sd' := [some (.xc (noP k)), some (.im (.int 2)), some (.im (.lst [.bl false, .bl false, .bl true, .bl false]))]) ?_ (go (sd' := [some (.xc (noP k)), some (.im (.int 2)), some (.im (.lst [.bl false, .bl false, .bl true, .bl false, .bl false, .bl false, .bl false]))]) ?_ (ret_ok ?_))))
  · refine set_ok (d := .lst [.bl false, .bl false, .bl true, .bl false]) ?_
    unfold eLst
    rw [aC (i1 _) (aC (i2 _) (aC (i3 _) (a1 (i4 _))))]
    rfl
  · refine set_ok (d := .lst [.bl false, .bl false, .bl true, .bl false, .bl false, .bl false, .bl false]) ?_
    have e : eLst (aCons (eInstX 0 ["NoPerson"] anc "NoRing") (aCons (eInstX 0 ["NoPerson"] anc "NoRow") (aCons (eInstX 0 ["NoPerson"] anc "NoName") aNil))) [some (.xc (noP k)), some (.im (.int 2)), some (.im (.lst [.bl false, .bl false, .bl true, .bl false]))] = .ok (.lst [.bl false, .bl false, .bl false]) := by
      unfold eLst
      rw [aC (i5 _) (aC (i6 _) (a1 (i7 _)))]
      rfl
    rw [eOp, e]
    rfl
  · have c : fComp (iRange1 (aCons (eC (.int 7)) aNil)) 1 [1] (gNm 0) (eOp gEq (eVar 0) (eVar 1)) [some (.xc (noP k)), some (.im (.int 2)), some (.im (.lst [.bl false, .bl false, .bl true, .bl false, .bl false, .bl false, .bl false]))] = .ok [.bl false, .bl false, .bl true, .bl false, .bl false, .bl false, .bl false] := by
      simp [fComp, iRange1, aCons, aNil, eC, rangeD, few, mapD, gNm, eOp, eVar, gEq, sdC, capS, D.dep, D.eq, List.range_succ_eq_map]
    have e3 : eOp gEq (eVar 2) (eNew (fComp (iRange1 (aCons (eC (.int 7)) aNil)) 1 [1] (gNm 0) (eOp gEq (eVar 0) (eVar 1)))) [some (.xc (noP k)), some (.im (.int 2)), some (.im (.lst [.bl false, .bl false, .bl true, .bl false, .bl false, .bl false, .bl false]))] = .ok (.bl true) := by
      simp [eOp, eVar, eNew, c, gEq, D.dep, D.deps, D.eq, D.eqs]
    rw [eAnd, i8]
    simp only [M.bind_ok, asB, if_true]
    rw [eAnd, i9]
    simp only [M.bind_ok, asB, if_true]
    exact e3
end Law

set_option maxRecDepth 100000
set_option maxHeartbeats 4000000
set_option linter.unusedSimpArgs false
set_option exponentiation.threshold 5000
namespace Law
open PySem L2 DL
theorem cut_4_12 (ns : List Int) : ∃ cs : List Int, cutD (ns.map D.int) (some 4) (some 12) = cs.map D.int ∧ cs.length ≤ 8 := by
  have e1 : HT.sIx (ns.map D.int).length 0 (some (4 : Int)) = min 4 (ns.map D.int).length := HT.sIx_nat _ _ 4
  have e2 : HT.sIx (ns.map D.int).length (ns.map D.int).length (some (12 : Int)) = min 12 (ns.map D.int).length := HT.sIx_nat _ _ 12
  refine ⟨(ns.drop (min 4 (ns.map D.int).length)).take (min 12 (ns.map D.int).length - min 4 (ns.map D.int).length), ?_, ?_⟩
  · unfold cutD
    rw [e1, e2, ← List.map_drop, ← List.map_take]
  · rw [List.length_take]; omega
noncomputable def apBody : DSt → M O := sApp 3 (eCall F__law_point (aCons (eCall F__law_numbers (aCons (eVar 4) (aCons (eC (.int 4)) aNil))) (aCons (eVar 1) (aCons (eVar 2) aNil))))
theorem ap_loop (W H : Int) (hW : 1 ≤ W) (hW' : W ≤ 8) (hH : 1 ≤ H) (hH' : H ≤ 8) (s0 s5 s6 s7 s8 s9 s10 : Option S) : ∀ (cs : List Int) (ps : List Pt) (v4 : Option S), ps.length + cs.length ≤ 100 → (∀ p ∈ ps, p.ok) →
    ∃ (qs : List Pt) (w4 : Option S), qs.length = ps.length + cs.length ∧ (∀ p ∈ qs, p.ok) ∧ loopD (gNm 4) apBody (cs.map D.int) [s0, some (.im (.int W)), some (.im (.int H)), some (.ow (ps.map Pt.D)), v4, s5, s6, s7, s8, s9, s10] =
      .ok (.nx [s0, some (.im (.int W)), some (.im (.int H)), some (.ow (qs.map Pt.D)), w4, s5, s6, s7, s8, s9, s10])
  | [], ps, v4, _, hp => ⟨ps, v4, by simp, hp, by simp [loopD]⟩
  | c :: cs, ps, v4, h, hp => by
    rw [List.length_cons] at h
    obtain ⟨es, hl, ho, en⟩ := f_numbers c 4 (by decide)
    obtain ⟨p, pk, ep⟩ := f_point es hl ho W H hW hW' hH hH'
    obtain ⟨qs, w4, h1, h2, ih⟩ := ap_loop W H hW hW' hH hH' s0 s5 s6 s7 s8 s9 s10 cs (ps ++ [p]) (some (.im (.int c))) (by rw [List.length_append]; simp; omega) (fun z hz => by
      rcases List.mem_append.mp hz with q | q
      · exact hp z q
      · have : z = p := by simpa using q
        rw [this]; exact pk)
    refine ⟨qs, w4, by rw [h1]; simp; omega, h2, ?_⟩
    have en : F__law_numbers [.int c, .int 4] = .ok (.ow (es.map D.int)) := en
    have c1 : eCall F__law_numbers (aCons (eVar 4) (aCons (eC (.int 4)) aNil)) [s0, some (.im (.int W)), some (.im (.int H)), some (.ow (ps.map Pt.D)), some (.im (.int c)), s5, s6, s7, s8, s9, s10] = .ok (.lst (es.map D.int)) := call_ok (ds := [.int c, .int 4]) rfl en rfl
    have c2 : eCall F__law_point (aCons (eCall F__law_numbers (aCons (eVar 4) (aCons (eC (.int 4)) aNil))) (aCons (eVar 1) (aCons (eVar 2) aNil))) [s0, some (.im (.int W)), some (.im (.int H)), some (.ow (ps.map Pt.D)), some (.im (.int c)), s5, s6, s7, s8, s9, s10] = .ok p.D := call_ok (ds := [.lst (es.map D.int), .int W, .int H]) (aC c1 rfl) ep rfl
    have t : apBody [s0, some (.im (.int W)), some (.im (.int H)), some (.ow (ps.map Pt.D)), some (.im (.int c)), s5, s6, s7, s8, s9, s10] = .ok (.nx [s0, some (.im (.int W)), some (.im (.int H)), some (.ow ((ps ++ [p]).map Pt.D)), some (.im (.int c)), s5, s6, s7, s8, s9, s10]) := by
      have f1 : few (ps.map Pt.D) = true := few_of (by rw [List.length_map]; omega)
      unfold apBody sApp
      simp only [List.getElem?_cons_zero, List.getElem?_cons_succ, c2, M.bind_ok, f1, if_true]
      rw [List.map_append]
      rfl
    exact (loop_nx (g := gNm 4) rfl t).trans ih
noncomputable def bdBody : DSt → M O := sIf (DL.tB (eOp gEq (eOp gMod (eOp gFdiv (eCall F__law_cell (aCons (eVar 0) (aCons (eC (.int 1)) aNil))) (eOp gPlus (eC (.int 1)) (eVar 5))) (eC (.int 2))) (eC (.int 1)))) (sSet 3 (eCall F__law_bent (aCons (eVar 3) (aCons (eCall F__law_cell (aCons (eVar 0) (aCons (eOp gPlus (eC (.int 2)) (eVar 5)) aNil))) (aCons (eVar 1) (aCons (eVar 2) aNil)))))) sNil
theorem bd_turn (ns : List Int) (W H : Int) (hW : 1 ≤ W) (hW' : W ≤ 8) (hH : 1 ≤ H) (hH' : H ≤ 8) (s4 s6 s7 s8 s9 s10 : Option S) (ps : List Pt) (hl : ps.length ≤ 100) (hp : ∀ p ∈ ps, p.ok) (k : Nat) (hk : k < 2) :
    ∃ qs : List Pt, qs.length = ps.length ∧ (∀ q ∈ qs, q.ok) ∧ bdBody [some (.im (.lst (ns.map D.int))), some (.im (.int W)), some (.im (.int H)), some (.im (.lst (ps.map Pt.D))), s4, some (.im (.int (k : Int))), s6, s7, s8, s9, s10] =
      .ok (.nx [some (.im (.lst (ns.map D.int))), some (.im (.int W)), some (.im (.int H)), some (.im (.lst (qs.map Pt.D))), s4, some (.im (.int (k : Int))), s6, s7, s8, s9, s10]) := by
  have f1 : F__law_cell [.lst (ns.map D.int), .int 1] = .ok (.im (.int (cz ns 1))) := f_cell ns 1
  have f2 : F__law_cell [.lst (ns.map D.int), .int (2 + (k : Int))] = .ok (.im (.int (cz ns (2 + k)))) := by
    have := f_cell ns (2 + k)
    rwa [show ((2 + k : Nat) : Int) = 2 + (k : Int) by omega] at this
  generalize ns.map D.int = L at f1 f2 ⊢
  have g1 := gFd (i := cz ns 1) (j := 1 + (k : Int)) (by omega) (sm30 (by omega) (by omega))
  have g2 := gM (i := cz ns 1 / (1 + (k : Int))) (j := 2) (by decide)
  have t : DL.tB (eOp gEq (eOp gMod (eOp gFdiv (eCall F__law_cell (aCons (eVar 0) (aCons (eC (.int 1)) aNil))) (eOp gPlus (eC (.int 1)) (eVar 5))) (eC (.int 2))) (eC (.int 1))) [some (.im (.lst L)), some (.im (.int W)), some (.im (.int H)), some (.im (.lst (ps.map Pt.D))), s4, some (.im (.int (k : Int))), s6, s7, s8, s9, s10] =
      .ok (cz ns 1 / (1 + (k : Int)) % 2 == 1) := by
    have c1 : eCall F__law_cell (aCons (eVar 0) (aCons (eC (.int 1)) aNil)) [some (.im (.lst L)), some (.im (.int W)), some (.im (.int H)), some (.im (.lst (ps.map Pt.D))), s4, some (.im (.int (k : Int))), s6, s7, s8, s9, s10] = .ok (.int (cz ns 1)) := call_ok (ds := [.lst L, .int 1]) rfl f1 rfl
    simp only [DL.tB, eOp, c1, M.bind_ok, eC, eVar, List.getElem?_cons_zero, List.getElem?_cons_succ, gPlus, g1, g2, gEq, D.dep, D.eq, Nat.zero_le, if_true, asB]
  cases q : (cz ns 1 / (1 + (k : Int)) % 2 == 1) with
  | false =>
    refine ⟨ps, rfl, hp, ?_⟩
    unfold bdBody sIf
    rw [t, q]
    rfl
  | true =>
    obtain ⟨qs, h1, h2, e⟩ := f_bent ps hl hp (cz ns (2 + k)) W H hW hW' hH hH'
    refine ⟨qs, h1, h2, ?_⟩
    unfold bdBody sIf
    rw [t, q]
    have c2 : eCall F__law_cell (aCons (eVar 0) (aCons (eOp gPlus (eC (.int 2)) (eVar 5)) aNil)) [some (.im (.lst L)), some (.im (.int W)), some (.im (.int H)), some (.im (.lst (ps.map Pt.D))), s4, some (.im (.int (k : Int))), s6, s7, s8, s9, s10] = .ok (.int (cz ns (2 + k))) := call_ok (ds := [.lst L, .int (2 + (k : Int))]) rfl f2 rfl
    exact set_ok (call_ok (ds := [.lst (ps.map Pt.D), .int (cz ns (2 + k)), .int W, .int H]) (aC rfl (aC c2 rfl)) e rfl)
end Law

set_option maxRecDepth 100000
set_option maxHeartbeats 4000000
set_option linter.unusedSimpArgs false
set_option exponentiation.threshold 5000
namespace Law
open PySem L2 DL
theorem lst_dep (ps : List Pt) : (D.lst (ps.map Pt.D)).dep ≤ 60 := by
  have := pts_deps ps
  rw [D.dep]; omega
theorem law_true (ns : List Int) (_ : ns.length ≤ 63) : F_law [.lst (ns.map D.int)] = .ok (.im (.bl true)) := by
  have f0 : F__law_cell [.lst (ns.map D.int), .int 0] = .ok (.im (.int (cz ns 0))) := f_cell ns 0
  obtain ⟨cs, hcut, hcs⟩ := cut_4_12 ns
  have m1 : 0 ≤ cz ns 0 % 8 := Int.emod_nonneg _ (by decide)
  have m2 : cz ns 0 % 8 < 8 := Int.emod_lt_of_pos _ (by decide)
  have m3 : 0 ≤ cz ns 0 / 8 % 8 := Int.emod_nonneg _ (by decide)
  have m4 : cz ns 0 / 8 % 8 < 8 := Int.emod_lt_of_pos _ (by decide)
  have g1 := gM (i := cz ns 0) (j := 8) (by decide)
  have g2 := gFd (i := cz ns 0) (j := 8) (by decide) (sm30 (by decide) (by decide))
  have g3 := gM (i := cz ns 0 / 8) (j := 8) (by decide)
  have c0 : ∀ r : List (Option S), eCall F__law_cell (aCons (eVar 0) (aCons (eC (.int 0)) aNil)) (some (.im (.lst (ns.map D.int))) :: r) = .ok (.int (cz ns 0)) := fun r => call_ok (ds := [.lst (ns.map D.int), .int 0]) rfl f0 rfl
  have w1 : ∀ r : List (Option S), eOp gPlus (eC (.int 1)) (eOp gMod (eCall F__law_cell (aCons (eVar 0) (aCons (eC (.int 0)) aNil))) (eC (.int 8))) (some (.im (.lst (ns.map D.int))) :: r) = .ok (.int (1 + cz ns 0 % 8)) := fun r => by
    simp only [eOp, eC, M.bind_ok, c0, g1, gPlus]
  have w2 : ∀ r : List (Option S), eOp gPlus (eC (.int 1)) (eOp gMod (eOp gFdiv (eCall F__law_cell (aCons (eVar 0) (aCons (eC (.int 0)) aNil))) (eC (.int 8))) (eC (.int 8))) (some (.im (.lst (ns.map D.int))) :: r) = .ok (.int (1 + cz ns 0 / 8 % 8)) := fun r => by
    simp only [eOp, eC, M.bind_ok, c0, g2, g3, gPlus]
  obtain ⟨W, hWe⟩ : ∃ W : Int, W = 1 + cz ns 0 % 8 := ⟨_, rfl⟩
  obtain ⟨H, hHe⟩ : ∃ H : Int, H = 1 + cz ns 0 / 8 % 8 := ⟨_, rfl⟩
  rw [← hWe] at w1
  rw [← hHe] at w2
  have hW : 1 ≤ W := by omega
  have hW' : W ≤ 8 := by omega
  have hH : 1 ≤ H := by omega
  have hH' : H ≤ 8 := by omega
  obtain ⟨ps, v4, p1, p2, e4⟩ := ap_loop W H hW hW' hH hH' (some (.im (.lst (ns.map D.int)))) none none none none none none cs [] none (by simp; omega) (fun p hp => by simp at hp)
  have hp8 : ps.length ≤ 100 := by rw [p1]; simp; omega
  obtain ⟨qs, q1, q2, e5⟩ := bd_turn ns W H hW hW' hH hH' v4 none none none none none ps hp8 p2 0 (by decide)
  obtain ⟨rs, r1, r2, e6⟩ := bd_turn ns W H hW hW' hH hH' v4 none none none none none qs (by omega) q2 1 (by decide)
  have hr8 : rs.length ≤ 100 := by omega
  have i4 : iSeq (eSl (eVar 0) (oSome (eC (.int 4))) (oSome (eC (.int 12)))) [some (.im (.lst (ns.map D.int))), some (.im (.int W)), some (.im (.int H)), some (.ow []), none, none, none, none, none, none, none] = .ok (cs.map D.int) := by
    simp only [iSeq, eSl, eVar, oSome, eC, M.bind_ok, List.getElem?_cons_zero, gSl, hcut]
  have i5 : iRange1 (aCons (eC (.int 2)) aNil) [some (.im (.lst (ns.map D.int))), some (.im (.int W)), some (.im (.int H)), some (.im (.lst (ps.map Pt.D))), v4, none, none, none, none, none, none] = .ok [.int 0, .int 1] := by
    simp [iRange1, aCons, aNil, eC, rangeD, List.range_succ_eq_map]
  have e5 : bdBody [some (.im (.lst (ns.map D.int))), some (.im (.int W)), some (.im (.int H)), some (.im (.lst (ps.map Pt.D))), v4, some (.im (.int 0)), none, none, none, none, none] = .ok (.nx [some (.im (.lst (ns.map D.int))), some (.im (.int W)), some (.im (.int H)), some (.im (.lst (qs.map Pt.D))), v4, some (.im (.int 0)), none, none, none, none, none]) := e5
  have e6 : bdBody [some (.im (.lst (ns.map D.int))), some (.im (.int W)), some (.im (.int H)), some (.im (.lst (qs.map Pt.D))), v4, some (.im (.int 1)), none, none, none, none, none] = .ok (.nx [some (.im (.lst (ns.map D.int))), some (.im (.int W)), some (.im (.int H)), some (.im (.lst (rs.map Pt.D))), v4, some (.im (.int 1)), none, none, none, none, none]) := e6
  have l5 : loopD (gNm 5) bdBody [.int 0, .int 1] [some (.im (.lst (ns.map D.int))), some (.im (.int W)), some (.im (.int H)), some (.im (.lst (ps.map Pt.D))), v4, none, none, none, none, none, none] =
      .ok (.nx [some (.im (.lst (ns.map D.int))), some (.im (.int W)), some (.im (.int H)), some (.im (.lst (rs.map Pt.D))), v4, some (.im (.int 1)), none, none, none, none, none]) :=
    (loop_nx (g := gNm 5) rfl e5).trans ((loop_nx (g := gNm 5) rfl e6).trans rfl)
  have hdue := f_due rs hr8 r2 W H hW hW' hH hH'
  have hpe := f_people rs hr8 r2 W H hW hW' hH hH'
  have hdep := lst_dep rs
  have hrefl := D.eq_refl (.lst (rs.map Pt.D))
  have hfew : few (rs.map Pt.D) = true := few_of (by rw [List.length_map]; omega)
  refine (fn1 _ _ _).trans (fin_of (go (set_ok (w1 _)) (go (set_ok (w2 _)) (go (own_nil 3 _) (go ((sFor_ok i4).trans e4) ?_)))))
  generalize ns.map D.int = L at i5 l5 ⊢
  generalize hR : rs.map Pt.D = R at l5 hdue hpe hdep hrefl hfew ⊢
  show sSeq _ _ [some (.im (.lst L)), some (.im (.int W)), some (.im (.int H)), some (.im (.lst (ps.map Pt.D))), v4, none, none, none, none, none, none] = _
  refine go ((sFor_ok i5).trans l5) (go (sd' := [some (.im (.lst L)), some (.im (.int W)), some (.im (.int H)), some (.im (.lst R)), v4, some (.im (.int 1)), some (.im (.lst R)), none, none, none, none]) ?_ (go (sd' := [some (.im (.lst L)), some (.im (.int W)), some (.im (.int H)), some (.im (.lst R)), v4, some (.im (.int 1)), some (.im (.lst R)), some (.im .non), none, none, none]) rfl
    (go (sd' := [some (.im (.lst L)), some (.im (.int W)), some (.im (.int H)), some (.im (.lst R)), v4, some (.im (.int 1)), some (.im (.lst R)), some (.im .non), some (.im .non), none, none]) rfl ?_)))
  · exact set_ok (cb_ok (a1 (d := .lst R) rfl) rfl)
  have ta : aCons (eTup (aCons (eVar 1) (aCons (eVar 2) (aCons (eTup aNil) aNil)))) (aCons (eVar 6) aNil) [some (.im (.lst L)), some (.im (.int W)), some (.im (.int H)), some (.im (.lst R)), v4, some (.im (.int 1)), some (.im (.lst R)), some (.im .non), some (.im .non), none, none] = .ok [.tup [.int W, .int H, .tup []], .lst R] := by
    simp [aCons, aNil, eTup, eVar, few]
  have du : ∀ s7 s8 s9, eCall F__law_due (aCons (eVar 3) (aCons (eVar 1) (aCons (eVar 2) aNil))) [some (.im (.lst L)), some (.im (.int W)), some (.im (.int H)), some (.im (.lst R)), v4, some (.im (.int 1)), some (.im (.lst R)), s7, s8, s9, none] = .ok (dueD (fb W H [] rs)) := fun s7 s8 s9 => call_ok (ds := [.lst R, .int W, .int H]) rfl hdue rfl
  have ne : gNe (.lst R) (.lst R) = .ok (.bl false) := by unfold gNe; rw [if_pos hdep, hrefl]; rfl
  have eq : gEq (.lst R) (.lst R) = .ok (.bl true) := by unfold gEq; rw [if_pos hdep, hrefl]
  cases q : fb W H [] rs with
  | some k =>
    rw [q] at hpe du
    refine go (sd' := [some (.im (.lst L)), some (.im (.int W)), some (.im (.int H)), some (.im (.lst R)), v4, some (.im (.int 1)), some (.im (.lst R)), some (.im .non), some (.xc (noP k)), none, none]) ?_ ?_
    · unfold sTry
      rw [ta]
      dsimp only
      rw [hpe]
      dsimp only
      rw [if_pos (show ([("NoPerson" : Str)] : List Str).contains (noP k).cls = true by show ([("NoPerson" : Str)] : List Str).contains "NoPerson" = true; decide +kernel)]
      rfl
    refine go (set_ok (du _ _ _)) (go (sd' := [some (.im (.lst L)), some (.im (.int W)), some (.im (.int H)), some (.im (.lst R)), v4, some (.im (.int 1)), some (.im (.lst R)), some (.im .non), some (.xc (noP k)), none, some (.im (.int (k : Int)))]) ?_ (sSeq_rt ?_))
    · simp [sIf, DL.tB, eOp, eVar, ne, asB, sNil, dueD]
    · have on : eCallE 8 F__law_only (aCons (eC (.int 2)) aNil) [some (.im (.lst L)), some (.im (.int W)), some (.im (.int H)), some (.im (.lst R)), v4, some (.im (.int 1)), some (.im (.lst R)), some (.im .non), some (.xc (noP k)), none, some (.im (.int (k : Int)))] = .ok (.bl true) := by
        unfold eCallE
        simp only [List.getElem?_cons_zero, List.getElem?_cons_succ]
        rw [a1 (d := .int 2) rfl]
        simp only [M.bind_ok, f_only]
      have fl : eFldX 8 ["NoPerson"] "number" [some (.im (.lst L)), some (.im (.int W)), some (.im (.int H)), some (.im (.lst R)), v4, some (.im (.int 1)), some (.im (.lst R)), some (.im .non), some (.xc (noP k)), none, some (.im (.int (k : Int)))] = .ok (.int (k : Int)) := by
        unfold eFldX
        simp only [List.getElem?_cons_zero, List.getElem?_cons_succ]
        rw [if_pos (show (([("NoPerson" : Str)] : List Str).contains (noP k).cls && (noP k).ns == ([("number" : Str)] : List Str)) = true by show (([("NoPerson" : Str)] : List Str).contains "NoPerson" && ([("number" : Str)] : List Str) == ([("number" : Str)] : List Str)) = true; decide +kernel)]
        rfl
      have t1 : DL.tB (eOp gIsNotN (eVar 10) (eC .non)) [some (.im (.lst L)), some (.im (.int W)), some (.im (.int H)), some (.im (.lst R)), v4, some (.im (.int 1)), some (.im (.lst R)), some (.im .non), some (.xc (noP k)), none, some (.im (.int (k : Int)))] = .ok true := by
        simp [DL.tB, eOp, eVar, eC, gIsNotN, asB, D.isN]
      unfold sIf
      rw [t1]
      simp only [M.bind_ok, if_true]
      refine ret_ok ?_
      rw [eAnd, show eNotNS 8 [some (.im (.lst L)), some (.im (.int W)), some (.im (.int H)), some (.im (.lst R)), v4, some (.im (.int 1)), some (.im (.lst R)), some (.im .non), some (.xc (noP k)), none, some (.im (.int (k : Int)))] = .ok (.bl true) from rfl]
      simp only [M.bind_ok, asB, if_true]
      rw [eAnd, on]
      simp only [M.bind_ok, asB, if_true]
      rw [eOp, fl]
      simp [eVar, gEq, D.dep, D.eq]
  | none =>
    rw [q] at hpe du
    refine go (sd' := [some (.im (.lst L)), some (.im (.int W)), some (.im (.int H)), some (.im (.lst R)), v4, some (.im (.int 1)), some (.im (.lst R)), some (.ow R), some (.im .non), none, none]) ?_ ?_
    · unfold sTry
      rw [ta]
      dsimp only
      rw [hpe]
      rfl
    refine go (set_ok (du _ _ _)) (go (sd' := [some (.im (.lst L)), some (.im (.int W)), some (.im (.int H)), some (.im (.lst R)), v4, some (.im (.int 1)), some (.im (.lst R)), some (.ow R), some (.im .non), none, some (.im .non)]) ?_ (go (sd' := [some (.im (.lst L)), some (.im (.int W)), some (.im (.int H)), some (.im (.lst R)), v4, some (.im (.int 1)), some (.im (.lst R)), some (.ow R), some (.im .non), none, some (.im .non)]) ?_ (go (sd' := [some (.im (.lst L)), some (.im (.int W)), some (.im (.int H)), some (.im (.lst R)), v4, some (.im (.int 1)), some (.im (.lst R)), some (.ow R), some (.im .non), none, some (.im .non)]) ?_ (go (sd' := [some (.im (.lst L)), some (.im (.int W)), some (.im (.int H)), some (.im (.lst R)), v4, some (.im (.int 1)), some (.im (.lst R)), some (.ow (R ++ [.int 0])), some (.im .non), none, some (.im .non)]) ?_ (ret_ok ?_)))))
    · simp [sIf, DL.tB, eOp, eVar, ne, asB, sNil, dueD]
    · simp [sIf, DL.tB, eOp, eVar, eC, gIsNotN, asB, sNil, D.isN]
    · simp [sIf, tView, frz, DL.tO, DL.tN, DL.tB, eNotNS, nonD, eIs, isD, eOp, eVar, ne, asB, sNil]
    · simp [sApp, eC, hfew]
    · simp [eOp, eVar, eq]
end Law

open PySem PySem.W PyProof.Rows
-- LAST
set_option maxRecDepth 100000 in
set_option maxHeartbeats 0 in
theorem PySem.Challenge.cw_selfsight_k08_people_holds : PySem.Challenge.rw_selfsight_k08_people.Holds := by
  w_on; o_law; k_head; (case hw => w_witness2)
  k_fill
  refine Law.walk (l := PySem.Challenge.rw_selfsight_k08_people) rfl rfl Law.law_true (fun w h Y => PySem.W.kIn_of Y) ?F
  case F =>
    intro w mg fa h KX G hmg
    refine' Law.all_mk KX G hmg ?a0 ?l0 ?c0 ?k0 ?a1 ?l1 ?c1 ?k1 ?a2 ?l2 ?c2 ?k2 ?a3 ?l3 ?c3 ?k3 ?a4 ?l4 ?c4 ?k4 ?a5 ?l5 ?c5 ?k5 ?a6 ?l6 ?c6 ?k6 ?a7 ?l7 ?c7 ?k7 ?a8 ?l8 ?c8 ?k8 ?a9 ?l9 ?c9 ?k9 ?a10 ?l10 ?c10 ?k10 ?a11 ?l11 ?c11 ?k11 ?a12 ?l12 ?c12 ?k12 ?ya_NoPerson ?ya_NoHiding ?ya_NoText ?ya_NoHall ?ya_NoName ?ya_NoRow ?ya_NoRing ?ya_SightError ?yd_NoPerson ?yi_NoPerson ?yl_NoPerson ?yc_NoPerson ?yk_NoPerson ?yp_NoPerson ?yf_NoPerson ?yn_NoPerson_number ?ye_NoPerson ?yx_NoPerson ?yt_NoPerson ?ko_NoPerson_NoHiding ?ko_NoPerson_NoPerson ?ko_NoPerson_NoText ?ko_NoPerson_NoHall ?ko_NoPerson_NoName ?ko_NoPerson_NoRow ?ko_NoPerson_NoRing ?ko_NoPerson_SightError ?ko_NoPerson_ValueError ?hi_NoPerson_SightError ?z_enumerate ?z_list ?z_abs ?z_range ?z_int ?z_sorted ?z_isinstance ?z_ValueError ?z_tuple ?z_len ?z_zip
    (case a0 => k_is)
    (case l0 => k_is)
    (case c0 => k_is)
    (case k0 => k_is)
    (case a1 => k_is)
    (case l1 => k_is)
    (case c1 => k_is)
    (case k1 => k_is)
    (case a2 => k_is)
    (case l2 => k_is)
    (case c2 => k_is)
    (case k2 => k_is)
    (case a3 => k_is)
    (case l3 => k_is)
    (case c3 => k_is)
    (case k3 => k_is)
    (case a4 => k_is)
    (case l4 => k_is)
    (case c4 => k_is)
    (case k4 => k_is)
    (case a5 => k_is)
    (case l5 => k_is)
    (case c5 => k_is)
    (case k5 => k_is)
    (case a6 => k_is)
    (case l6 => k_is)
    (case c6 => k_is)
    (case k6 => k_is)
    (case a7 => k_is)
    (case l7 => k_is)
    (case c7 => k_is)
    (case k7 => k_is)
    (case a8 => k_is)
    (case l8 => k_is)
    (case c8 => k_is)
    (case k8 => k_is)
    (case a9 => k_is)
    (case l9 => k_is)
    (case c9 => k_is)
    (case k9 => k_is)
    (case a10 => k_is)
    (case l10 => k_is)
    (case c10 => k_is)
    (case k10 => k_is)
    (case a11 => k_is)
    (case l11 => k_is)
    (case c11 => k_is)
    (case k11 => k_is)
    (case a12 => k_is)
    (case l12 => k_is)
    (case c12 => k_is)
    (case k12 => k_is)
    (case ya_NoPerson => k_is)
    (case ya_NoHiding => k_is)
    (case ya_NoText => k_is)
    (case ya_NoHall => k_is)
    (case ya_NoName => k_is)
    (case ya_NoRow => k_is)
    (case ya_NoRing => k_is)
    (case ya_SightError => k_is)
    (case yd_NoPerson => k_is)
    (case yi_NoPerson => k_is)
    (case yl_NoPerson => k_is)
    (case yc_NoPerson => k_is)
    (case yk_NoPerson => k_is)
    (case yp_NoPerson => k_is)
    (case yf_NoPerson => k_is)
    (case yn_NoPerson_number => k_is)
    (case ye_NoPerson => kernel_rfl)
    (case yx_NoPerson => kernel_rfl)
    (case yt_NoPerson => kernel_rfl)
    (case ko_NoPerson_NoHiding => kernel_rfl)
    (case ko_NoPerson_NoPerson => kernel_rfl)
    (case ko_NoPerson_NoText => kernel_rfl)
    (case ko_NoPerson_NoHall => kernel_rfl)
    (case ko_NoPerson_NoName => kernel_rfl)
    (case ko_NoPerson_NoRow => kernel_rfl)
    (case ko_NoPerson_NoRing => kernel_rfl)
    (case ko_NoPerson_SightError => kernel_rfl)
    (case ko_NoPerson_ValueError => kernel_rfl)
    (case hi_NoPerson_SightError => kernel_rfl)
    (case z_enumerate => k_is)
    (case z_list => k_is)
    (case z_abs => k_is)
    (case z_range => k_is)
    (case z_int => k_is)
    (case z_sorted => k_is)
    (case z_isinstance => k_is)
    (case z_ValueError => k_is)
    (case z_tuple => k_is)
    (case z_len => k_is)
    (case z_zip => k_is)

