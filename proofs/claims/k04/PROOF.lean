import PyProof.Rows.All
import Wide.All
import OpenK.AllK
import Wide.FinOn
import Lean
import PyProof.EqAt
import PyProof.EqKinds
import PyProof.TupleCall
import PyProof.NeKinds
import PySem.Challenge.RW_glide_k04_a_spot
set_option Elab.async false
set_option linter.all false
set_option maxRecDepth 100000
/-! THE HAND LAYER, for ints, bools, texts, own classes, LISTS and tuples (index, slices, in, append, pop ..), calls, loops. Paste it whole ahead of your own text; what your proof does not reach may be deleted. -/
namespace L2
open PySem PySem.Spec PyProof.Rows

/-- a key: an int or a str -/
abbrev Key := Sum Int Str
def keyIs : Key → Value → Bool
  | .inl k, v => Value.isInt k v
  | .inr x, v => Value.isStrOf x v
def keyH (w : World) : Key → Int
  | .inl k => hashInt k
  | .inr x => hashStr w x
theorem keyIs_shape : ∀ {k : Key} {v : Value}, keyIs k v = true → (∃ i t, k = Sum.inl i ∧ v = Value.int i t) ∨ (∃ x t, k = Sum.inr x ∧ v = Value.str x t)
  | .inl i, v, h => by
    obtain ⟨t, e⟩ := Value.isInt_shape (k := i) (v := v) h
    exact .inl ⟨i, t, rfl, e⟩
  | .inr x, v, h => by
    obtain ⟨t, e⟩ := Value.isStrOf_shape (x := x) (v := v) h
    exact .inr ⟨x, t, rfl, e⟩
theorem keyIs_int (i : Int) (t : Tok) : keyIs (.inl i) (.int i t) = true := by simp [keyIs, Value.isInt]
theorem keyIs_str (x : Str) (t : Tok) : keyIs (.inr x) (.str x t) = true := by simp [keyIs, Value.isStrOf]
theorem key_ll (a b : Int) : decide ((Sum.inl a : Key) = Sum.inl b) = (a == b) := by
  by_cases e : a = b
  · subst e; simp
  · have h : ¬ (Sum.inl a : Key) = Sum.inl b := fun q => e (Sum.inl.inj q)
    rw [decide_eq_false h]
    exact (beq_eq_false_iff_ne.mpr e).symm
theorem key_rr (a b : Str) : decide ((Sum.inr a : Key) = Sum.inr b) = decide (a = b) := by
  by_cases e : a = b
  · subst e; simp
  · have h : ¬ (Sum.inr a : Key) = Sum.inr b := fun q => e (Sum.inr.inj q)
    rw [decide_eq_false h, decide_eq_false e]
theorem key_lr (a : Int) (b : Str) : decide ((Sum.inl a : Key) = Sum.inr b) = false := decide_eq_false (fun q => nomatch q)
theorem key_rl (a : Str) (b : Int) : decide ((Sum.inr a : Key) = Sum.inl b) = false := decide_eq_false (fun q => nomatch q)

def mixKind (prog : Program) (w : World) : PySem.KeyKind prog w Key where
  is := keyIs
  hash := keyH w
  inj := fun v a b ha hb => by
    rcases keyIs_shape ha with ⟨i, t, rfl, rfl⟩ | ⟨x, t, rfl, rfl⟩
    · rcases keyIs_shape hb with ⟨j, u, rfl, e⟩ | ⟨y, u, rfl, e⟩
      · injection e with e1 _; rw [e1]
      · exact nomatch e
    · rcases keyIs_shape hb with ⟨j, u, rfl, e⟩ | ⟨y, u, rfl, e⟩
      · exact nomatch e
      · injection e with e1 _; rw [e1]
  byValue := fun k v h => by
    rcases keyIs_shape h with ⟨i, t, rfl, rfl⟩ | ⟨x, t, rfl, rfl⟩ <;> rfl
  pyHash := fun hv h => by
    rcases keyIs_shape hv with ⟨i, t, rfl, rfl⟩ | ⟨x, t, rfl, rfl⟩
    · exact wpAny_pyHash_int h
    · exact wpAny_pyHash_str h
  eqBool := fun hu hv h => by
    rcases keyIs_shape hu with ⟨i, t, rfl, rfl⟩ | ⟨x, t, rfl, rfl⟩
    · rcases keyIs_shape hv with ⟨j, u, rfl, rfl⟩ | ⟨y, u, rfl, rfl⟩
      · rw [key_ll] at h; exact wpAny_eqBool_int h
      · rw [key_lr] at h; exact SeqAt.EqAt.int_str i t y u _ _ _ _ h
    · rcases keyIs_shape hv with ⟨j, u, rfl, rfl⟩ | ⟨y, u, rfl, rfl⟩
      · rw [key_rl] at h; exact SeqAt.EqAt.str_int x t j u _ _ _ _ h
      · rw [key_rr] at h; exact wpAny_eqBool_str h
  «strs» := fun k x t v h => by
    rcases keyIs_shape h with ⟨i, u, rfl, e⟩ | ⟨y, u, rfl, e⟩
    · exact nomatch e
    · injection e with e1 _
      subst e1
      cases v <;> rfl

theorem mixKind_is (prog : Program) (w : World) (k : Key) (v : Value) : (mixKind prog w).is k v = keyIs k v := rfl
theorem mixKind_int (prog : Program) (w : World) (i : Int) (t : Tok) : (mixKind prog w).is (.inl i) (.int i t) = true := keyIs_int i t
theorem mixKind_str (prog : Program) (w : World) (x : Str) (t : Tok) : (mixKind prog w).is (.inr x) (.str x t) = true := keyIs_str x t
end L2

namespace L2
open PySem PySem.Spec PyProof.Rows

/-- a value, without the heap -/
inductive V where
  | non | bl (b : Bool) | int (i : Int) | str (x : Str) | byt (b : Array UInt8) | flt (b : UInt64) | ref (a : Addr) | ty (n : String)
  deriving DecidableEq

def RelV : V → Value → Prop
  | .non, u => u = Value.none
  | .bl b, u => u = Value.bool b
  | .int i, u => ∃ t, u = Value.int i t
  | .str x, u => ∃ t, u = Value.str x t
  | .byt b, u => ∃ t, u = Value.bytes b t
  | .flt b, u => ∃ t, u = Value.float b t
  | .ref a, u => u = Value.ref a
  | .ty n, u => u = Value.type n

abbrev Vals : List V → List Value → Prop := Paired RelV
theorem Vals.length {xs : List V} {us : List Value} (r : Vals xs us) : xs.length = us.length := Paired.length r
theorem Vals.get : ∀ {xs : List V} {us : List Value} {i : Nat} {x : V}, Vals xs us → xs[i]? = some x → ∃ u, us[i]? = some u ∧ RelV x u
  | _, _, _, _, .nil, e => by simp at e
  | _, _, 0, _, .cons r _, e => by simp at e; subst e; exact ⟨_, rfl, r⟩
  | _, _, i + 1, x, .cons _ t, e => by
    obtain ⟨u, h1, h2⟩ := Vals.get (i := i) (x := x) t (by simpa using e)
    exact ⟨u, by simpa using h1, h2⟩
theorem Vals.set {x : V} {u : Value} (r : RelV x u) : ∀ {xs : List V} {us : List Value} (i : Nat), Vals xs us → Vals (xs.set i x) (us.set i u)
  | _, _, _, .nil => .nil
  | _, _, 0, .cons _ t => .cons r t
  | _, _, i + 1, .cons q t => .cons q (Vals.set r i t)
theorem Vals.append : ∀ {xs ys : List V} {us ws : List Value}, Vals xs us → Vals ys ws → Vals (xs ++ ys) (us ++ ws)
  | _, _, _, _, .nil, s => s
  | _, _, _, _, .cons r t, s => .cons r (Vals.append t s)
theorem Vals.take : ∀ {xs : List V} {us : List Value} (n : Nat), Vals xs us → Vals (xs.take n) (us.take n)
  | _, _, 0, _ => .nil
  | _, _, _ + 1, .nil => .nil
  | _, _, n + 1, .cons r t => .cons r (Vals.take n t)
theorem Vals.drop : ∀ {xs : List V} {us : List Value} (n : Nat), Vals xs us → Vals (xs.drop n) (us.drop n)
  | _, _, 0, r => r
  | _, _, _ + 1, .nil => .nil
  | _, _, n + 1, .cons _ t => Vals.drop n t
theorem Vals.none_of : ∀ {xs : List V} {us : List Value} {i : Nat}, Vals xs us → xs[i]? = none → us[i]? = none := fun {xs us i} r e => by
  have h1 := r.length
  have h2 : xs.length ≤ i := List.getElem?_eq_none_iff.mp e
  exact List.getElem?_eq_none_iff.mpr (by omega)

def RelO : Option V → Option Value → Prop
  | some v, some u => RelV v u
  | none, none => True
  | _, _ => False
def KV {κ : Type} : List (κ × V) → List (κ × Value) → Prop := Paired fun (p : κ × V) (q : κ × Value) => p.1 = q.1 ∧ RelV p.2 q.2

/-- a key of a dict (00_mix): an int or a text -/
def kV : Key → V
  | .inl i => .int i
  | .inr x => .str x

/-- what stands at a tracked address -/
inductive HO where
  /-- a list -/
  | lst (xs : List V)
  /-- a tuple (never changes) -/
  | tup (xs : List V)
  /-- a dict whose keys are ints and texts; one whose keys are tuples of ints and texts (the empty one is both) -/
  | dK (kvs : List (Key × V)) | dT (kvs : List (List Key × V))
  /-- a set of ints: its members, its size -/
  | set (S : Int → Bool) (n : Nat)
  /-- an instance of the class at C, its dict at dx, its attributes -/
  | ins (C dx : Addr) (fs : List (Str × V))
  /-- the dict of the instance at x -/
  | own (x : Addr)
  /-- the dict of an exception -/
  | xd (fs : List (Str × V))
  /-- a bound method, f of x -/
  | met (f x : Addr)
  /-- a range object lo, lo + 1, .. below hi -/
  | rng (lo hi : Int)
  /-- a thing that is known to the object (the script; a dict while a loop walks it): read, never written while it is so -/
  | frz (o : Obj) (u : HO)
  /-- a code object's table -/
  | tbl (ps : Array Value)
  /-- any other thing, by what is true of its one object (a def of one's own: SetO a S n := HO.ext fun h => ..) -/
  | ext (φ : Heap → Prop)

abbrev Hp := Addr → Option HO
def upd (H : Hp) (a : Addr) (o : HO) : Hp := fun b => if b = a then some o else H b
theorem upd_same {H : Hp} {a : Addr} {o : HO} : upd H a o a = some o := by unfold upd; rw [if_pos rfl]
theorem upd_ne {H : Hp} {a b : Addr} {o : HO} (h : b ≠ a) : upd H a o b = H b := by unfold upd; rw [if_neg h]
theorem upd_upd {H : Hp} {a : Addr} {o u : HO} : upd (upd H a o) a u = upd H a u := by
  funext b; unfold upd; split <;> rfl
/-- two objects of different content stand apart -/
theorem ne_of {H : Hp} {a b : Addr} {o u : HO} (h : H a = some o) (h' : H b = some u) (d : o ≠ u) : a ≠ b := by
  intro e; subst e; rw [h] at h'; exact d (Option.some.inj h')
theorem ne_of_none {H : Hp} {a b : Addr} {o : HO} (h : H a = some o) (h' : H b = none) : a ≠ b := by
  intro e; subst e; rw [h] at h'; cases h'

section
variable (P : Program) (w : World)
def ObjOk (H : Hp) (h : Heap) (a : Addr) : HO → Prop
  | .lst xs => xs.length ≤ sizeLine ∧ ∃ (its : List Value) (n : Nat), Vals xs its ∧ h.get? a = some { cls := .type "list", data := .seq its.toArray n }
  | .tup xs => xs.length ≤ sizeLine ∧ ∃ its : List Value, Vals xs its ∧ IsTup h a its.toArray
  | .dK kvs => kvs.length ≤ sizeLine ∧ (a == sysModules) = false ∧ ∃ vs, KV kvs vs ∧ h.DictOf (mixKind P w) a vs
  | .dT kvs => kvs.length ≤ sizeLine ∧ (a == sysModules) = false ∧ ∃ xs : List (List Key × Addr × Value),
      Paired (fun (p : List Key × V) (q : List Key × Addr × Value) => p.1 = q.1 ∧ H q.2.1 = some (.tup (p.1.map kV)) ∧ RelV p.2 q.2.2) kvs xs ∧
      ∃ o es ep, h.get? a = some o ∧ o.ExactDict ∧ o.data = .dict es ep ∧ es.toList = xs.map (entryOfKey (tupleKind (mixKind P w))) ∧ (xs.map (·.1)).Nodup
  | .set S n => h.SetOf (intKind P w) a S n
  | .ins C dx fs => H dx = some (.own a) ∧ fs.length ≤ 1000 ∧ dx ≠ a ∧ h.get? a = some (PySem.W.instObj C dx) ∧
      ∃ mA, h.Ns1 dx mA ∧ (∀ f, RelO (fs.lookup f) (mA f)) ∧ PySem.Within mA (fs.map (·.1))
  | .own _ => ∃ o, h.get? a = some o
  | .xd fs => ∃ mA, h.Ns1 a mA ∧ ∀ f, RelO (fs.lookup f) (mA f)
  | .rng lo hi => ∃ t u v, h.get? a = some { cls := .type "range", data := .fields #[.int lo t, .int hi u, .int 1 v] }
  | .frz o u => h.get? a = some o ∧ ObjOk H h a u
  | .tbl ps => h.get? a = some { cls := .none, data := .fields ps }
  | .met f x => h.get? a = some (PySem.W.methodObj (.ref f) (.ref x))
  | .ext φ => φ h ∧ (∃ o, h.get? a = some o) ∧ ∀ h1 h2 : Heap, φ h1 → (∀ o, h1.get? a = some o → h2.get? a = some o) → φ h2
/-- the abstract heap is held -/
def HOk (H : Hp) (h : Heap) : Prop := ∀ a o, H a = some o → ObjOk P w H h a o
end

section
variable {P : Program} {w : World} {H H' : Hp} {h h' : Heap} {a : Addr} {o : HO}
theorem ObjOk.lt (x : ObjOk P w H h a o) : a < h.objs.size := by
  cases o with
  | lst xs => obtain ⟨_, _, _, _, e⟩ := x; exact Heap.lt_size e
  | tup xs => obtain ⟨_, _, _, p⟩ := x; exact p.lt
  | dK kvs => obtain ⟨_, _, _, _, o, _, _, e, _⟩ := x; exact Heap.lt_size e
  | dT kvs => obtain ⟨_, _, _, _, o, _, _, e, _⟩ := x; exact Heap.lt_size e
  | set S n => obtain ⟨o, _, _, _, e, _⟩ := x; exact Heap.lt_size e
  | ins C dx fs => obtain ⟨_, _, _, e, _⟩ := x; exact Heap.lt_size e
  | own y => obtain ⟨_, e⟩ := x; exact Heap.lt_size e
  | xd fs => obtain ⟨_, ⟨_, _, _, e, _⟩, _⟩ := x; exact Heap.lt_size e
  | rng lo hi => obtain ⟨_, _, _, e⟩ := x; exact Heap.lt_size e
  | frz ob u => obtain ⟨e, _⟩ := x; exact Heap.lt_size e
  | tbl ps => exact Heap.lt_size (show h.get? a = some _ from x)
  | met f y => exact Heap.lt_size (show h.get? a = some _ from x)
  | ext φ => obtain ⟨_, ⟨_, e⟩, _⟩ := x; exact Heap.lt_size e
theorem Paired.mapP {α β : Type} {F G : α → β → Prop} : ∀ {l₁ : List α} {l₂ : List β}, Paired F l₁ l₂ → (∀ a b, F a b → G a b) → Paired G l₁ l₂
  | _, _, .nil, _ => .nil
  | _, _, .cons r t, f => .cons (f _ _ r) (Paired.mapP t f)
theorem Paired.imp' {α β : Type} {F G : α → β → Prop} (f : ∀ a b, F a b → G a b) {l₁ : List α} {l₂ : List β} (r : Paired F l₁ l₂) : Paired G l₁ l₂ := Paired.mapP r f
/-- what an object's description leans on: its own object, its own dict, the tuples -/
theorem ObjOk.stay (x : ObjOk P w H h a o) (k : ∀ b u, (b = a ∨ H b = some (.own a)) → h.get? b = some u → h'.get? b = some u)
    (ho : ∀ b, H b = some (.own a) → H' b = some (.own a)) (ht : ∀ b xs, H b = some (.tup xs) → H' b = some (.tup xs)) : ObjOk P w H' h' a o := by
  induction o with
  | lst xs => obtain ⟨z, its, n, r, e⟩ := x; exact ⟨z, its, n, r, k _ _ (.inl rfl) e⟩
  | tup xs => obtain ⟨z, its, r, ob, e, c⟩ := x; exact ⟨z, its, r, ob, k _ _ (.inl rfl) e, c⟩
  | dK kvs => obtain ⟨z, y, vs, r, ob, es, ep, e, c⟩ := x; exact ⟨z, y, vs, r, ob, es, ep, k _ _ (.inl rfl) e, c⟩
  | dT kvs =>
    obtain ⟨z, y, xs, r, ob, es, ep, e, c⟩ := x
    exact ⟨z, y, xs, Paired.mapP r fun p q z => ⟨z.1, ht _ _ z.2.1, z.2.2⟩, ob, es, ep, k _ _ (.inl rfl) e, c⟩
  | set S n => obtain ⟨ob, es, ep, t, e, c⟩ := x; exact ⟨ob, es, ep, t, k _ _ (.inl rfl) e, c⟩
  | ins C dx fs =>
    obtain ⟨d, z, ne, e, mA, ⟨od, es, ep, e2, c⟩, r⟩ := x
    exact ⟨ho _ d, z, ne, k _ _ (.inl rfl) e, mA, ⟨od, es, ep, k _ _ (.inr d) e2, c⟩, r⟩
  | own y => obtain ⟨ob, e⟩ := x; exact ⟨ob, k _ _ (.inl rfl) e⟩
  | xd fs => obtain ⟨mA, ⟨od, es, ep, e, c⟩, r⟩ := x; exact ⟨mA, ⟨od, es, ep, k _ _ (.inl rfl) e, c⟩, r⟩
  | rng lo hi => obtain ⟨t, u, v, e⟩ := x; exact ⟨t, u, v, k _ _ (.inl rfl) e⟩
  | frz ob u ih => obtain ⟨e, q⟩ := x; exact ⟨k _ _ (.inl rfl) e, ih q⟩
  | tbl ps =>
    have e : h.get? a = some { cls := .none, data := .fields ps } := x
    show h'.get? a = some { cls := .none, data := .fields ps }
    exact k a _ (.inl rfl) e
  | met f y =>
    have e : h.get? a = some (PySem.W.methodObj (.ref f) (.ref y)) := x
    show h'.get? a = some (PySem.W.methodObj (.ref f) (.ref y))
    exact k a _ (.inl rfl) e
  | ext φ => obtain ⟨p, ⟨o, e⟩, st⟩ := x; exact ⟨st _ _ p fun o q => k _ _ (.inl rfl) q, ⟨o, k _ _ (.inl rfl) e⟩, st⟩
theorem HOk.lt (x : HOk P w H h) (e : H a = some o) : a < h.objs.size := (x a o e).lt
theorem HOk.fresh (x : HOk P w H h) (e : h.objs.size ≤ a) : H a = none := by
  cases q : H a with
  | none => rfl
  | some u => exact absurd (Nat.lt_of_lt_of_le (x.lt q) e) (Nat.lt_irrefl _)
/-- every object of the heap is kept -/
theorem HOk.kept (x : HOk P w H h) (k : ∀ b u, h.get? b = some u → h'.get? b = some u) : HOk P w H h' := fun a o e =>
  (x a o e).stay (fun b u _ q => k b u q) (fun _ q => q) fun _ _ q => q
/-- a new object is laid and tracked -/
theorem HOk.laid (x : HOk P w H h) (k : ∀ b u, h.get? b = some u → h'.get? b = some u) (hp : h.objs.size ≤ a) (new : ObjOk P w (upd H a o) h' a o) : HOk P w (upd H a o) h' := fun b u e => by
  have hn := x.fresh hp
  by_cases hb : b = a
  · subst hb; rw [upd_same] at e; cases e; exact new
  · rw [upd_ne hb] at e
    exact (x b u e).stay (fun c v _ q => k c v q) (fun c q => by rw [upd_ne (ne_of_none q hn)]; exact q) fun c xs q => by rw [upd_ne (ne_of_none q hn)]; exact q
end

/-- what may be read as u: it is u, or a known u -/
def Rd (H : Hp) (a : Addr) (u : HO) : Prop := H a = some u ∨ ∃ o, H a = some (.frz o u)
theorem Rd.of {H : Hp} {a : Addr} {u : HO} (h : H a = some u) : Rd H a u := .inl h
theorem Rd.ok {P : Program} {w : World} {H : Hp} {h : Heap} {a : Addr} {u : HO} (r : Rd H a u) (x : HOk P w H h) : ObjOk P w H h a u := by
  rcases r with r | ⟨o, r⟩
  · exact x a u r
  · obtain ⟨_, q⟩ := x a _ r
    exact q
/-- what may be written -/
def Mut : Option HO → Prop
  | some (.lst _) => True
  | some (.dK _) => True
  | some (.dT _) => True
  | some (.set _ _) => True
  | some (.ins _ _ _) => True
  | some (.ext _) => True
  | _ => False
section
variable {P : Program} {w : World} {H : Hp} {h h' : Heap} {x e : Addr} {o' : HO}
/-- the object at e is changed: x itself, or the dict of the instance x -/
theorem HOk.write (ok : HOk P w H h) (mu : Mut (H x)) (he : e = x ∨ H e = some (.own x)) (k : ∀ b u, b ≠ e → h.get? b = some u → h'.get? b = some u) (heo : ∃ u, h'.get? e = some u)
    (new : ObjOk P w (upd H x o') h' x o') : HOk P w (upd H x o') h' := fun b u q => by
  have nown : ∀ c y, H c = some (.own y) → c ≠ x := fun c y r z => by subst z; rw [r] at mu; exact mu
  have ntup : ∀ c xs, H c = some (.tup xs) → c ≠ x := fun c xs r z => by subst z; rw [r] at mu; exact mu
  by_cases hb : b = x
  · subst hb; rw [upd_same] at q; cases q; exact new
  · rw [upd_ne hb] at q
    by_cases hbe : b = e
    · have q' : H b = some (.own x) := by
        rcases he with z | z
        · exact absurd (hbe.trans z) hb
        · rw [hbe]; exact z
      rw [q] at q'; cases q'
      obtain ⟨v, hv⟩ := heo
      exact ⟨v, by rw [hbe]; exact hv⟩
    · refine (ok b u q).stay (fun c v hc r => k c v ?_ r) (fun c r => by rw [upd_ne (nown c b r)]; exact r) fun c xs r => by rw [upd_ne (ntup c xs r)]; exact r
      rcases hc with rfl | hc
      · exact hbe
      · rintro rfl
        rcases he with z | z
        · exact nown c b hc z
        · rw [hc] at z; cases z; exact hb rfl
end

/-! ### kept unless tracked; of the frames at fs (the callers') the slots may change (an exception that passes writes there); of the records at ex (iterators) nothing is said -/
structure Un (fs ex : List Addr) (H H' : Hp) (h h' : Heap) : Prop where
  keep : ∀ b o, h.get? b = some o → H b = none → b ∉ fs → b ∉ ex → h'.get? b = some o
  slot : ∀ b o, h.get? b = some o → H b = none → b ∈ fs → b ∉ ex → ∃ sl, h'.get? b = some { o with slots := sl }
  free : ∀ b o, h.get? b = some o → H b = none → b ∉ ex → H' b = none
  there : ∀ b o, h.get? b = some o → b ∉ ex → ∃ o', h'.get? b = some o'
  tups : ∀ b xs, H b = some (.tup xs) → H' b = some (.tup xs)
  frzs : ∀ b o u, H b = some (.frz o u) → H' b = some (.frz o u)
  tbls : ∀ b ps, H b = some (.tbl ps) → ∃ more, H' b = some (.tbl (ps ++ more))
section
variable {fs fs' ex ex' : List Addr} {H H1 H2 : Hp} {h h1 h2 h' : Heap} {a x e : Addr} {o : HO}
theorem Un.any (u : Un fs ex H H1 h h1) {b : Addr} {ob : Obj} (q : h.get? b = some ob) (n : H b = none) (hx : b ∉ ex) : ∃ sl, h1.get? b = some { ob with slots := sl } := by
  by_cases hb : b ∈ fs
  · exact u.slot b ob q n hb hx
  · exact ⟨ob.slots, u.keep b ob q n hb hx⟩
theorem Un.trans (a : Un fs ex H H1 h h1) (b : Un fs ex H1 H2 h1 h2) : Un fs ex H H2 h h2 where
  keep := fun c ob q n hc hx => b.keep c ob (a.keep c ob q n hc hx) (a.free c ob q n hx) hc hx
  slot := fun c ob q n hc hx => by
    obtain ⟨sl, e1⟩ := a.slot c ob q n hc hx
    obtain ⟨sl', e2⟩ := b.slot c _ e1 (a.free c ob q n hx) hc hx
    exact ⟨sl', e2⟩
  free := fun c ob q n hx => by
    obtain ⟨o', e1⟩ := a.there c ob q hx
    exact b.free c o' e1 (a.free c ob q n hx) hx
  there := fun c ob q hx => by
    obtain ⟨o', e1⟩ := a.there c ob q hx
    exact b.there c o' e1 hx
  tups := fun c xs q => b.tups c xs (a.tups c xs q)
  frzs := fun c ob xs q => b.frzs c ob xs (a.frzs c ob xs q)
  tbls := fun c ps q => by
    obtain ⟨m1, e1⟩ := a.tbls c ps q
    obtain ⟨m2, e2⟩ := b.tbls c _ e1
    exact ⟨m1 ++ m2, by rw [e2, Array.append_assoc]⟩
theorem Un.kept (k : ∀ b u, h.get? b = some u → h'.get? b = some u) : Un fs ex H H h h' :=
  ⟨fun b ob q _ _ _ => k b ob q, fun b ob q _ _ _ => ⟨ob.slots, k b ob q⟩, fun _ _ _ n _ => n, fun b ob q _ => ⟨ob, k b ob q⟩, fun _ _ q => q, fun _ _ _ q => q, fun _ ps q => ⟨#[], by rw [q]; simp⟩⟩
theorem Un.refl : Un fs ex H H h h := Un.kept fun _ _ q => q
theorem Un.laid (k : ∀ b u, h.get? b = some u → h'.get? b = some u) (hp : h.objs.size ≤ a) (hn : H a = none) : Un fs ex H (upd H a o) h h' where
  keep := fun b u q _ _ _ => k b u q
  slot := fun b u q _ _ _ => ⟨u.slots, k b u q⟩
  free := fun b u q n _ => by rw [upd_ne (Nat.ne_of_lt (Nat.lt_of_lt_of_le (Heap.lt_size q) hp))]; exact n
  there := fun b u q _ => ⟨u, k b u q⟩
  tups := fun b xs q => by rw [upd_ne (ne_of_none q hn)]; exact q
  frzs := fun b u xs q => by rw [upd_ne (ne_of_none q hn)]; exact q
  tbls := fun b ps q => ⟨#[], by rw [upd_ne (ne_of_none q hn), q]; simp⟩
theorem Un.write (mu : Mut (H x)) (he : e = x ∨ H e = some (.own x)) (k : ∀ b u, b ≠ e → h.get? b = some u → h'.get? b = some u) (heo : ∃ u, h'.get? e = some u) : Un fs ex H (upd H x o) h h' := by
  have hx : ∀ b, H b = none → b ≠ x := fun b n z => by subst z; rw [n] at mu; exact mu
  have hb : ∀ b, H b = none → b ≠ e := fun b n z => by
    subst z
    rcases he with r | r
    · exact hx b n r
    · rw [n] at r; cases r
  have hm : ∀ b u, H b = some u → ¬ Mut (some u) → b ≠ x := fun b u q nm z => by subst z; rw [q] at mu; exact nm mu
  refine ⟨fun b u q n _ _ => k b u (hb b n) q, fun b u q n _ _ => ⟨u.slots, k b u (hb b n) q⟩, fun b u q n _ => by rw [upd_ne (hx b n)]; exact n, fun b u q _ => ?_,
    fun b xs q => by rw [upd_ne (hm b _ q fun z => z)]; exact q, fun b u xs q => by rw [upd_ne (hm b _ q fun z => z)]; exact q, fun b ps q => ⟨#[], by rw [upd_ne (hm b _ q fun z => z), q]; simp⟩⟩
  by_cases hbe : b = e
  · subst hbe; exact heo
  · exact ⟨u, k b u hbe q⟩
theorem Un.mono (u : Un fs ex H H1 h h1) (hs : ∀ b ∈ fs, b ∈ fs') (hx : ∀ b ∈ ex, b ∈ ex') : Un fs' ex' H H1 h h1 :=
  ⟨fun b ob q n hb he => u.keep b ob q n (fun z => hb (hs b z)) fun z => he (hx b z), fun _ _ q n _ he => u.any q n fun z => he (hx _ z), fun b ob q n he => u.free b ob q n fun z => he (hx b z), fun b ob q he => u.there b ob q fun z => he (hx b z), u.tups, u.frzs, u.tbls⟩
end

/-! ### the heap without what is tracked -/
def trk (h : Heap) (H : Hp) : List Addr := (List.range h.objs.size).filter fun a => (H a).isSome
def hidT (h : Heap) (H : Hp) : Heap := PySem.W.hideAll h (trk h H)
theorem hidT_size (h : Heap) (H : Hp) : (hidT h H).objs.size = h.objs.size := PySem.W.hideAll_size _ _
theorem hidT_get {h : Heap} {H : Hp} {b : Addr} {o : Obj} (e : h.get? b = some o) (n : H b = none) : (hidT h H).get? b = some o :=
  PySem.W.hideAll_get _ e fun hm => by
    have q : (H b).isSome = true := (List.mem_filter.mp hm).2
    rw [n] at q; simp at q
theorem of_hidT {h : Heap} {H : Hp} {b : Addr} {o : Obj} (e : (hidT h H).get? b = some o) : h.get? b = some o ∧ H b = none := by
  have e' : h.get? b = some o := PySem.W.of_hideAll (trk h H) e
  refine ⟨e', ?_⟩
  cases q : H b with
  | none => rfl
  | some x =>
    have hm : b ∈ trk h H := List.mem_filter.mpr ⟨List.mem_range.mpr (Heap.lt_size e'), by simp [q]⟩
    have z : (hidT h H).get? b = none := PySem.W.hideAll_none (trk h H) hm
    rw [z] at e; cases e

/-! ### OpenK's ledger, filled with every new object but one -/
def allNews (g h : Heap) (L : Addr) : List (Addr × Obj) := (List.range h.objs.size).filterMap fun a => if a = L ∨ (g.get? a).isSome = true then none else (h.get? a).map fun o => (a, o)
theorem mem_allNews {g h : Heap} {L a : Addr} {o : Obj} (h1 : a ≠ L) (h2 : g.get? a = none) (h3 : h.get? a = some o) : (a, o) ∈ allNews g h L :=
  List.mem_filterMap.mpr ⟨a, List.mem_range.mpr (Heap.lt_size h3), by simp [h1, h2, h3]⟩
theorem of_mem_allNews {g h : Heap} {L : Addr} {p : Addr × Obj} (hp : p ∈ allNews g h L) : p.1 ≠ L ∧ g.get? p.1 = none ∧ h.get? p.1 = some p.2 := by
  obtain ⟨b, _, e⟩ := List.mem_filterMap.mp hp
  split at e
  · cases e
  · rename_i hn
    cases q : h.get? b with
    | none => rw [q] at e; simp at e
    | some u =>
      rw [q] at e
      simp only [Option.map_some, Option.some.injEq] at e
      subst e
      refine ⟨fun z => hn (.inl z), ?_, q⟩
      show g.get? b = none
      cases r : g.get? b with
      | none => rfl
      | some v => exact (hn (.inr (by simp [r]))).elim
def rest (g h : Heap) (L d : Addr) : List (Addr × Obj) := (allNews g h L).filter fun p => decide (p.1 ≠ d)
theorem rest_ne {g h : Heap} {L d : Addr} : ∀ p ∈ rest g h L d, p.1 ≠ d := fun p hp => of_decide_eq_true (List.mem_filter.mp hp).2
theorem mem_rest {g h : Heap} {L d a : Addr} {o : Obj} (h1 : a ≠ L) (h2 : g.get? a = none) (h3 : h.get? a = some o) (h4 : a ≠ d) : (a, o) ∈ rest g h L d :=
  List.mem_filter.mpr ⟨mem_allNews h1 h2 h3, decide_eq_true h4⟩
theorem news_all {g h : Heap} {L : Addr} : News g L h (allNews g h L) := fun p hp => let ⟨a, b, c⟩ := of_mem_allNews hp; ⟨c, a, b⟩
theorem news_at {g h : Heap} {L d : Addr} {o : Obj} (h1 : d ≠ L) (h2 : g.get? d = none) (h3 : h.get? d = some o) : News g L h ((d, o) :: rest g h L d) := fun p hp => by
  rcases List.mem_cons.mp hp with rfl | hp
  · exact ⟨h3, h1, h2⟩
  · exact news_all p (List.mem_filter.mp hp).1
/-- behind a rule that changed d alone: all else but the frame is kept -/
theorem kept_of_news {g h h' : Heap} {L d : Addr} {m : Str → Option Value} (k : ∀ b o, g.get? b = some o → h.get? b = some o) (F : Fr g L h' m) (N : News g L h' (rest g h L d)) :
    ∀ b o, b ≠ L → b ≠ d → h.get? b = some o → h'.get? b = some o := fun b o h1 h2 e => by
  cases q : g.get? b with
  | some u =>
    have := k b u q
    rw [e] at this; cases this
    exact F.keep b _ q
  | none => exact (N (b, o) (mem_rest h1 q e h2)).1
end L2

namespace L2
open PySem PySem.Spec PyProof.Rows

/-- the module's facts, over the base: the heap at the law's entry without what is tracked there -/
structure Mod (K : PySem.W.Frag) (mg : Str → Option Value) (base : Heap) : Prop where
  kin : K.In base
  glob : base.Ns mainGlobals mg
  blt : ∃ mb, base.Ns builtinsNs mb ∧ ∀ x : Str, x ≠ "__name__" → mb x = bootBuiltins x
  nolimit : base.NoLimit

/-- the context: a def's body (or a comprehension's block) running. base: fixed through the whole law; s₀, H₀: the entry; outer: the frames whose slots others may change (a def's callers); stack: all frames that run;
   ex: iterators that were made ahead of the entry and are walked here (a comprehension's); fn: the names whose cells were made at the entry (a def: all; a comprehension's block: its own); calm: not within an except suite; pn: pins that every state bears; xe: what is wanted of an exception that leaves the code -/
structure Cx where
  prog : Program
  w : World
  K : PySem.W.Frag
  mg : Str → Option Value
  base : Heap
  A : Around
  N : List Str
  s₀ : Shared
  H₀ : Hp
  env : Env
  outer : List Env
  stack : List Env
  ex : List Addr
  fn : Str → Bool
  calm : Bool
  pn : List (Addr × Obj)
  xe : Value → Shared → Prop
/-- the callers' frames -/
def frs (l : List Env) : List Addr := l.filterMap (·.frame)
abbrev Cx.fs (X : Cx) : List Addr := frs X.outer

def Vis (sc : Scope) (x : Str) : Prop := sc.names.lookup x = some .local ∨ sc.names.lookup x = some .cell ∨ sc.names.lookup x = some .free
def Loc (sc : Scope) (x : Str) : Prop := sc.names.lookup x = some .local ∨ sc.names.lookup x = some .cell
def Look (env : Env) (h : Heap) (m : Str → Option Value) (x : Str) (u : Value) : Prop :=
  (env.kindOf x = some .local ∧ m x = some u) ∨ ((env.kindOf x = some .cell ∨ env.kindOf x = some .free) ∧ ∃ c, env.cells.lookup x = some c ∧ h.IsCell c (some u))

structure Cx.Ok (X : Cx) : Prop where
  mod : Mod X.K X.mg X.base
  kind : X.env.scope.kind = .function
  glob : X.env.globals = mainGlobals
  blt : X.env.builtins = builtinsNs
  above : X.s₀.heap.objs.size ≤ X.env.locals
  inj : ∀ x y c, X.env.cells.lookup x = some c → X.env.cells.lookup y = some c → x = y
  has : ∀ x, (X.env.kindOf x = some .cell ∨ X.env.kindOf x = some .free) → ∃ c, X.env.cells.lookup x = some c
  cab : ∀ x c, X.fn x = true → X.env.cells.lookup x = some c → X.s₀.heap.objs.size ≤ c
  hd : X.calm = true → X.A.handled = none
  frames : X.A.frames = some X.stack
  stk : X.stack = X.outer ∨ (X.stack = X.env :: X.outer ∧ X.env.frame = some X.env.locals)
  exf : ∀ b ∈ X.ex, b ≠ X.env.locals ∧ ∀ x c, X.env.cells.lookup x = some c → c ≠ b
  bs : ∀ b o, X.base.get? b = some o → X.s₀.heap.get? b = some o ∧ X.H₀ b = none
  bsz : X.base.objs.size ≤ X.s₀.heap.objs.size
  noex : ∀ b o, X.base.get? b = some o → b ∉ X.ex
  exfs : ∀ b ∈ X.ex, b ∉ X.fs
  funs : X.s₀.heap.FunFrames X.base X.outer
  frf : ∀ b ∈ X.fs, X.H₀ b = none

structure Inv (X : Cx) (pins : List (Addr × Obj)) (σ : List (Option V)) (H : Hp) (s : Shared) : Prop where
  ok : X.Ok
  os : s.os = X.s₀.os
  bare : AllBare s.gens
  base : Un X.fs X.ex X.H₀ H X.s₀.heap s.heap
  loc : ∃ m, s.heap.Ns X.env.locals m ∧ ∀ (i : Nat) (x : Str) (v : V), X.N[i]? = some x → σ[i]? = some (some v) → Vis X.env.scope x → ∃ u, RelV v u ∧ Look X.env s.heap m x u
  cell : ∀ x c, X.env.cells.lookup x = some c → ∃ v, s.heap.IsCell c v
  free : H X.env.locals = none
  freeC : ∀ x c, X.env.cells.lookup x = some c → H c = none
  pin : ∀ p ∈ X.pn ++ pins, s.heap.get? p.1 = some p.2 ∧ H p.1 = none ∧ p.1 ≠ X.env.locals ∧ p.1 ∉ X.fs ∧ ∀ v, p.2.data ≠ .cell v
  hok : HOk X.prog X.w H s.heap
  len : σ.length = X.N.length

section
variable {X : Cx} {pins : List (Addr × Obj)} {σ : List (Option V)} {H H' : Hp} {s : Shared} {h' : Heap}

theorem Cx.Ok.nofr (ok : X.Ok) {b : Addr} {o : Obj} (e : X.base.get? b = some o) : b ∉ X.fs := fun hb => by
  have := (ok.funs.mem hb).1
  rw [e] at this; cases this
theorem Inv.bs (I : Inv X pins σ H s) : ∀ b o, X.base.get? b = some o → s.heap.get? b = some o ∧ H b = none := fun b o e =>
  ⟨I.base.keep b o (I.ok.bs b o e).1 (I.ok.bs b o e).2 (I.ok.nofr e) (I.ok.noex b o e), I.base.free b o (I.ok.bs b o e).1 (I.ok.bs b o e).2 (I.ok.noex b o e)⟩
theorem Inv.bk (I : Inv X pins σ H s) : ∀ b o, X.base.get? b = some o → s.heap.get? b = some o := fun b o e => (I.bs b o e).1
theorem Inv.mod (I : Inv X pins σ H s) : Mod X.K X.mg X.base := I.ok.mod
theorem Inv.kIn (I : Inv X pins σ H s) : X.K.In s.heap := I.ok.mod.kin.keeps I.bk
theorem Inv.nolimit (I : Inv X pins σ H s) : s.heap.NoLimit := I.ok.mod.nolimit.keeps I.bk
/-- the frame over the base: for OpenK's rules (K.In X.base is I.mod.kin) -/
theorem Inv.fr (I : Inv X pins σ H s) : ∃ m, Fr X.base X.env.locals s.heap m :=
  let ⟨m, hn, _⟩ := I.loc
  ⟨m, hn, I.bk, Nat.le_trans I.ok.bsz I.ok.above⟩
theorem Inv.lt (I : Inv X pins σ H s) : X.env.locals < s.heap.objs.size := let ⟨_, hn, _⟩ := I.loc; hn.lt
theorem Inv.sz (I : Inv X pins σ H s) : X.s₀.heap.objs.size ≤ s.heap.objs.size := Nat.le_trans I.ok.above (Nat.le_of_lt I.lt)
theorem Inv.nofs (I : Inv X pins σ H s) {a : Addr} (h : s.heap.objs.size ≤ a) : a ∉ X.fs := fun hb => by
  obtain ⟨_, o, ho, _⟩ := I.ok.funs.mem hb
  exact absurd (Nat.lt_of_lt_of_le (Heap.lt_size ho) (Nat.le_trans I.sz h)) (Nat.lt_irrefl _)
theorem Inv.cne (I : Inv X pins σ H s) : ∀ x c, X.env.cells.lookup x = some c → c ≠ X.env.locals := fun x c e z => by
  obtain ⟨v, o, ho, hd⟩ := I.cell x c e
  obtain ⟨m, ⟨o', es, ep, ho', hd', _⟩, _⟩ := I.loc
  rw [z, ho'] at ho; cases ho; rw [hd'] at hd; cases hd
theorem Inv.funs (I : Inv X pins σ H s) : s.heap.FunFrames X.base X.outer := by
  have all : ∀ (l : List Env), (∀ b ∈ frs l, b ∈ X.fs) → X.s₀.heap.FunFrames X.base l → s.heap.FunFrames X.base l := by
    intro l
    induction l with
    | nil => intro _ _; trivial
    | cons env r ih =>
      intro hs hl
      obtain ⟨hk, ⟨L, o, hf, hn, ho, hd⟩, hr⟩ := hl
      have hL : L ∈ X.fs := hs L (by unfold frs; rw [List.filterMap_cons, hf]; exact List.mem_cons_self)
      obtain ⟨sl, e⟩ := I.base.slot L o ho (I.ok.frf L hL) hL fun z => I.ok.exfs L z hL
      exact ⟨hk, ⟨L, _, hf, hn, e, hd⟩, ih (fun b hb => hs b (by unfold frs; rw [List.filterMap_cons, hf]; exact List.mem_cons_of_mem _ hb)) hr⟩
  exact all X.outer (fun _ hb => hb) I.ok.funs

/-- the frames that run, for a call -/
theorem Inv.stack (I : Inv X pins σ H s) : s.heap.FunFrames X.base X.stack := by
  rcases I.ok.stk with e | ⟨e, hf⟩
  · rw [e]; exact I.funs
  · rw [e]
    obtain ⟨m, hn, _⟩ := I.loc
    refine .cons (by rw [I.ok.kind]; decide) hf hn ?_ I.funs
    exact Heap.get?_none_of_le (Nat.le_trans I.ok.bsz I.ok.above)
theorem Inv.stkSub (I : Inv X pins σ H s) : ∀ b ∈ frs X.stack, b ∈ X.env.locals :: X.fs := fun b hb => by
  rcases I.ok.stk with e | ⟨e, hf⟩
  · rw [e] at hb; exact List.mem_cons_of_mem _ hb
  · rw [e] at hb
    unfold frs at hb
    rw [List.filterMap_cons, hf] at hb
    exact hb
theorem Inv.stkFree (I : Inv X pins σ H s) : ∀ b ∈ frs X.stack, H b = none := fun b hb => by
  rcases List.mem_cons.mp (I.stkSub b hb) with e | hb
  · rw [e]; exact I.free
  · obtain ⟨_, o, ho, _⟩ := I.ok.funs.mem hb
    exact I.base.free b o ho (I.ok.frf b hb) fun z => I.ok.exfs b z hb

/-- THE STEP: the untracked objects but the frame and the records at ch are kept (the callers' frames up to slots), the frame's map is kept, the new abstract heap is held -/
theorem Inv.step {g' : Array GenState} {t' : Nat} {d' : Drawn} {ch : List Addr} (I : Inv X pins σ H s)
    (hch : ∀ b ∈ ch, (b ∈ X.ex ∨ X.s₀.heap.objs.size ≤ b) ∧ b ≠ X.env.locals ∧ (∀ x c, X.env.cells.lookup x = some c → c ≠ b) ∧ ∀ p ∈ X.pn ++ pins, p.1 ≠ b)
    (keep : ∀ b o, b ≠ X.env.locals → b ∉ X.fs → b ∉ ch → s.heap.get? b = some o → H b = none → h'.get? b = some o)
    (slot : ∀ b o, b ≠ X.env.locals → b ∈ X.fs → b ∉ ch → s.heap.get? b = some o → H b = none → ∃ sl, h'.get? b = some { o with slots := sl }) (free : ∀ b o, b ∉ ch → s.heap.get? b = some o → H b = none → H' b = none)
    (there : ∀ b o, b ∉ ch → s.heap.get? b = some o → ∃ o', h'.get? b = some o')
    (tups : ∀ b xs, H b = some (.tup xs) → H' b = some (.tup xs)) (frzs : ∀ b o u, H b = some (.frz o u) → H' b = some (.frz o u)) (tbls : ∀ b ps, H b = some (.tbl ps) → ∃ more, H' b = some (.tbl (ps ++ more)))
    (ns : ∀ m, s.heap.Ns X.env.locals m → h'.Ns X.env.locals m) (hok : HOk X.prog X.w H' h') (hg : AllBare g') :
    Inv X pins σ H' { s with heap := h', gens := g', drawn := d', toks := t' } := by
  have neL : ∀ b o, X.s₀.heap.get? b = some o → b ≠ X.env.locals := fun b o e => Nat.ne_of_lt (Nat.lt_of_lt_of_le (Heap.lt_size e) I.ok.above)
  have neC : ∀ b o, X.s₀.heap.get? b = some o → b ∉ X.ex → b ∉ ch := fun b o e hx hb => by
    rcases (hch b hb).1 with z | z
    · exact hx z
    · exact absurd (Nat.lt_of_lt_of_le (Heap.lt_size e) z) (Nat.lt_irrefl _)
  have cellK : ∀ x c, X.env.cells.lookup x = some c → ∀ v, s.heap.IsCell c v → h'.IsCell c v := fun x c e v ⟨o, ho, hd⟩ => by
    have nch : c ∉ ch := fun z => (hch c z).2.2.1 x c e rfl
    by_cases hc : c ∈ X.fs
    · obtain ⟨sl, q⟩ := slot c o (I.cne x c e) hc nch ho (I.freeC x c e)
      exact ⟨_, q, hd⟩
    · exact ⟨o, keep c o (I.cne x c e) hc nch ho (I.freeC x c e), hd⟩
  refine ⟨I.ok, I.os, hg, ⟨fun b o e n hb hx => ?_, fun b o e n hb hx => ?_, fun b o e n hx => ?_, fun b o e hx => ?_, fun b xs e => tups b xs (I.base.tups b xs e), fun b o xs e => frzs b o xs (I.base.frzs b o xs e), fun b ps e => ?_⟩, ?_, fun x c e => ?_, ?_, fun x c e => ?_, fun p hp => ?_, hok, I.len⟩
  · exact keep b o (neL b o e) hb (neC b o e hx) (I.base.keep b o e n hb hx) (I.base.free b o e n hx)
  · obtain ⟨sl, e1⟩ := I.base.slot b o e n hb hx
    obtain ⟨sl', e2⟩ := slot b _ (neL b o e) hb (neC b o e hx) e1 (I.base.free b o e n hx)
    exact ⟨sl', e2⟩
  · obtain ⟨o', e1⟩ := I.base.there b o e hx
    exact free b o' (neC b o e hx) e1 (I.base.free b o e n hx)
  · obtain ⟨o', e1⟩ := I.base.there b o e hx
    exact there b o' (neC b o e hx) e1
  · obtain ⟨m1, e1⟩ := I.base.tbls b ps e
    obtain ⟨m2, e2⟩ := tbls b _ e1
    exact ⟨m1 ++ m2, by rw [e2, Array.append_assoc]⟩
  · obtain ⟨m, hn, hl⟩ := I.loc
    refine ⟨m, ns m hn, fun i x v e1 e2 e3 => ?_⟩
    obtain ⟨u, r, l⟩ := hl i x v e1 e2 e3
    refine ⟨u, r, ?_⟩
    rcases l with l | ⟨k, c, e, z⟩
    · exact .inl l
    · exact .inr ⟨k, c, e, cellK x c e _ z⟩
  · obtain ⟨v, z⟩ := I.cell x c e
    exact ⟨v, cellK x c e v z⟩
  · obtain ⟨m, ⟨o, _, _, ho, _⟩, _⟩ := I.loc
    exact free _ o (fun z => (hch _ z).2.1 rfl) ho I.free
  · obtain ⟨v, o, ho, hd⟩ := I.cell x c e
    exact free c o (fun z => (hch c z).2.2.1 x c e rfl) ho (I.freeC x c e)
  · obtain ⟨e, n, ne, nf, d⟩ := I.pin p hp
    have nch : p.1 ∉ ch := fun z => (hch p.1 z).2.2.2 p hp rfl
    exact ⟨keep p.1 p.2 ne nf nch e n, free p.1 p.2 nch e n, ne, nf, d⟩
/-- .. where the frame's own object is kept too -/
theorem Inv.un {t' : Nat} (I : Inv X pins σ H s) (u : Un X.fs [] H H' s.heap h') (hok : HOk X.prog X.w H' h') : Inv X pins σ H' { s with heap := h', toks := t' } := by
  obtain ⟨m, ⟨o, es, ep, ho, r⟩, _⟩ := id I.loc
  obtain ⟨sl, hL⟩ := u.any ho I.free (by simp)
  exact I.step (g' := s.gens) (d' := s.drawn) (ch := []) (fun _ z => nomatch z) (fun b o _ hb _ e n => u.keep b o e n hb (by simp)) (fun b o _ hb _ e n => u.slot b o e n hb (by simp)) (fun b o _ e n => u.free b o e n (by simp)) (fun b o _ e => u.there b o e (by simp)) u.tups u.frzs u.tbls (fun m' hm => by
    obtain ⟨o', es', ep', ho', r'⟩ := hm
    rw [ho] at ho'; cases ho'
    exact ⟨_, es', ep', hL, r'⟩) hok I.bare
/-- behind a call (or a comprehension's block): the slots of this frame may have changed too, the records at ch may have turned -/
theorem Inv.call {g' : Array GenState} {t' : Nat} {d' : Drawn} {ch : List Addr} (I : Inv X pins σ H s) (u : Un (frs X.stack) ch H H' s.heap h') (hok : HOk X.prog X.w H' h') (hg : AllBare g')
    (hch : ∀ b ∈ ch, (b ∈ X.ex ∨ X.s₀.heap.objs.size ≤ b) ∧ b ≠ X.env.locals ∧ (∀ x c, X.env.cells.lookup x = some c → c ≠ b) ∧ ∀ p ∈ X.pn ++ pins, p.1 ≠ b) :
    Inv X pins σ H' { s with heap := h', gens := g', drawn := d', toks := t' } := by
  obtain ⟨m, ⟨o, es, ep, ho, r⟩, _⟩ := id I.loc
  obtain ⟨sl, hL⟩ := u.any ho I.free fun z => (hch _ z).2.1 rfl
  exact I.step (ch := ch) hch (fun b o hL hb hc e n => u.keep b o e n (fun z => (List.mem_cons.mp (I.stkSub b z)).elim hL hb) hc) (fun b o _ _ hc e n => u.any e n hc) (fun b o hc e n => u.free b o e n hc) (fun b o hc e => u.there b o e hc) u.tups u.frzs u.tbls (fun m' hm => by
    obtain ⟨o', es', ep', ho', r'⟩ := hm
    rw [ho] at ho'; cases ho'
    exact ⟨_, es', ep', hL, r'⟩) hok hg
/-- an untracked record of ours (an iterator) has turned -/
theorem Inv.turned {t' : Nat} {it : Addr} (I : Inv X pins σ H s) (k : ∀ b o, b ≠ it → s.heap.get? b = some o → h'.get? b = some o) (hn : H it = none) (hL : it ≠ X.env.locals)
    (h1 : it ∈ X.ex ∨ X.s₀.heap.objs.size ≤ it) (h2 : ∀ x c, X.env.cells.lookup x = some c → c ≠ it) (h3 : ∀ p ∈ X.pn ++ pins, p.1 ≠ it) : Inv X pins σ H { s with heap := h', toks := t' } := by
  have nit : ∀ b u, H b = some u → b ≠ it := fun b u e z => by rw [z, hn] at e; cases e
  refine I.step (g' := s.gens) (d' := s.drawn) (ch := [it]) (fun b hb => ?_) (fun b o _ _ hc e _ => k b o (fun z => hc (by simp [z])) e) (fun b o _ _ hc e _ => ⟨o.slots, k b o (fun z => hc (by simp [z])) e⟩) (fun _ _ _ _ n => n)
    (fun b o hc e => ⟨o, k b o (fun z => hc (by simp [z])) e⟩) (fun _ _ e => e) (fun _ _ _ e => e) (fun b ps e => ⟨#[], by rw [e]; simp⟩) (fun m hm => ?_) (fun b u e => ?_) I.bare
  · have e : b = it := by simpa using hb
    subst e
    exact ⟨h1, hL, h2, h3⟩
  · obtain ⟨o, es, ep, ho, r⟩ := hm
    exact ⟨o, es, ep, k _ o (Ne.symm hL) ho, r⟩
  · refine (I.hok b u e).stay (fun c v hc q => k c v ?_ q) (fun _ q => q) fun _ _ q => q
    rcases hc with z | z
    · rw [z]; exact nit b u e
    · exact nit c _ z
theorem Inv.tok (I : Inv X pins σ H s) (t : Nat) : Inv X pins σ H { s with toks := t } := I.un (h' := s.heap) (t' := t) Un.refl I.hok
/-- all objects kept -/
theorem Inv.kept {t' : Nat} (I : Inv X pins σ H s) (k : ∀ b u, s.heap.get? b = some u → h'.get? b = some u) : Inv X pins σ H { s with heap := h', toks := t' } := I.un (Un.kept k) (I.hok.kept k)
/-- a new object laid and tracked -/
theorem Inv.laid {a : Addr} {o : HO} {t' : Nat} (I : Inv X pins σ H s) (k : ∀ b u, s.heap.get? b = some u → h'.get? b = some u) (hp : s.heap.objs.size ≤ a) (new : ObjOk X.prog X.w (upd H a o) h' a o) :
    Inv X pins σ (upd H a o) { s with heap := h', toks := t' } := I.un (Un.laid k hp (I.hok.fresh hp)) (I.hok.laid k hp new)
/-- an object written -/
theorem Inv.write {x e : Addr} {o : HO} {t' : Nat} (I : Inv X pins σ H s) (mu : Mut (H x)) (he : e = x ∨ H e = some (.own x)) (k : ∀ b u, b ≠ e → s.heap.get? b = some u → h'.get? b = some u) (heo : ∃ u, h'.get? e = some u)
    (new : ObjOk X.prog X.w (upd H x o) h' x o) : Inv X pins σ (upd H x o) { s with heap := h', toks := t' } := I.un (Un.write mu he k heo) (I.hok.write mu he k heo new)
/-- forgetting slots, pins -/
theorem Inv.weak {σ' : List (Option V)} (I : Inv X pins σ H s) (hl : σ'.length = σ.length) (w : ∀ (i : Nat) v, σ'[i]? = some (some v) → σ[i]? = some (some v)) : Inv X pins σ' H s :=
  ⟨I.ok, I.os, I.bare, I.base, let ⟨m, hn, hl'⟩ := I.loc; ⟨m, hn, fun i x v e1 e2 e3 => hl' i x v e1 (w i v e2) e3⟩, I.cell, I.free, I.freeC, I.pin, I.hok, hl.trans I.len⟩
theorem Inv.pins_of {pins' : List (Addr × Obj)} (I : Inv X pins σ H s) (h : ∀ p ∈ pins', s.heap.get? p.1 = some p.2 ∧ H p.1 = none ∧ p.1 ≠ X.env.locals ∧ p.1 ∉ X.fs ∧ ∀ v, p.2.data ≠ .cell v) : Inv X pins' σ H s :=
  ⟨I.ok, I.os, I.bare, I.base, I.loc, I.cell, I.free, I.freeC, fun p hp => (List.mem_append.mp hp).elim (fun z => I.pin p (List.mem_append_left _ z)) (h p), I.hok, I.len⟩

theorem nodup_ix {N : List Str} (hN : N.Nodup) {i j : Nat} {x : Str} (a : N[i]? = some x) (b : N[j]? = some x) : i = j := by
  obtain ⟨h1, e1⟩ := List.getElem?_eq_some_iff.mp a
  obtain ⟨h2, e2⟩ := List.getElem?_eq_some_iff.mp b
  exact (List.getElem_inj hN).mp (e1.trans e2.symm)

/-- a name is stored; what changed -/
theorem store_ok2 {M : Model} {A : Around} {E : Value → Shared → Prop} {i : Nat} {x : Str} {v : V} {u : Value} {Q : Unit → Shared → Prop} (I : Inv X pins σ H s) (hN : X.N.Nodup) (hi : X.N[i]? = some x) (hx : Loc X.env.scope x) (r : RelV v u)
    (h : ∀ s', Inv X pins (σ.set i (some v)) H s' → (∃ a, Heap.SameBut a s.heap s'.heap ∧ (a = X.env.locals ∨ X.env.cells.lookup x = some a)) → Q () s') (hf : X.fn x = true ∨ X.env.scope.names.lookup x = some .local := by first | exact .inl rfl | exact .inr rfl | assumption) : wpAny M A (storeName X.env x u) Q E s := by
  obtain ⟨m, hn, hl⟩ := id I.loc
  have hcls : (X.env.scope.kind == .class || (X.env.scope.kind == .module && X.env.locals != X.env.globals)) = false := by rw [I.ok.kind]; rfl
  have hiσ : i < σ.length := by rw [I.len]; exact (List.getElem?_eq_some_iff.mp hi).1
  have cne := I.cne
  have tracked : ∀ {a : Addr} {h' : Heap}, (∃ o, s.heap.get? a = some o ∧ H a = none) → Heap.SameBut a s.heap h' → HOk X.prog X.w H h' := fun {a h'} ha hs b ob e => by
    obtain ⟨_, _, hfree⟩ := ha
    refine (I.hok b ob e).stay (fun c w' hc q => (hs.2 c ?_).trans q) (fun _ q => q) fun _ _ q => q
    rintro rfl
    rcases hc with rfl | hc
    · rw [hfree] at e; cases e
    · rw [hfree] at hc; cases hc
  rcases hx with hk | hk
  · refine wpAny_storeName_local hk hn (fun h' hn' hs => ?_) hcls
    obtain ⟨oL, _, _, hoL, _⟩ := id hn
    refine h _ ⟨I.ok, I.os, I.bare, ⟨fun b o e n hb hx => ?_, fun b o e n hb hx => ?_, I.base.free, fun b o e hx => ?_, I.base.tups, I.base.frzs, I.base.tbls⟩, ⟨_, hn', fun j y v' e1 e2 e3 => ?_⟩, fun y c e => ?_, I.free, I.freeC, fun p hp => ?_, tracked ⟨oL, hoL, I.free⟩ hs, by simpa using I.len⟩ ⟨_, hs, .inl rfl⟩
    · exact (hs.2 b (Nat.ne_of_lt (Nat.lt_of_lt_of_le (Heap.lt_size e) I.ok.above))).trans (I.base.keep b o e n hb hx)
    · obtain ⟨sl, e1⟩ := I.base.slot b o e n hb hx
      exact ⟨sl, (hs.2 b (Nat.ne_of_lt (Nat.lt_of_lt_of_le (Heap.lt_size e) I.ok.above))).trans e1⟩
    · obtain ⟨o', e1⟩ := I.base.there b o e hx
      exact ⟨o', (hs.2 b (Nat.ne_of_lt (Nat.lt_of_lt_of_le (Heap.lt_size e) I.ok.above))).trans e1⟩
    · by_cases hj : j = i
      · subst hj
        rw [hi] at e1; cases e1
        rw [List.getElem?_set_self hiσ] at e2
        cases e2
        exact ⟨u, r, .inl ⟨hk, by simp⟩⟩
      · rw [List.getElem?_set_ne (Ne.symm hj)] at e2
        obtain ⟨u', r', q⟩ := hl j y v' e1 e2 e3
        refine ⟨u', r', ?_⟩
        rcases q with ⟨k, e⟩ | ⟨k, c, e, z⟩
        · refine .inl ⟨k, ?_⟩
          have : y ≠ x := fun e => hj (nodup_ix hN e1 (e ▸ hi))
          simp [this, e]
        · exact .inr ⟨k, c, e, z.sameBut hs (cne y c e)⟩
    · obtain ⟨w', z⟩ := I.cell y c e
      exact ⟨w', z.sameBut hs (cne y c e)⟩
    · obtain ⟨e, n, ne, nf, d⟩ := I.pin p hp
      exact ⟨(hs.2 p.1 ne).trans e, n, ne, nf, d⟩
  · have hfn : X.fn x = true := by
      rcases hf with z | z
      · exact z
      · rw [z] at hk; cases hk
    obtain ⟨c, hc⟩ := I.ok.has x (.inl hk)
    obtain ⟨w', z⟩ := I.cell x c hc
    refine wpAny_storeName_cell I.ok.kind hk hc z (fun h' hc' hs => ?_)
    obtain ⟨oc, hoc, hocd⟩ := id z
    refine h { s with heap := h' } ⟨I.ok, I.os, I.bare, ⟨fun b o e n hb hx => ?_, fun b o e n hb hx => ?_, I.base.free, fun b o e hx => ?_, I.base.tups, I.base.frzs, I.base.tbls⟩, ⟨m, hn.sameBut hs (Ne.symm (cne x c hc)), fun j y v' e1 e2 e3 => ?_⟩, fun y c' e => ?_, I.free, I.freeC, fun p hp => ?_, tracked ⟨oc, hoc, I.freeC x c hc⟩ hs, by simpa using I.len⟩ ⟨c, hs, .inr hc⟩
    · exact (hs.2 b (Nat.ne_of_lt (Nat.lt_of_lt_of_le (Heap.lt_size e) (I.ok.cab x c hfn hc)))).trans (I.base.keep b o e n hb hx)
    · obtain ⟨sl, e1⟩ := I.base.slot b o e n hb hx
      exact ⟨sl, (hs.2 b (Nat.ne_of_lt (Nat.lt_of_lt_of_le (Heap.lt_size e) (I.ok.cab x c hfn hc)))).trans e1⟩
    · obtain ⟨o', e1⟩ := I.base.there b o e hx
      exact ⟨o', (hs.2 b (Nat.ne_of_lt (Nat.lt_of_lt_of_le (Heap.lt_size e) (I.ok.cab x c hfn hc)))).trans e1⟩
    · by_cases hj : j = i
      · subst hj
        rw [hi] at e1; cases e1
        rw [List.getElem?_set_self hiσ] at e2
        cases e2
        exact ⟨u, r, .inr ⟨.inl hk, c, hc, hc'⟩⟩
      · rw [List.getElem?_set_ne (Ne.symm hj)] at e2
        obtain ⟨u', r', q⟩ := hl j y v' e1 e2 e3
        refine ⟨u', r', ?_⟩
        rcases q with q | ⟨k, c', e, z'⟩
        · exact .inl q
        · refine .inr ⟨k, c', e, z'.sameBut hs ?_⟩
          rintro rfl
          exact hj (nodup_ix hN e1 (I.ok.inj _ _ _ e hc ▸ hi))
    · by_cases hcc : c' = c
      · subst hcc; exact ⟨_, hc'⟩
      · obtain ⟨w2, z2⟩ := I.cell y c' e
        exact ⟨w2, z2.sameBut hs hcc⟩
    · obtain ⟨e, n, ne, nf, d⟩ := I.pin p hp
      refine ⟨(hs.2 p.1 ?_).trans e, n, ne, nf, d⟩
      intro q
      rw [q, hoc] at e
      have q' : oc = p.2 := Option.some.inj e
      exact d w' (by rw [← q']; exact hocd)
theorem store_ok {M : Model} {A : Around} {E : Value → Shared → Prop} {i : Nat} {x : Str} {v : V} {u : Value} {Q : Unit → Shared → Prop} (I : Inv X pins σ H s) (hN : X.N.Nodup) (hi : X.N[i]? = some x) (hx : Loc X.env.scope x) (r : RelV v u)
    (h : ∀ s', Inv X pins (σ.set i (some v)) H s' → Q () s') (hf : X.fn x = true ∨ X.env.scope.names.lookup x = some .local := by first | exact .inl rfl | exact .inr rfl | assumption) : wpAny M A (storeName X.env x u) Q E s :=
  store_ok2 I hN hi hx r (fun s' I' _ => h s' I') hf
/-- behind a call or a block, the state as it is -/
theorem Inv.call' {s' : Shared} {ch : List Addr} (I : Inv X pins σ H s) (ho : s'.os = s.os) (u : Un (frs X.stack) ch H H' s.heap s'.heap) (hok : HOk X.prog X.w H' s'.heap) (hg : AllBare s'.gens)
    (hch : ∀ b ∈ ch, (b ∈ X.ex ∨ X.s₀.heap.objs.size ≤ b) ∧ b ≠ X.env.locals ∧ (∀ x c, X.env.cells.lookup x = some c → c ≠ b) ∧ ∀ p ∈ X.pn ++ pins, p.1 ≠ b) : Inv X pins σ H' s' := by
  obtain ⟨h', g', d', t', o'⟩ := s'
  have e : o' = s.os := ho
  subst e
  exact I.call (g' := g') (t' := t') (d' := d') u hok hg hch
end

/-! ### the judgements -/
/-- an exception: its class, its own dict's address (where it has one), the abstract heap behind it -/
abbrev XK := Value → Option Addr → Hp → Prop
abbrev St := List (Option V)
abbrev VK := V → Hp → Prop
/-- an expression's reading; a test's; an argument list's -/
abbrev TE := St → Hp → VK → Prop
abbrev TT := St → Hp → (Bool → Hp → Prop) → Prop
abbrev TA := St → Hp → (List V → Hp → Prop) → Prop
/-- what is wanted behind a statement -/
structure Ends where
  nx : St → Hp → Prop
  rt : VK
  bk : St → Hp → Prop := fun _ _ => False
  ct : St → Hp → Prop := fun _ _ => False
abbrev TS := Ends → St → Hp → Prop

def EP (X : Cx) (pins : List (Addr × Obj)) (σ : St) (Q : VK) (u : Value) (s' : Shared) : Prop := ∃ v H', Inv X pins σ H' s' ∧ RelV v u ∧ Q v H'
def TP (X : Cx) (pins : List (Addr × Obj)) (σ : St) (Q : Bool → Hp → Prop) (b : Bool) (s' : Shared) : Prop := ∃ H', Inv X pins σ H' s' ∧ Q b H'
def AP (X : Cx) (pins : List (Addr × Obj)) (σ : St) (Q : List V → Hp → Prop) (us : List Value) (s' : Shared) : Prop := ∃ vs H', Inv X pins σ H' s' ∧ Vals vs us ∧ Q vs H'
def SP (X : Cx) (pins : List (Addr × Obj)) (D : Ends) (f : Flow) (s' : Shared) : Prop :=
  match f with
  | .next => ∃ σ' H', Inv X pins σ' H' s' ∧ D.nx σ' H'
  | .brk => ∃ σ' H', Inv X pins σ' H' s' ∧ D.bk σ' H'
  | .cont => ∃ σ' H', Inv X pins σ' H' s' ∧ D.ct σ' H'
  | .ret u => ∃ v σ' H', Inv X pins σ' H' s' ∧ RelV v u ∧ D.rt v H'

def PE (X : Cx) (e : Expr) (t : TE) : Prop :=
  ∀ (pins : List (Addr × Obj)) (s : Shared) (σ : St) (H : Hp) (Q : VK), Inv X pins σ H s → t σ H Q → wpAny (model X.prog X.w) X.A (eval e X.env) (EP X pins σ Q) X.xe s
def PT (X : Cx) (e : Expr) (t : TT) : Prop :=
  ∀ (pins : List (Addr × Obj)) (s : Shared) (σ : St) (H : Hp) (Q : Bool → Hp → Prop), Inv X pins σ H s → t σ H Q → wpAny (model X.prog X.w) X.A (isTrue e X.env (eval e X.env)) (TP X pins σ Q) X.xe s
/-- a test whatever its 'whole' is (and, or) -/
def PW (X : Cx) (e : Expr) (t : TT) : Prop :=
  ∀ (whole : Sem Value) (pins : List (Addr × Obj)) (s : Shared) (σ : St) (H : Hp) (Q : Bool → Hp → Prop), Inv X pins σ H s → t σ H Q → wpAny (model X.prog X.w) X.A (isTrue e X.env whole) (TP X pins σ Q) X.xe s
theorem PW.pt {X : Cx} {e : Expr} {t : TT} (h : PW X e t) : PT X e t := h _
/-- an argument list (no star), from the left -/
def PA (X : Cx) (es : List Expr) (t : TA) : Prop :=
  ∀ (pos : Pos) (pins : List (Addr × Obj)) (s : Shared) (σ : St) (H : Hp) (Q : List V → Hp → Prop), Inv X pins σ H s → t σ H Q → wpAny (model X.prog X.w) X.A (spliced (backTo pos (starEach es X.env))) (AP X pins σ Q) X.xe s
def PS (X : Cx) (st : Stmt) (t : TS) : Prop :=
  ∀ (pins : List (Addr × Obj)) (s : Shared) (σ : St) (H : Hp) (D : Ends), Inv X pins σ H s → t D σ H → wpAny (model X.prog X.w) X.A (exec st X.env) (SP X pins D) X.xe s
def PSs (X : Cx) (st : List Stmt) (t : TS) : Prop :=
  ∀ (pins : List (Addr × Obj)) (s : Shared) (σ : St) (H : Hp) (D : Ends), Inv X pins σ H s → t D σ H → wpAny (model X.prog X.w) X.A (execs st X.env) (SP X pins D) X.xe s
/-- weaken the end -/
theorem thn {α : Type} {t : Sem α} {Q Q' : α → Shared → Prop} {M : Model} {A : Around} {E : Value → Shared → Prop} {s : Shared} (h : wpAny M A t Q E s) (hQ : ∀ a s, Q a s → Q' a s) : wpAny M A t Q' E s := wpAny_mono h hQ fun _ _ x => x
end L2

namespace L2
open PySem PySem.Spec PyProof.Rows
section
variable {X : Cx}

/-- two expressions in a row -/
theorem bin {a b : Expr} {ta tb : TE} (ha : PE X a ta) (hb : PE X b tb) {pins : List (Addr × Obj)} {s : Shared} {σ : St} {H : Hp} {R : V → V → Hp → Prop} (I : Inv X pins σ H s) (h : ta σ H fun x H1 => tb σ H1 fun y H2 => R x y H2)
    {α : Type} {Q : α → Shared → Prop} {f : Value → Value → Sem α}
    (hf : ∀ v u s2 x y H2, Inv X pins σ H2 s2 → RelV x v → RelV y u → R x y H2 → wpAny (model X.prog X.w) X.A (f v u) Q X.xe s2) :
    wpAny (model X.prog X.w) X.A (eval a X.env) (fun v s₁ => wpAny (model X.prog X.w) X.A (eval b X.env) (fun u s₂ => wpAny (model X.prog X.w) X.A (f v u) Q X.xe s₂) X.xe s₁) X.xe s := by
  refine thn (ha pins s σ H _ I h) fun v s1 ⟨x, H1, I1, r1, q1⟩ => ?_
  refine thn (hb pins s1 σ H1 _ I1 q1) fun u s2 ⟨y, H2, I2, r2, q2⟩ => ?_
  exact hf v u s2 x y H2 I2 r1 r2 q2

/-! ### names and constants -/
def tVar (i : Nat) : TE := fun σ H Q => ∃ v, σ[i]? = some (some v) ∧ Q v H
def tC (v : V) : TE := fun _ H Q => Q v H
theorem pe_var {i : Nat} {x : Str} {pos : Pos} (hN : X.N[i]? = some x) (hv : Vis X.env.scope x) (hd : (x == ("__debug__" : Str)) = false := by decide) (hcd : (x == ("__classdict__" : Str)) = false := by decide) : PE X (.Name x pos) (tVar i) := by
  intro pins s σ H Q I h
  obtain ⟨v, e, h⟩ := h
  obtain ⟨m, hn, hl⟩ := I.loc
  obtain ⟨u, r, l⟩ := hl i x v hN e hv
  have fin : EP X pins σ Q u s := ⟨v, H, I, r, h⟩
  rcases l with ⟨hk, hm⟩ | ⟨hk, c, hc, hcell⟩
  · exact wpAny_Name (wpAny_loadName_local I.ok.kind hk hn hm fin) hd
  · rcases hk with hk | hk
    · exact wpAny_Name (wpAny_loadName_cell I.ok.kind hk hc hcell fin) hd
    · exact wpAny_Name (wpAny_loadName_free I.ok.kind hk hc hcell fin hcd) hd
theorem pe_int {i j pos} : PE X (.Constant (.int i) j pos) (tC (.int i)) := fun _ _ _ H _ I h => wpAny_Constant_int ⟨.int i, H, I.tok _, ⟨_, rfl⟩, h⟩
theorem pe_bl {b j pos} : PE X (.Constant (.bool b) j pos) (tC (.bl b)) := fun _ _ _ H _ I h => Constant_bool ⟨.bl b, H, I, rfl, h⟩
theorem pe_non {j pos} : PE X (.Constant .none j pos) (tC .non) := fun _ _ _ H _ I h => Constant_none ⟨.non, H, I, rfl, h⟩
theorem pe_str {x j pos} : PE X (.Constant (.str x) j pos) (tC (.str x)) := fun _ _ _ H _ I h => Calls.Constant_str ⟨.str x, H, I.tok _, ⟨_, rfl⟩, h⟩

/-- a global name of the def -/
def Gl (X : Cx) (x : Str) : Prop := X.env.kindOf x = some .globalImplicit
theorem ld_glob {E : Value → Shared → Prop} {pins : List (Addr × Obj)} {s : Shared} {σ : St} {H : Hp} {x : Str} {u : Value} {pos : Pos} {Q : Value → Shared → Prop} (I : Inv X pins σ H s) (hg : Gl X x) (hm : X.mg x = some u) (h : Q u s)
    (hd : (x == ("__debug__" : Str)) = false := by decide) : wpAny (model X.prog X.w) X.A (eval (.Name x pos) X.env) Q E s :=
  Calls.Name_function_global I.ok.kind hg (Calls.loadGlobal_global (by rw [I.ok.glob]; exact I.mod.glob.keeps I.bk) hm h) hd
theorem ld_blt {E : Value → Shared → Prop} {pins : List (Addr × Obj)} {s : Shared} {σ : St} {H : Hp} {x : Str} {u : Value} {pos : Pos} {Q : Value → Shared → Prop} (I : Inv X pins σ H s) (hg : Gl X x) (hm : X.mg x = none) (hv : bootBuiltins x = some u) (h : Q u s)
    (hn : x ≠ "__name__" := by decide) (hd : (x == ("__debug__" : Str)) = false := by decide) : wpAny (model X.prog X.w) X.A (eval (.Name x pos) X.env) Q E s := by
  obtain ⟨mb, h1, h2⟩ := I.mod.blt
  exact Calls.Name_function_global I.ok.kind hg (Calls.loadGlobal_builtin (by rw [I.ok.glob]; exact I.mod.glob.keeps I.bk) hm (by rw [I.ok.blt]; exact h1.keeps I.bk) ((h2 x hn).trans hv) h) hd
/-- a module's constant, a class, a function, as a value -/
theorem pe_glob {x : Str} {v : V} {u : Value} {pos : Pos} (hg : Gl X x) (hm : X.mg x = some u) (r : RelV v u) (hd : (x == ("__debug__" : Str)) = false := by decide) : PE X (.Name x pos) (tC v) :=
  fun _ _ _ H _ I h => ld_glob I hg hm ⟨v, H, I, r, h⟩ hd
theorem pe_bltn {x : Str} {v : V} {u : Value} {pos : Pos} (hg : Gl X x) (hm : X.mg x = none) (hv : bootBuiltins x = some u) (r : RelV v u) (hn : x ≠ "__name__" := by decide) (hd : (x == ("__debug__" : Str)) = false := by decide) : PE X (.Name x pos) (tC v) :=
  fun _ _ _ H _ I h => ld_blt I hg hm hv ⟨v, H, I, r, h⟩ hn hd

/-! ### arithmetic -/
/-- two ints -/
def t2I (ta tb : TE) (k : Int → Int → Hp → Prop) : St → Hp → Prop := fun σ H => ta σ H fun x H1 => tb σ H1 fun y H2 => ∃ i j, x = .int i ∧ y = .int j ∧ k i j H2
def tAdd (ta tb : TE) : TE := fun σ H Q => t2I ta tb (fun i j H2 => Q (.int (i + j)) H2) σ H
def tSub (ta tb : TE) : TE := fun σ H Q => t2I ta tb (fun i j H2 => Q (.int (i - j)) H2) σ H
/-- the left factor below 2^64 -/
def tMul (ta tb : TE) : TE := fun σ H Q => t2I ta tb (fun i j H2 => (-(2 ^ 64) < i ∧ i < 2 ^ 64) ∧ Q (.int (i * j)) H2) σ H
variable {a b : Expr} {ta tb : TE} {pos : Pos}
theorem pe_add (ha : PE X a ta) (hb : PE X b tb) : PE X (.BinOp a .Add b pos) (tAdd ta tb) := by
  intro pins s σ H Q I h
  refine wpAny_BinOp (bin ha hb I h fun v u s2 x y H2 I2 rx ry q => ?_)
  obtain ⟨i, j, rfl, rfl, q⟩ := q
  obtain ⟨t, rfl⟩ := rx
  obtain ⟨t', rfl⟩ := ry
  exact add_int ⟨.int _, H2, I2.tok _, ⟨_, rfl⟩, q⟩
theorem pe_sub (ha : PE X a ta) (hb : PE X b tb) : PE X (.BinOp a .Sub b pos) (tSub ta tb) := by
  intro pins s σ H Q I h
  refine wpAny_BinOp (bin ha hb I h fun v u s2 x y H2 I2 rx ry q => ?_)
  obtain ⟨i, j, rfl, rfl, q⟩ := q
  obtain ⟨t, rfl⟩ := rx
  obtain ⟨t', rfl⟩ := ry
  exact sub_int ⟨.int _, H2, I2.tok _, ⟨_, rfl⟩, q⟩
theorem pe_mul (ha : PE X a ta) (hb : PE X b tb) : PE X (.BinOp a .Mult b pos) (tMul ta tb) := by
  intro pins s σ H Q I h
  refine wpAny_BinOp (bin ha hb I h fun v u s2 x y H2 I2 rx ry q => ?_)
  obtain ⟨i, j, rfl, rfl, ⟨q1, q2⟩, q⟩ := q
  obtain ⟨t, rfl⟩ := rx
  obtain ⟨t', rfl⟩ := ry
  exact mul_int ⟨.int _, H2, I2.tok _, ⟨_, rfl⟩, q⟩ (.of_left (intBits_le_64 q1 q2))

/-! ### comparisons -/
def PC (X : Cx) (op : CmpOp) (a b : Expr) (t : TE) : Prop :=
  ∀ (pins : List (Addr × Obj)) (s : Shared) (σ : St) (H : Hp) (Q : VK), Inv X pins σ H s → t σ H Q →
    wpAny (model X.prog X.w) X.A (eval a X.env) (fun v s₁ => wpAny (model X.prog X.w) X.A (eval b X.env) (fun u s₂ => wpAny (model X.prog X.w) X.A (compareOp op v u) (EP X pins σ Q) X.xe s₂) X.xe s₁) X.xe s
theorem nobehind (b : Expr) {op : CmpOp} (h : op ≠ .In) (h2 : op ≠ .NotIn) : behindInMarks op b = false := by
  have e1 : (op == CmpOp.In) = false := by cases op <;> first | rfl | exact absurd rfl h
  have e2 : (op == CmpOp.NotIn) = false := by cases op <;> first | rfl | exact absurd rfl h2
  cases b <;> simp [behindInMarks, e1, e2]
def tCmp (p : Int → Int → Bool) (ta tb : TE) : TE := fun σ H Q => t2I ta tb (fun i j H2 => Q (.bl (p i j)) H2) σ H
abbrev tLt : TE → TE → TE := tCmp fun i j => decide (i < j)
abbrev tLe : TE → TE → TE := tCmp fun i j => decide (i ≤ j)
abbrev tGt : TE → TE → TE := tCmp fun i j => decide (j < i)
abbrev tGe : TE → TE → TE := tCmp fun i j => decide (j ≤ i)
abbrev tEqI : TE → TE → TE := tCmp fun i j => decide (i = j)
abbrev tNeI : TE → TE → TE := tCmp fun i j => !decide (i = j)
/-- a comparison of two ints, by its rule -/
theorem pc_int {op : CmpOp} {p : Int → Int → Bool} (ha : PE X a ta) (hb : PE X b tb)
    (rule : ∀ (i j : Int) (t u : Tok) (Q : Value → Shared → Prop) (s : Shared), Q (.bool (p i j)) s → wpAny (model X.prog X.w) X.A (compareOp op (.int i t) (.int j u)) Q X.xe s) : PC X op a b (tCmp p ta tb) := by
  intro pins s σ H Q I h
  refine bin ha hb I h fun v u s2 x y H2 I2 rx ry q => ?_
  obtain ⟨i, j, rfl, rfl, q⟩ := q
  obtain ⟨t, rfl⟩ := rx
  obtain ⟨t', rfl⟩ := ry
  exact rule i j t t' _ s2 ⟨.bl _, H2, I2, rfl, q⟩
theorem pc_lt (ha : PE X a ta) (hb : PE X b tb) : PC X .Lt a b (tLt ta tb) := pc_int ha hb fun _ _ _ _ _ _ h => lt_int h
theorem pc_le (ha : PE X a ta) (hb : PE X b tb) : PC X .LtE a b (tLe ta tb) := pc_int ha hb fun _ _ _ _ _ _ h => le_int h
theorem pc_gt (ha : PE X a ta) (hb : PE X b tb) : PC X .Gt a b (tGt ta tb) := pc_int ha hb fun _ _ _ _ _ _ h => gt_int h
theorem pc_ge (ha : PE X a ta) (hb : PE X b tb) : PC X .GtE a b (tGe ta tb) := pc_int ha hb fun _ _ _ _ _ _ h => ge_int h
theorem pc_eqI (ha : PE X a ta) (hb : PE X b tb) : PC X .Eq a b (tEqI ta tb) := pc_int ha hb fun _ _ _ _ _ _ h => eq_int (by rw [Bool.beq_eq_decide_eq]; exact h)
theorem pc_neI (ha : PE X a ta) (hb : PE X b tb) : PC X .NotEq a b (tNeI ta tb) := pc_int ha hb fun _ _ _ _ _ _ h => ne_int (by rw [bne, Bool.beq_eq_decide_eq]; exact h)
/-- is None -/
def tIsN (ta : TE) : TE := fun σ H Q => ta σ H fun x H1 => Q (.bl (decide (x = .non))) H1
def tNotN (ta : TE) : TE := fun σ H Q => ta σ H fun x H1 => Q (.bl (!decide (x = .non))) H1
theorem RelV.none_iff {x : V} {v : Value} (r : RelV x v) : (v == Value.none) = decide (x = .non) := by
  cases x with
  | non => cases r; rfl
  | bl _ => cases r; rfl
  | int _ => obtain ⟨t, rfl⟩ := r; rfl
  | str _ => obtain ⟨t, rfl⟩ := r; rfl
  | byt _ => obtain ⟨t, rfl⟩ := r; rfl
  | flt _ => obtain ⟨t, rfl⟩ := r; rfl
  | ref _ => cases r; rfl
  | ty _ => cases r; rfl
theorem pc_isN {j pos'} (ha : PE X a ta) : PC X .Is a (.Constant .none j pos') (tIsN ta) := by
  intro pins s σ H Q I h
  refine thn (ha pins s σ H _ I h) fun v s1 ⟨x, H1, I1, r1, q1⟩ => ?_
  exact Constant_none (is_none_gen ⟨.bl _, H1, I1, by rw [r1.none_iff]; rfl, q1⟩)
theorem pc_notN {j pos'} (ha : PE X a ta) : PC X .IsNot a (.Constant .none j pos') (tNotN ta) := by
  intro pins s σ H Q I h
  refine thn (ha pins s σ H _ I h) fun v s1 ⟨x, H1, I1, r1, q1⟩ => ?_
  exact Constant_none (isnot_none_gen ⟨.bl _, H1, I1, by rw [r1.none_iff]; rfl, q1⟩)
/-- a comparison as a value, as a test -/
def tB (t : TE) : TT := fun σ H Q => t σ H fun x H1 => ∃ c, x = .bl c ∧ Q c H1
theorem pe_cmp {op : CmpOp} {t : TE} (h : PC X op a b t) (h1 : behindInMarks op b = false := by first | exact nobehind _ (by decide) (by decide) | rfl) : PE X (.Compare a [op] [b] pos) t := fun pins s σ H Q I hw => wpAny_Compare1 (h pins s σ H Q I hw) h1
theorem pt_cmp {op : CmpOp} {t : TE} (h : PC X op a b t) (h1 : behindInMarks op b = false := by first | exact nobehind _ (by decide) (by decide) | rfl) : PT X (.Compare a [op] [b] pos) (tB t) := by
  intro pins s σ H Q I hw
  refine wpAny_isTrue_Compare1 (thn (h pins s σ H _ I hw) fun v s1 h1 => thn h1 fun u s2 h2 => thn h2 fun c s3 ⟨x, H1, I1, r1, q1⟩ => ?_) h1
  obtain ⟨d, rfl, q⟩ := q1
  cases r1
  exact wpAny_truthy_bool ⟨H1, I1, q⟩
/-- an expression whose value is a bool, as a test -/
theorem pt_val {e : Expr} {t : TE} (h : PE X e t) (he : ∀ whole, isTrue e X.env whole = (do let v ← whole; standAt e.pos; holding [v] (truthy v)) := by intro _; rfl) : PT X e (tB t) := by
  intro pins s σ H Q I hw
  refine isTrue_plain (thn (h pins s σ H _ I hw) fun v s1 ⟨x, H1, I1, r1, q1⟩ => ?_) (he _)
  obtain ⟨d, rfl, q⟩ := q1
  cases r1
  exact wpAny_truthy_bool ⟨H1, I1, q⟩

/-! ### and, or, not -/
variable {tA tB' : TT} {rest : List Expr}
def tAnd (t u : TT) : TT := fun σ H Q => t σ H fun c H1 => if c = true then u σ H1 Q else Q false H1
def tOr (t u : TT) : TT := fun σ H Q => t σ H fun c H1 => if c = true then Q true H1 else u σ H1 Q
def tNot (t : TT) : TT := fun σ H Q => t σ H fun c H1 => Q (!c) H1
theorem pw_and1 (ha : PT X a tA) : PW X (.BoolOp .And [a] pos) tA := by
  intro wh pins s σ H Q I h
  refine isTrue_and (thn (ha pins s σ H Q I h) fun c s1 e => ?_)
  cases c with
  | true => exact isTrue_and_nil e
  | false => exact e
theorem pw_or1 (ha : PT X a tA) : PW X (.BoolOp .Or [a] pos) tA := by
  intro wh pins s σ H Q I h
  refine isTrue_or (thn (ha pins s σ H Q I h) fun c s1 e => ?_)
  cases c with
  | false => exact isTrue_or_nil e
  | true => exact e
theorem pw_and (ha : PT X a tA) (hb : PW X (.BoolOp .And (b :: rest) pos) tB') : PW X (.BoolOp .And (a :: b :: rest) pos) (tAnd tA tB') := by
  intro wh pins s σ H Q I h
  refine isTrue_and (thn (ha pins s σ H _ I h) fun c s1 ⟨H1, I1, q1⟩ => ?_)
  cases c with
  | true => exact hb wh pins s1 σ H1 Q I1 q1
  | false => exact ⟨H1, I1, q1⟩
theorem pw_or (ha : PT X a tA) (hb : PW X (.BoolOp .Or (b :: rest) pos) tB') : PW X (.BoolOp .Or (a :: b :: rest) pos) (tOr tA tB') := by
  intro wh pins s σ H Q I h
  refine isTrue_or (thn (ha pins s σ H _ I h) fun c s1 ⟨H1, I1, q1⟩ => ?_)
  cases c with
  | true => exact ⟨H1, I1, q1⟩
  | false => exact hb wh pins s1 σ H1 Q I1 q1
theorem pt_not (ha : PT X a tA) : PT X (.UnaryOp .Not a pos) (tNot tA) := by
  intro pins s σ H Q I h
  exact isTrue_not (ha pins s σ H (fun c H1 => Q (!c) H1) I h)
/-- .. as values (bools) -/
def tAndV (ta tb : TE) : TE := fun σ H Q => ta σ H fun x H1 => ∃ c, x = .bl c ∧ if c = true then tb σ H1 Q else Q (.bl false) H1
def tOrV (ta tb : TE) : TE := fun σ H Q => ta σ H fun x H1 => ∃ c, x = .bl c ∧ if c = true then Q (.bl true) H1 else tb σ H1 Q
def tNotV (ta : TE) : TE := fun σ H Q => ta σ H fun x H1 => ∃ c, x = .bl c ∧ Q (.bl (!c)) H1
theorem pe_one {op} {t : TE} (h : PE X a t) : PE X (.BoolOp op [a] pos) t := fun pins s σ H Q I hw => BoolOp_one (h pins s σ H Q I hw)
theorem pe_and (ha : PE X a ta) (hb : PE X (.BoolOp .And (b :: rest) pos) tb) : PE X (.BoolOp .And (a :: b :: rest) pos) (tAndV ta tb) := by
  intro pins s σ H Q I h
  refine BoolOp_and (thn (ha pins s σ H _ I h) fun v s1 ⟨x, H1, I1, r1, q1⟩ => ?_)
  obtain ⟨c, rfl, q1⟩ := q1
  cases r1
  refine wpAny_truthy_bool ?_
  cases c with
  | true => exact hb pins s1 σ H1 Q I1 q1
  | false => exact ⟨.bl false, H1, I1, rfl, q1⟩
theorem pe_or (ha : PE X a ta) (hb : PE X (.BoolOp .Or (b :: rest) pos) tb) : PE X (.BoolOp .Or (a :: b :: rest) pos) (tOrV ta tb) := by
  intro pins s σ H Q I h
  refine BoolOp_or (thn (ha pins s σ H _ I h) fun v s1 ⟨x, H1, I1, r1, q1⟩ => ?_)
  obtain ⟨c, rfl, q1⟩ := q1
  cases r1
  refine wpAny_truthy_bool ?_
  cases c with
  | false => exact hb pins s1 σ H1 Q I1 q1
  | true => exact ⟨.bl true, H1, I1, rfl, q1⟩
theorem pe_not (ha : PE X a ta) : PE X (.UnaryOp .Not a pos) (tNotV ta) := by
  intro pins s σ H Q I h
  refine UnaryOp_ (thn (ha pins s σ H _ I h) fun v s1 ⟨x, H1, I1, r1, q1⟩ => ?_)
  obtain ⟨c, rfl, q1⟩ := q1
  cases r1
  exact not_of (wpAny_truthy_bool ⟨.bl (!c), H1, I1, rfl, q1⟩)
/-- a if t else b -/
def tIf (t : TT) (ta tb : TE) : TE := fun σ H Q => t σ H fun c H1 => if c = true then ta σ H1 Q else tb σ H1 Q
theorem pe_ifExp {c : Expr} (hc : PT X c tA) (ha : PE X a ta) (hb : PE X b tb) : PE X (.IfExp c a b pos) (tIf tA ta tb) := by
  intro pins s σ H Q I h
  refine wpAny_IfExp (thn (hc pins s σ H _ I h) fun d s1 ⟨H1, I1, q1⟩ => ?_)
  cases d with
  | true => exact ha pins s1 σ H1 Q I1 q1
  | false => exact hb pins s1 σ H1 Q I1 q1
end
end L2

namespace L2
open PySem PySem.Spec PyProof.Rows

/-! ### a list, a tuple that is read: tracked, frozen, or an object of the module -/
def SqL (K : PySem.W.Frag) (H : Hp) (a : Addr) (xs : List V) : Prop :=
  Rd H a (.lst xs) ∨
    ∃ (o : Obj) (its : Array Value) (n : Nat), K.lookup a = some o ∧ o.cls = .type "list" ∧ o.dict = none ∧ o.data = .seq its n ∧ its.size ≤ sizeLine ∧ Vals xs its.toList
def SqT (K : PySem.W.Frag) (H : Hp) (a : Addr) (xs : List V) : Prop :=
  Rd H a (.tup xs) ∨
    ∃ (o : Obj) (its : Array Value) (n : Nat), K.lookup a = some o ∧ o.cls = .type "tuple" ∧ o.data = .seq its n ∧ its.size ≤ sizeLine ∧ Vals xs its.toList
def absV : Value → Option V
  | .none => some .non
  | .bool b => some (.bl b)
  | .int i _ => some (.int i)
  | .str x _ => some (.str x)
  | .bytes b _ => some (.byt b)
  | .float b _ => some (.flt b)
  | .ref a => some (.ref a)
  | .type n => some (.ty n)
  | _ => none
theorem RelV.abs {x : V} {u : Value} (r : RelV x u) : absV u = some x := by
  cases x with
  | non => cases r; rfl
  | bl _ => cases r; rfl
  | int _ => obtain ⟨t, rfl⟩ := r; rfl
  | str _ => obtain ⟨t, rfl⟩ := r; rfl
  | byt _ => obtain ⟨t, rfl⟩ := r; rfl
  | flt _ => obtain ⟨t, rfl⟩ := r; rfl
  | ref _ => cases r; rfl
  | ty _ => cases r; rfl
theorem RelV.inj {x y : V} {u : Value} (r : RelV x u) (q : RelV y u) : x = y := Option.some.inj (r.abs.symm.trans q.abs)
theorem Vals.inj : ∀ {xs ys : List V} {us : List Value}, Vals xs us → Vals ys us → xs = ys
  | _, _, _, .nil, .nil => rfl
  | _, _, _, .cons r t, .cons r' t' => by rw [r.inj r', Vals.inj t t']
section
variable {X : Cx} {pins : List (Addr × Obj)} {σ : St} {H : Hp} {s : Shared} {a : Addr} {xs ys : List V}
theorem SqL.of {K : PySem.W.Frag} (h : H a = some (.lst xs)) : SqL K H a xs := .inl (.inl h)
theorem SqT.of {K : PySem.W.Frag} (h : H a = some (.tup xs)) : SqT K H a xs := .inl (.inl h)
theorem Inv.list (I : Inv X pins σ H s) (h : SqL X.K H a xs) : ∃ its : List Value, Vals xs its ∧ PlainL s.heap a its.toArray ∧ xs.length ≤ sizeLine := by
  rcases h with h | ⟨o, its, n, hk, hc, hd, hs, hz, r⟩
  · obtain ⟨z, its, n, r, e⟩ := h.ok I.hok
    exact ⟨its, r, ⟨_, n, e, rfl, rfl, rfl⟩, z⟩
  · refine ⟨its.toList, r, ⟨o, n, I.kIn a o hk, hc, hd, by simpa using hs⟩, ?_⟩
    have e := r.length
    simp only [Array.length_toList] at e
    omega
theorem Inv.tuple (I : Inv X pins σ H s) (h : SqT X.K H a xs) : ∃ its : List Value, Vals xs its ∧ IsTup s.heap a its.toArray ∧ xs.length ≤ sizeLine := by
  rcases h with h | ⟨o, its, n, hk, hc, hs, hz, r⟩
  · obtain ⟨z, its, r, p⟩ := h.ok I.hok
    exact ⟨its, r, p, z⟩
  · refine ⟨its.toList, r, ⟨o, I.kIn a o hk, hc, n, by simpa using hs⟩, ?_⟩
    have e := r.length
    simp only [Array.length_toList] at e
    omega
theorem Inv.list_inj (I : Inv X pins σ H s) (h : SqL X.K H a xs) (h' : SqL X.K H a ys) : xs = ys := by
  obtain ⟨its, r, ⟨o, n, e, _, _, d⟩, _⟩ := I.list h
  obtain ⟨its', r', ⟨o', n', e', _, _, d'⟩, _⟩ := I.list h'
  rw [e] at e'; cases e'
  rw [d] at d'
  injection d' with d1 _
  have : its = its' := by simpa using congrArg Array.toList d1
  subst this
  exact r.inj r'
theorem Inv.tuple_inj (I : Inv X pins σ H s) (h : SqT X.K H a xs) (h' : SqT X.K H a ys) : xs = ys := by
  obtain ⟨its, r, ⟨o, e, _, n, d⟩, _⟩ := I.tuple h
  obtain ⟨its', r', ⟨o', e', _, n', d'⟩, _⟩ := I.tuple h'
  rw [e] at e'; cases e'
  rw [d] at d'
  injection d' with d1 _
  have : its = its' := by simpa using congrArg Array.toList d1
  subst this
  exact r.inj r'
end

/-! ### another wish about exceptions -/
abbrev Cx.wish (X : Cx) (E : Value → Shared → Prop) : Cx := { X with xe := E }
/-- no exception leaves -/
abbrev Cx.nox (X : Cx) : Cx := X.wish fun _ _ => False
theorem Cx.Ok.wish {X : Cx} (ok : X.Ok) (E : Value → Shared → Prop) : (X.wish E).Ok :=
  ⟨ok.mod, ok.kind, ok.glob, ok.blt, ok.above, ok.inj, ok.has, ok.cab, ok.hd, ok.frames, ok.stk, ok.exf, ok.bs, ok.bsz, ok.noex, ok.exfs, ok.funs, ok.frf⟩
theorem Cx.Ok.unwish {X : Cx} {E : Value → Shared → Prop} (ok : (X.wish E).Ok) : X.Ok :=
  ⟨ok.mod, ok.kind, ok.glob, ok.blt, ok.above, ok.inj, ok.has, ok.cab, ok.hd, ok.frames, ok.stk, ok.exf, ok.bs, ok.bsz, ok.noex, ok.exfs, ok.funs, ok.frf⟩
section
variable {X : Cx} {pins : List (Addr × Obj)} {σ : St} {H : Hp} {s : Shared} {E : Value → Shared → Prop}
theorem Inv.wish (I : Inv X pins σ H s) (E : Value → Shared → Prop) : Inv (X.wish E) pins σ H s := ⟨I.ok.wish E, I.os, I.bare, I.base, I.loc, I.cell, I.free, I.freeC, I.pin, I.hok, I.len⟩
theorem Inv.unwish (I : Inv (X.wish E) pins σ H s) : Inv X pins σ H s := ⟨I.ok.unwish, I.os, I.bare, I.base, I.loc, I.cell, I.free, I.freeC, I.pin, I.hok, I.len⟩
theorem SP.unwish {D : Ends} {f : Flow} {s' : Shared} (h : SP (X.wish E) pins D f s') : SP X pins D f s' := by
  cases f with
  | next => obtain ⟨σ', H', I, q⟩ := h; exact ⟨σ', H', I.unwish, q⟩
  | brk => obtain ⟨σ', H', I, q⟩ := h; exact ⟨σ', H', I.unwish, q⟩
  | cont => obtain ⟨σ', H', I, q⟩ := h; exact ⟨σ', H', I.unwish, q⟩
  | ret u => obtain ⟨v, σ', H', I, r, q⟩ := h; exact ⟨v, σ', H', I.unwish, r, q⟩
theorem PE.nox {e : Expr} {t : TE} (h : PE X.nox e t) : PE X e t := fun pins s σ H Q I hw =>
  wpAny_mono (h pins s σ H Q (I.wish _) hw) (fun _ _ ⟨v, H', I', r, q⟩ => ⟨v, H', I'.unwish, r, q⟩) fun _ _ z => False.elim z
theorem PT.nox {e : Expr} {t : TT} (h : PT X.nox e t) : PT X e t := fun pins s σ H Q I hw =>
  wpAny_mono (h pins s σ H Q (I.wish _) hw) (fun _ _ ⟨H', I', q⟩ => ⟨H', I'.unwish, q⟩) fun _ _ z => False.elim z
theorem PSs.nox {st : List Stmt} {t : TS} (h : PSs X.nox st t) : PSs X st t := fun pins s σ H D I hw =>
  wpAny_mono (h pins s σ H D (I.wish _) hw) (fun _ _ q => q.unwish) fun _ _ z => False.elim z
end

/-! ### blocks and small statements -/
section
variable {X : Cx} {st : Stmt} {rest : List Stmt} {t u : TS} {e : Expr} {te : TE} {pos : Pos}
def tNext : TS := fun D σ H => D.nx σ H
def tSeq (t u : TS) : TS := fun D σ H => t { D with nx := u D } σ H
theorem pss_nil : PSs X [] tNext := fun _ _ σ H _ I h => wpAny_execs_nil ⟨σ, H, I, h⟩
theorem pss_cons (h1 : PS X st t) (h2 : PSs X rest u) : PSs X (st :: rest) (tSeq t u) := by
  intro pins s σ H D I h
  refine wpAny_execs_cons (thn (h1 pins s σ H { D with nx := u D } I h) fun f s1 q => ?_)
  cases f with
  | next =>
    obtain ⟨σ', H', I', q⟩ := q
    exact h2 pins s1 σ' H' D I' q
  | ret v => exact q
  | brk => exact q
  | cont => exact q
theorem pss_one (h1 : PS X st t) : PSs X [st] t := by
  intro pins s σ H D I h
  refine wpAny_execs_cons (thn (h1 pins s σ H D I h) fun f s1 q => ?_)
  cases f with
  | next => exact wpAny_execs_nil q
  | ret v => exact q
  | brk => exact q
  | cont => exact q
def tBreak : TS := fun D σ H => D.bk σ H
def tCont : TS := fun D σ H => D.ct σ H
theorem ps_pass : PS X (.Pass pos) tNext := fun _ _ σ H _ I h => wpAny_Pass ⟨σ, H, I, h⟩
theorem ps_break : PS X (.Break pos) tBreak := fun _ _ σ H _ I h => wpAny_Break ⟨σ, H, I, h⟩
theorem ps_continue : PS X (.Continue pos) tCont := fun _ _ σ H _ I h => wpAny_Continue ⟨σ, H, I, h⟩
/-- in a def's body nothing is shown -/
theorem Inv.quiet {pins : List (Addr × Obj)} {σ : St} {H : Hp} {s : Shared} (I : Inv X pins σ H s) : interactive X.env = false := by simp [interactive, I.ok.kind]
/-- a docstring -/
theorem ps_doc {x j pos pos'} : PS X (.Expr (.Constant (.str x) j pos) pos') tNext := fun _ s σ H _ I h => wpAny_Expr (Calls.Constant_str (show SP X _ _ .next { s with toks := s.toks + 1 } from ⟨σ, H, I.tok _, h⟩)) I.quiet
/-- an expression whose value is dropped -/
def tDrop (te : TE) : TS := fun D σ H => te σ H fun _ H1 => D.nx σ H1
theorem ps_expr (he : PE X e te) (hs : swapsWith e none pos.line X.env = pure false := by rfl) : PS X (.Expr e pos) (tDrop te) := by
  intro pins s σ H D I h
  exact wpAny_Expr_any (thn (he pins s σ H _ I h) fun v s1 ⟨x, H1, I1, r1, q1⟩ => ⟨σ, H1, I1, q1⟩) I.quiet hs
def tRet (te : TE) : TS := fun D σ H => te σ H D.rt
theorem ps_ret (he : PE X e te) : PS X (.Return (some e) pos) (tRet te) := by
  intro pins s σ H D I h
  exact wpAny_Return_some (thn (he pins s σ H _ I h) fun v s1 ⟨x, H1, I1, r1, q1⟩ => ⟨x, σ, H1, I1, r1, q1⟩)
def tRetN : TS := fun D _ H => D.rt .non H
theorem ps_retN : PS X (.Return none pos) tRetN := fun _ _ σ H _ I h => wpAny_Return_none ⟨.non, σ, H, I, rfl, h⟩
def tIfS (c : TT) (t u : TS) : TS := fun D σ H => c σ H fun b H1 => if b = true then t D σ H1 else u D σ H1
theorem ps_if {c : Expr} {a b : List Stmt} {tc : TT} (hc : PT X c tc) (ha : PSs X a t) (hb : PSs X b u) : PS X (.If c a b pos) (tIfS tc t u) := by
  intro pins s σ H D I h
  refine wpAny_If (thn (hc pins s σ H _ I h) fun d s1 ⟨H1, I1, q1⟩ => ?_)
  cases d with
  | true => exact ha pins s1 σ H1 D I1 q1
  | false => exact hb pins s1 σ H1 D I1 q1
/-- code that the proof never comes to -/
def tNever : TS := fun _ _ _ => False
theorem ps_never : PS X st tNever := fun _ _ _ _ _ _ h => h.elim
theorem pss_never {sts : List Stmt} : PSs X sts tNever := fun _ _ _ _ _ _ h => h.elim
end

/-! ### targets -/
abbrev TG := V → St → Hp → (St → Hp → Prop) → Prop
abbrev TGs := List V → St → Hp → (St → Hp → Prop) → Prop
def PG (X : Cx) (target : Expr) (t : TG) : Prop :=
  ∀ (pins : List (Addr × Obj)) (s : Shared) (σ : St) (H : Hp) (v : V) (u : Value) (Q : St → Hp → Prop), Inv X pins σ H s → RelV v u → t v σ H Q →
    wpAny (model X.prog X.w) X.A (assign target X.env u) (fun _ s' => ∃ σ' H', Inv X pins σ' H' s' ∧ Q σ' H') X.xe s
/-- several targets, one after another -/
def PGs (X : Cx) (ts : List Expr) (t : TGs) : Prop :=
  ∀ (pins : List (Addr × Obj)) (s : Shared) (σ : St) (H : Hp) (vs : List V) (us : List Value) (Q : St → Hp → Prop), Inv X pins σ H s → Vals vs us → t vs σ H Q →
    wpAny (model X.prog X.w) X.A (assignInOrder ((assignEach ts X.env).map (·.2)) us) (fun _ s' => ∃ σ' H', Inv X pins σ' H' s' ∧ Q σ' H') X.xe s
/-- o[i] = v, by values -/
abbrev TSet := V → V → V → Hp → (Hp → Prop) → Prop
def PSet (X : Cx) (t : TSet) : Prop :=
  ∀ (pins : List (Addr × Obj)) (s : Shared) (σ : St) (H : Hp) (o i v : V) (ov iv u : Value) (Q : Hp → Prop), Inv X pins σ H s → RelV o ov → RelV i iv → RelV v u → t o i v H Q →
    wpAny (model X.prog X.w) X.A (setItem ov iv u) (fun _ s' => ∃ H', Inv X pins σ H' s' ∧ Q H') X.xe s
/-- a op= b, by values -/
abbrev TIp := V → V → Hp → VK → Prop
def PIp (X : Cx) (op : Operator) (t : TIp) : Prop :=
  ∀ (pins : List (Addr × Obj)) (s : Shared) (σ : St) (H : Hp) (x y : V) (v u : Value) (Q : VK), Inv X pins σ H s → RelV x v → RelV y u → t x y H Q →
    wpAny (model X.prog X.w) X.A (inplaceOp op v u) (EP X pins σ Q) X.xe s
section
variable {X : Cx} {pos : Pos}
def gName (i : Nat) : TG := fun v σ H Q => Q (σ.set i (some v)) H
theorem pg_name {i : Nat} {x : Str} (hN : X.N.Nodup) (hi : X.N[i]? = some x) (hx : Loc X.env.scope x) (hf : X.fn x = true ∨ X.env.scope.names.lookup x = some .local := by first | exact .inl rfl | exact .inr rfl | assumption) : PG X (.Name x pos) (gName i) := by
  intro pins s σ H v u Q I r h
  exact wpAny_assign_Name (store_ok I hN hi hx r (fun s' I' => ⟨_, H, I', h⟩) hf)
def gNil : TGs := fun vs σ H Q => vs = [] ∧ Q σ H
def gCons (t : TG) (u : TGs) : TGs := fun vs σ H Q => ∃ v r, vs = v :: r ∧ t v σ H fun σ' H' => u r σ' H' Q
theorem pgs_nil : PGs X [] gNil := by
  intro pins s σ H vs us Q I r h
  obtain ⟨e, h⟩ := h
  subst e
  cases r
  exact assignInOrder_nil ⟨σ, H, I, h⟩
theorem pgs_cons {e : Expr} {es : List Expr} {t : TG} {u : TGs} (h1 : PG X e t) (h2 : PGs X es u)
    (hs : (assignEach (e :: es) X.env).map (·.2) = assign e X.env :: (assignEach es X.env).map (·.2) := by rfl) : PGs X (e :: es) (gCons t u) := by
  intro pins s σ H vs us Q I r h
  obtain ⟨v, vr, e1, h⟩ := h
  subst e1
  cases r with
  | cons r rr =>
    rw [hs]
    refine assignInOrder_cons (thn (h1 pins s σ H _ _ _ I r h) fun _ s1 ⟨σ1, H1, I1, q1⟩ => ?_)
    exact h2 pins s1 σ1 H1 _ _ Q I1 rr q1
/-- (a, b, ..) = a tuple of that length -/
def gTup (K : PySem.W.Frag) (n : Nat) (t : TGs) : TG := fun v σ H Q => ∃ a xs, v = .ref a ∧ SqT K H a xs ∧ xs.length = n ∧ t xs σ H Q
theorem pg_tup {es : List Expr} {k : Nat} {t : TGs} {n : Nat} (hc : X.calm = true) (h : PGs X es t)
    (hn : (assignEach es X.env).length = n := by rfl) (hst : (assignEach es X.env).findIdx? (·.1) = none := by rfl) : PG X (.Tuple es k pos) (gTup X.K n t) := by
  intro pins s σ H v u Q I r hw
  obtain ⟨a, xs, e1, hq, hl, hw⟩ := hw
  subst e1
  cases r
  obtain ⟨its, rv, ht, hz⟩ := I.tuple hq
  refine assign_Tuple_tuple (I.ok.hd hc) ht (by simp [hn, ← hl, rv.length]) hst fun h' hx => ?_
  have I1 : Inv X pins σ H { s with heap := h' } := I.kept (t' := s.toks) fun b o e => hx b o (Nat.ne_of_lt (Heap.lt_size e)) e
  exact h pins _ σ H xs _ Q I1 (by simpa using rv) hw
/-- o[i] = .. -/
def gSub (to ti : TE) (t : TSet) : TG := fun v σ H Q => to σ H fun o H1 => ti σ H1 fun i H2 => t o i v H2 fun H3 => Q σ H3
theorem pg_sub {o i : Expr} {to ti : TE} {t : TSet} (ho : PE X o to) (hi : PE X i ti) (hs : PSet X t)
    (ha : ∀ v, assign (.Subscript o i pos) X.env v = (do
      let ov ← holding [v] (eval o X.env)
      let iv ← holding [v, ov] (eval i X.env)
      standAt pos
      holding [v, ov, iv] (setItem ov iv v)
      release [v, ov, iv] []) := by intro _; rfl) : PG X (.Subscript o i pos) (gSub to ti t) := by
  intro pins s σ H v u Q I r h
  rw [ha]
  refine wpAny_bind (wpAny_holding (thn (ho pins s σ H _ I h) fun ov s1 ⟨x, H1, I1, r1, q1⟩ => ?_))
  refine wpAny_bind (wpAny_holding (thn (hi pins s1 σ H1 _ I1 q1) fun iv s2 ⟨y, H2, I2, r2, q2⟩ => ?_))
  refine wpAny_bind (wpAny_standAt (wpAny_bind (wpAny_holding (thn (hs pins s2 σ H2 x y v ov iv u _ I2 r1 r2 r q2) fun _ s3 ⟨H3, I3, q3⟩ => ?_))))
  exact wpAny_release ⟨σ, H3, I3, q3⟩
/-- target = value -/
def tAsg (te : TE) (g : TG) : TS := fun D σ H => te σ H fun x H1 => g x σ H1 D.nx
theorem ps_asg {tg e : Expr} {te : TE} {g : TG} (he : PE X e te) (hg : PG X tg g) (hs : swapsWithSole [tg] e pos.line X.env = pure false := by rfl) (hw : swappedStores [tg] e X.env = pure none := by rfl)
    (h1 : (assignEach [tg] X.env).map (·.2) = [assign tg X.env] := by rfl) : PS X (.Assign [tg] e pos) (tAsg te g) := by
  intro pins s σ H D I h
  refine wpAny_Assign_stores (thn (he pins s σ H _ I h) fun v s1 ⟨x, H1, I1, r1, q1⟩ => ?_) hs hw
  rw [h1]
  exact thn (hg pins s1 σ H1 x v _ I1 r1 q1) fun _ s2 q => q
/-- name = value -/
theorem ps_set {i : Nat} {x : Str} {e : Expr} {te : TE} {pos' : Pos} (hN : X.N.Nodup) (hi : X.N[i]? = some x) (hx : Loc X.env.scope x) (he : PE X e te) (hs : swapsWith e (some (.Name x pos')) pos.line X.env = pure false := by rfl) (hf : X.fn x = true ∨ X.env.scope.names.lookup x = some .local := by first | exact .inl rfl | exact .inr rfl | assumption) :
    PS X (.Assign [.Name x pos'] e pos) (tAsg te (gName i)) := by
  intro pins s σ H D I h
  refine wpAny_Assign_Name (thn (he pins s σ H _ I h) fun v s1 ⟨y, H1, I1, r1, q1⟩ => ?_) hs
  exact store_ok I1 hN hi hx r1 (fun s2 I2 => ⟨_, H1, I2, q1⟩) hf
/-- a, b = x, y with plain local names: stored from the right; the pair itself is not tracked (the opening rows as in PyProof/Rows/TupAssign.lean:23) -/
def tPar (i j : Nat) (ta : TA) : TS := fun D σ H => ta σ H fun vs H1 => ∃ v w, vs = [v, w] ∧ D.nx ((σ.set i (some v)).set j (some w)) H1
theorem ps_par {i j : Nat} {x y : Str} {a b : Expr} {ta : TA} {px py pt : Pos} {kt k2 pt2} (hc : X.calm = true) (hN : X.N.Nodup) (hi : X.N[i]? = some x) (hj : X.N[j]? = some y) (hij : i ≠ j)
    (hx : X.env.scope.names.lookup x = some .local) (hy : X.env.scope.names.lookup y = some .local) (ha : PA X [a, b] ta)
    (hw : swappedStores [.Tuple [.Name x px, .Name y py] kt pt] (.Tuple [a, b] k2 pt2) X.env = pure (some [x, y]))
    (hs : swapsWithSole [.Tuple [.Name x px, .Name y py] kt pt] (.Tuple [a, b] k2 pt2) pos.line X.env = pure false := by rfl) :
    PS X (.Assign [.Tuple [.Name x px, .Name y py] kt pt] (.Tuple [a, b] k2 pt2) pos) (tPar i j ta) := by
  intro pins s σ H D I h
  rw [exec_Assign_arm]
  refine wpAny_bind (wpAny_standAt ?_)
  rw [hs]
  refine wpAny_bind (wpAny_pure ?_)
  rw [if_neg (by decide)]
  refine wpAny_bind (Tuple_ (thn (ha _ pins s σ H _ I h) fun us s1 ⟨vs, H1, I1, r1, q1⟩ => ?_))
  obtain ⟨v, w, e1, q1⟩ := q1
  subst e1
  obtain ⟨u1, u2, rfl, rv, rw'⟩ : ∃ u1 u2, us = [u1, u2] ∧ RelV v u1 ∧ RelV w u2 := by
    cases r1 with
    | cons p q =>
      cases q with
      | cons p' q' =>
        cases q'
        exact ⟨_, _, rfl, p, p'⟩
  refine wpAny_newObj_type ?_ (by show 2 ≤ sizeLine; decide)
  have I2 : Inv X pins σ H1 { s1 with heap := s1.heap.push { cls := .type "tuple", data := .seq [u1, u2].toArray } } := I1.kept (t' := s1.toks) fun b o e => Heap.get?_push_of_some _ e
  rw [hw]
  refine wpAny_bind (wpAny_pure ?_)
  show wpAny (model X.prog X.w) X.A (do rule "assign.swapped-stores"; let items ← unpackItems (.ref s1.heap.objs.size) 2 none; assignInOrder [fun v => bindName X.env y v, fun v => bindName X.env x v] items.reverse; pure Flow.next) _ _ _
  refine wpAny_bind (wpAny_rule (wpAny_bind (unpackItems_tuple (items := #[u1, u2]) (I.ok.hd hc) (IsTup.new s1.heap _) fun h' hx' => ?_)))
  have I3 := I2.kept (h' := h') (t' := s1.toks) fun b o e => hx' b o (Nat.ne_of_lt (Heap.lt_size e)) e
  show wpAny _ _ (assignInOrder [fun v => bindName X.env y v, fun v => bindName X.env x v] [u2, u1] >>= fun _ => pure Flow.next) _ _ _
  refine wpAny_bind (assignInOrder_cons (wpAny_bindName (store_ok I3 hN hj (.inl hy) rw' (fun s2 I4 => ?_) (.inr hy))))
  refine assignInOrder_cons (wpAny_bindName (store_ok I4 hN hi (.inl hx) rv (fun s3 I5 => assignInOrder_nil (wpAny_pure ?_)) (.inr hx)))
  rw [List.set_comm _ _ (Ne.symm hij)] at I5
  exact ⟨_, H1, I5, q1⟩
/-- name op= e -/
def tAug (i : Nat) (te : TE) (ti : TIp) : TS := fun D σ H => ∃ x, σ[i]? = some (some x) ∧ te σ H fun y H1 => ti x y H1 fun z H2 => D.nx (σ.set i (some z)) H2
theorem ps_aug {i : Nat} {x : Str} {e : Expr} {te : TE} {op : Operator} {ti : TIp} {pos' : Pos} (hN : X.N.Nodup) (hi : X.N[i]? = some x) (hx : Loc X.env.scope x) (he : PE X e te) (ho : PIp X op ti) (hf : X.fn x = true ∨ X.env.scope.names.lookup x = some .local := by first | exact .inl rfl | exact .inr rfl | assumption) :
    PS X (.AugAssign (.Name x pos') op e pos) (tAug i te ti) := by
  intro pins s σ H D I h
  obtain ⟨v, e1, h⟩ := h
  obtain ⟨m, hn, hl⟩ := I.loc
  have vis : Vis X.env.scope x := by rcases hx with k | k; exact .inl k; exact .inr (.inl k)
  obtain ⟨u, r, l⟩ := hl i x v hi e1 vis
  refine wpAny_AugAssign_Name ?_
  have go : wpAny (model X.prog X.w) X.A (eval e X.env) (fun w s₂ => wpAny (model X.prog X.w) X.A (inplaceOp op u w) (fun r s₃ => wpAny (model X.prog X.w) X.A (storeName X.env x r) (fun _ => SP X pins D .next) X.xe s₃) X.xe s₂) X.xe s := by
    refine thn (he pins s σ H _ I h) fun w s1 ⟨y, H1, I1, r1, q1⟩ => ?_
    refine thn (ho pins s1 σ H1 v y u w _ I1 r r1 q1) fun z s2 ⟨zv, H2, I2, r2, q2⟩ => ?_
    exact store_ok I2 hN hi hx r2 (fun s3 I3 => ⟨_, H2, I3, q2⟩) hf
  rcases l with ⟨hk, hm⟩ | ⟨hk, c, hc, hcell⟩
  · exact wpAny_loadName_local I.ok.kind hk hn hm go
  · rcases hk with hk | hk
    · exact wpAny_loadName_cell I.ok.kind hk hc hcell go
    · rcases hx with k | k
      · have : X.env.scope.names.lookup x = some .free := hk
        rw [k] at this; cases this
      · have : X.env.scope.names.lookup x = some .free := hk
        rw [k] at this; cases this
/-- o[i] op= e -/
def tAugS (to ti te : TE) (tget : V → V → Hp → VK → Prop) (tip : TIp) (tset : TSet) : TS := fun D σ H => to σ H fun o H1 => ti σ H1 fun i H2 => tget o i H2 fun x H3 => te σ H3 fun y H4 => tip x y H4 fun z H5 => tset o i z H5 fun H6 => D.nx σ H6
/-- o[i], by values -/
def PGet (X : Cx) (t : V → V → Hp → VK → Prop) : Prop :=
  ∀ (pins : List (Addr × Obj)) (s : Shared) (σ : St) (H : Hp) (o i : V) (ov iv : Value) (Q : VK), Inv X pins σ H s → RelV o ov → RelV i iv → t o i H Q →
    wpAny (model X.prog X.w) X.A (getItem ov iv) (EP X pins σ Q) X.xe s
theorem ps_augS {o i e : Expr} {to ti te : TE} {tget : V → V → Hp → VK → Prop} {tip : TIp} {tset : TSet} {op : Operator} {tpos : Pos} (ho : PE X o to) (hi : PE X i ti) (hg : PGet X tget) (he : PE X e te) (hp : PIp X op tip) (hs : PSet X tset)
    (ha : ∀ ov iv new, augStore i ov iv new = (do holding [new, ov, iv] (setItem ov iv new); release [new, ov, iv] []; pure .next) := by intros; rfl) : PS X (.AugAssign (.Subscript o i tpos) op e pos) (tAugS to ti te tget tip tset) := by
  intro pins s σ H D I h
  refine wpAny_AugAssign_SubscriptAny (thn (ho pins s σ H _ I h) fun ov s1 ⟨x1, H1, I1, r1, q1⟩ => ?_) ha
  refine thn (hi pins s1 σ H1 _ I1 q1) fun iv s2 ⟨x2, H2, I2, r2, q2⟩ => ?_
  refine thn (hg pins s2 σ H2 x1 x2 ov iv _ I2 r1 r2 q2) fun old s3 ⟨x3, H3, I3, r3, q3⟩ => ?_
  refine thn (he pins s3 σ H3 _ I3 q3) fun v s4 ⟨x4, H4, I4, r4, q4⟩ => ?_
  refine thn (hp pins s4 σ H4 x3 x4 old v _ I4 r3 r4 q4) fun new s5 ⟨x5, H5, I5, r5, q5⟩ => ?_
  exact thn (hs pins s5 σ H5 x1 x2 x5 ov iv new _ I5 r1 r2 r5 q5) fun _ s6 ⟨H6, I6, q6⟩ => ⟨σ, H6, I6, q6⟩
/-- ints -/
def ipI (f : Int → Int → Int) : TIp := fun x y H Q => ∃ i j, x = .int i ∧ y = .int j ∧ Q (.int (f i j)) H
theorem ip_add : PIp X .Add (ipI fun i j => i + j) := by
  intro pins s σ H x y v u Q I r1 r2 h
  obtain ⟨i, j, e1, e2, q⟩ := h
  subst e1; subst e2
  obtain ⟨t, rfl⟩ := r1
  obtain ⟨t', rfl⟩ := r2
  exact iadd_int ⟨.int _, H, I.tok _, ⟨_, rfl⟩, q⟩
theorem ip_sub : PIp X .Sub (ipI fun i j => i - j) := by
  intro pins s σ H x y v u Q I r1 r2 h
  obtain ⟨i, j, e1, e2, q⟩ := h
  subst e1; subst e2
  obtain ⟨t, rfl⟩ := r1
  obtain ⟨t', rfl⟩ := r2
  exact isub_int ⟨.int _, H, I.tok _, ⟨_, rfl⟩, q⟩
end

/-! ### while -/
section
variable {X : Cx} {pos : Pos}
/-- the invariant W with its measure -/
def tWhile (c : TT) (tb : TS) : TS := fun D σ H => ∃ W : Nat → St → Hp → Prop, (∃ m, W m σ H) ∧ ∀ m σ H, W m σ H →
  c σ H fun b H1 => if b = true then ∃ N : St → Hp → Prop, (∀ σ' H', N σ' H' → ∃ m', m' < m ∧ W m' σ' H') ∧ tb { D with nx := N, ct := N, bk := D.nx } σ H1 else D.nx σ H1
theorem ps_while {c : Expr} {body : List Stmt} {tc : TT} {tb : TS} (hp : PassesOwn (model X.prog X.w) X.A X.env X.xe) (hc : PT X c tc) (hb : PSs X body tb) : PS X (.While c body [] pos) (tWhile tc tb) := by
  intro pins s σ H D I h
  obtain ⟨W, ⟨m0, w0⟩, turn⟩ := h
  refine wpAny_While (codeAny_whileLoop (fun n s' => ∃ σ' H', Inv X pins σ' H' s' ∧ W n σ' H') ?_ m0 ⟨σ, H, I, w0⟩)
  rintro n s1 ⟨σ1, H1, I1, w1⟩
  refine wpAny_passesOwn hp (thn (hc pins s1 σ1 H1 _ I1 (turn n σ1 H1 w1)) fun b s2 ⟨H2, I2, q2⟩ => ?_)
  cases b with
  | true =>
    obtain ⟨N, hN, q2⟩ := q2
    rw [if_pos rfl]
    refine wpAny_passesOwn hp (thn (hb pins s2 σ1 H2 _ I2 q2) fun f s3 q3 => ?_)
    cases f with
    | next =>
      obtain ⟨σ3, H3, I3, n3⟩ := q3
      obtain ⟨m', hm, w3⟩ := hN σ3 H3 n3
      exact ⟨m', hm, σ3, H3, I3, w3⟩
    | cont =>
      obtain ⟨σ3, H3, I3, n3⟩ := q3
      obtain ⟨m', hm, w3⟩ := hN σ3 H3 n3
      exact ⟨m', hm, σ3, H3, I3, w3⟩
    | brk => exact q3
    | ret v => exact q3
  | false =>
    rw [if_neg Bool.false_ne_true]
    exact wpAny_execs_nil ⟨σ1, H2, I2, q2⟩
end

/-! ### what a loop or a comprehension walks -/
/-- at turn i: it yields x (the heap may grow), or it stops -/
structure It where
  go : Nat → Hp → Prop
  yld : Nat → Hp → V → Hp → Prop
  stop : Nat → Hp → Prop
/-- the iterator's own objects may turn: they are not the frame's, not pinned, younger than the entry (or a comprehension's own) -/
def FpOk (X : Cx) (pins : List (Addr × Obj)) (H : Hp) (b : Addr) : Prop :=
  H b = none ∧ b ≠ X.env.locals ∧ b ∉ X.fs ∧ (b ∈ X.ex ∨ X.s₀.heap.objs.size ≤ b) ∧ (∀ x c, X.env.cells.lookup x = some c → c ≠ b) ∧ ∀ p ∈ X.pn ++ pins, p.1 ≠ b
theorem Inv.fpOk {X : Cx} {pins : List (Addr × Obj)} {σ : St} {H H' : Hp} {s : Shared} {b : Addr} (I : Inv X pins σ H s) (hb : s.heap.objs.size ≤ b) (hn : H' b = none) : FpOk X pins H' b := by
  refine ⟨hn, Nat.ne_of_gt (Nat.lt_of_lt_of_le I.lt hb), I.nofs hb, .inr (Nat.le_trans I.sz hb), fun x c e z => ?_, fun p hp z => ?_⟩
  · obtain ⟨v, q⟩ := I.cell x c e
    exact absurd (Nat.lt_of_lt_of_le q.lt (by rw [z]; exact hb)) (Nat.lt_irrefl _)
  · exact absurd (Nat.lt_of_lt_of_le (Heap.lt_size (I.pin p hp).1) (by rw [z]; exact hb)) (Nat.lt_irrefl _)
structure Turn (P : Program) (w : World) (K : PySem.W.Frag) (tg : Expr) (J : It) (fp : List Addr) (it : Addr) (tn : Nat → Heap → Prop) : Prop where
  mem : it ∈ fp
  obj : ∀ i h, tn i h → ∀ b ∈ fp, ∃ o, h.get? b = some o ∧ ∀ v, o.data ≠ .cell v
  keep : ∀ i h h', tn i h → (∀ b ∈ fp, ∀ o, h.get? b = some o → h'.get? b = some o) → tn i h'
  item : ∀ (X : Cx), X.prog = P → X.w = w → X.K = K → X.calm = true → ∀ (i : Nat) (pins : List (Addr × Obj)) (s : Shared) (σ : St) (H : Hp) (E : Value → Shared → Prop), Inv X pins σ H s → (∀ b ∈ fp, FpOk X pins H b) → tn i s.heap → J.go i H →
    wpAny (model P w) X.A (pyNext (.ref it)) (fun r s1 => ∃ u, r = some u ∧
      wpAny (model P w) X.A (letOwnedTupleGo tg (.ref it) u) (fun _ s2 => ∃ x H', Inv X pins σ H' s2 ∧ RelV x u ∧ J.yld i H x H' ∧ tn (i + 1) s2.heap ∧ ∀ b ∈ fp, H' b = none) E s1) E s
  done : ∀ (X : Cx), X.prog = P → X.w = w → X.K = K → X.calm = true → ∀ (i : Nat) (pins : List (Addr × Obj)) (s : Shared) (σ : St) (H : Hp) (E : Value → Shared → Prop), Inv X pins σ H s → (∀ b ∈ fp, FpOk X pins H b) → tn i s.heap → J.stop i H →
    wpAny (model P w) X.A (pyNext (.ref it)) (fun r s1 => r = none ∧ Inv X pins σ H s1) E s
  self : ∀ (A : Around) (i : Nat) (s : Shared) (Q : Value → Shared → Prop) (E : Value → Shared → Prop), tn i s.heap → Q (.ref it) s → wpAny (model P w) A (pyIter (.ref it)) Q E s
abbrev TI := St → Hp → (It → Hp → Prop) → Prop
/-- an iterator has come -/
def PIE (X : Cx) (pins : List (Addr × Obj)) (σ : St) (tg : Expr) (R : It → Hp → Prop) (itv : Value) (s2 : Shared) : Prop :=
  ∃ (it : Addr) (fp : List Addr) (tn : Nat → Heap → Prop) (J : It) (H' : Hp), itv = .ref it ∧ Inv X pins σ H' s2 ∧ Turn X.prog X.w X.K tg J fp it tn ∧ tn 0 s2.heap ∧ (∀ b ∈ fp, FpOk X pins H' b) ∧ R J H'
def PI (X : Cx) (tg iter : Expr) (wi : TI) : Prop :=
  ∀ (pins : List (Addr × Obj)) (s : Shared) (σ : St) (H : Hp) (R : It → Hp → Prop), Inv X pins σ H s → wi σ H R →
    wpAny (model X.prog X.w) X.A (eval iter X.env) (fun v s1 => wpAny (model X.prog X.w) X.A (pyIter v) (PIE X pins σ tg R) X.xe s1) X.xe s

/-- the step ahead of the store is nothing for an iterator that keeps no tuple -/
theorem go_of {M : Model} {A : Around} {E : Value → Shared → Prop} {s : Shared} {tg : Expr} {it : Addr} {u : Value} {o : Obj} {n : String} {vs : Array Value} {Q : Unit → Shared → Prop} (ho : s.heap.get? it = some o) (hc : o.cls = .type n) (hd : o.data = .fields vs)
    (hn : ["enumerate", "zip", "dict_itemiterator", "dict_reverseitemiterator", "odict_iterator", "itertools.zip_longest", "itertools.pairwise"].contains n = false) (hQ : Q () s) : wpAny M A (letOwnedTupleGo tg (.ref it) u) Q E s := by
  unfold letOwnedTupleGo
  cases tg <;> first
    | exact wpAny_pure hQ
    | (cases u <;> first
        | exact wpAny_pure hQ
        | (refine wpAny_bind (wpAny_load ho ?_)
           rw [hc, hd]
           show wpAny M A (if (["enumerate", "zip", "dict_itemiterator", "dict_reverseitemiterator", "odict_iterator", "itertools.zip_longest", "itertools.pairwise"].contains n && vs[0]? == some (rawInt _)) = true then _ else _) Q E s
           rw [if_neg (by intro h; rw [hn, Bool.false_and] at h; cases h)]
           exact wpAny_pure hQ))

/-- the list at a, as it stands at each turn (a loop may append to it) -/
def Itl (K : PySem.W.Frag) (a : Addr) : It :=
  ⟨fun i H => ∃ xs x, SqL K H a xs ∧ xs[i]? = some x, fun i H x H' => H' = H ∧ ∀ xs, SqL K H a xs → xs[i]? = some x, fun i H => ∃ xs, SqL K H a xs ∧ xs.length ≤ i⟩
def Itt (K : PySem.W.Frag) (a : Addr) : It :=
  ⟨fun i H => ∃ xs x, SqT K H a xs ∧ xs[i]? = some x, fun i H x H' => H' = H ∧ ∀ xs, SqT K H a xs → xs[i]? = some x, fun i H => ∃ xs, SqT K H a xs ∧ xs.length ≤ i⟩
/-- lo, lo + 1, .. (n of them) -/
def Itr (lo : Int) (n : Nat) : It := ⟨fun i _ => i < n, fun i H x H' => H' = H ∧ x = .int (lo + i), fun i _ => n ≤ i⟩
theorem turn_list {P : Program} {w : World} {K : PySem.W.Frag} {tg : Expr} (a it : Addr) : Turn P w K tg (Itl K a) [it] it (fun i h => h.IsListIter it a i) where
  mem := by simp
  obj := fun i h st b hb => by
    have e : b = it := by simpa using hb
    subst e
    obtain ⟨o, e, c, d⟩ := st
    exact ⟨o, e, fun v z => by rw [d] at z; cases z⟩
  keep := fun i h h' st k => st.at fun o e => k it (by simp) o e
  item := by
    intro X hP hw hK hc i pins s σ H E I hf st hg
    subst hP hw hK
    obtain ⟨xs, x, hq, hx⟩ := hg
    obtain ⟨its, rv, p, hz⟩ := I.list hq
    obtain ⟨u, hu, ru⟩ := rv.get hx
    obtain ⟨f0, f1, f2, f3, f4, f5⟩ := hf it (by simp)
    refine wpAny_pyNext_list_item st p.isList (x := u) (by simpa using hu) fun h' st' sb => ?_
    have I1 : Inv X pins σ H { s with heap := h' } := I.turned (t' := s.toks) (fun b o hb e => (sb.2 b hb).trans e) f0 f1 f3 f4 f5
    obtain ⟨o, e, c, d⟩ := id st'
    exact ⟨u, rfl, go_of (s := { s with heap := h' }) e c d (by decide) ⟨x, H, I1, ru, ⟨rfl, fun ys hy => by rw [I.list_inj hy hq]; exact hx⟩, st', fun b hb => (hf b hb).1⟩⟩
  done := by
    intro X hP hw hK hc i pins s σ H E I hf st hg
    subst hP hw hK
    obtain ⟨xs, hq, hx⟩ := hg
    obtain ⟨its, rv, p, hz⟩ := I.list hq
    obtain ⟨f0, f1, f2, f3, f4, f5⟩ := hf it (by simp)
    have hl := rv.length
    exact wpAny_pyNext_list_end (I.ok.hd hc) st p.isList (by simp; omega) fun h' eb => ⟨rfl, I.turned (t' := s.toks) (fun b o hb e => eb b o hb e) f0 f1 f3 f4 f5⟩
  self := fun _ _ _ _ _ st h => wpAny_pyIter_listiter st h
theorem turn_tuple {P : Program} {w : World} {K : PySem.W.Frag} {tg : Expr} (a it : Addr) : Turn P w K tg (Itt K a) [it] it (fun i h => h.IsTupleIter it a i) where
  mem := by simp
  obj := fun i h st b hb => by
    have e : b = it := by simpa using hb
    subst e
    obtain ⟨o, e, c, d⟩ := st
    exact ⟨o, e, fun v z => by rw [d] at z; cases z⟩
  keep := fun i h h' st k => st.at fun o e => k it (by simp) o e
  item := by
    intro X hP hw hK hc i pins s σ H E I hf st hg
    subst hP hw hK
    obtain ⟨xs, x, hq, hx⟩ := hg
    obtain ⟨its, rv, p, hz⟩ := I.tuple hq
    obtain ⟨u, hu, ru⟩ := rv.get hx
    obtain ⟨f0, f1, f2, f3, f4, f5⟩ := hf it (by simp)
    refine wpAny_pyNext_tuple_item st (show s.heap.IsTuple a its.toArray from p) (x := u) (by simpa using hu) fun h' st' sb => ?_
    have I1 : Inv X pins σ H { s with heap := h' } := I.turned (t' := s.toks) (fun b o hb e => (sb.2 b hb).trans e) f0 f1 f3 f4 f5
    obtain ⟨o, e, c, d⟩ := id st'
    exact ⟨u, rfl, go_of (s := { s with heap := h' }) e c d (by decide) ⟨x, H, I1, ru, ⟨rfl, fun ys hy => by rw [I.tuple_inj hy hq]; exact hx⟩, st', fun b hb => (hf b hb).1⟩⟩
  done := by
    intro X hP hw hK hc i pins s σ H E I hf st hg
    subst hP hw hK
    obtain ⟨xs, hq, hx⟩ := hg
    obtain ⟨its, rv, p, hz⟩ := I.tuple hq
    obtain ⟨f0, f1, f2, f3, f4, f5⟩ := hf it (by simp)
    have hl := rv.length
    exact wpAny_pyNext_tuple_end (I.ok.hd hc) st (show s.heap.IsTuple a its.toArray from p) (by simp; omega) fun h' eb => ⟨rfl, I.turned (t' := s.toks) (fun b o hb e => eb b o hb e) f0 f1 f3 f4 f5⟩
  self := fun _ _ _ _ _ st h => wpAny_pyIter_tupleiter st h
theorem turn_range {P : Program} {w : World} {K : PySem.W.Frag} {tg : Expr} (it : Addr) (lo : Int) (n : Nat) : Turn P w K tg (Itr lo n) [it] it (fun i h => IsRangeIter h it (lo + (i : Nat) * 1) ((n : Int) - (i : Nat)) 1) where
  mem := by simp
  obj := fun i h st b hb => by
    have e : b = it := by simpa using hb
    subst e
    exact ⟨_, st, fun v z => by
      have z' : Data.fields _ = Data.cell v := z
      cases z'⟩
  keep := fun i h h' st k => k it (by simp) _ st
  item := by
    intro X hP hw hK hc i pins s σ H E I hf st hg
    subst hP hw hK
    obtain ⟨f0, f1, f2, f3, f4, f5⟩ := hf it (by simp)
    have W := Walks.range (prog := X.prog) (w := X.w) (I.ok.hd hc) it lo 1 n
    refine W.item i s _ _ hg st fun v h' tk hv st' kk => ?_
    obtain ⟨t, rfl⟩ := hv
    have I1 : Inv X pins σ H { s with heap := h', toks := tk } := I.turned (fun b o hb e => kk b o (by simpa using hb) e) f0 f1 f3 f4 f5
    refine ⟨_, rfl, go_of (s := { s with heap := h', toks := tk }) (n := "range_iterator") st' rfl rfl (by decide) ⟨.int (lo + i), H, I1, ⟨t, ?_⟩, ⟨rfl, rfl⟩, st', fun b hb => (hf b hb).1⟩⟩
    rw [Int.mul_one]
  done := by
    intro X hP hw hK hc i pins s σ H E I hf st hg
    subst hP hw hK
    obtain ⟨f0, f1, f2, f3, f4, f5⟩ := hf it (by simp)
    exact wpAny_pyNext_range_end (I.ok.hd hc) st (by have : n ≤ i := hg; omega) fun h' eb => ⟨rfl, I.turned (t' := s.toks) (fun b o hb e => eb b o hb e) f0 f1 f3 f4 f5⟩
  self := fun _ _ _ _ _ st h => wpAny_pyIter_rangeiter st h
end L2

namespace L2
open PySem PySem.Spec PyProof.Rows
section
variable {X : Cx} {tg : Expr}
def iList (K : PySem.W.Frag) (tl : TE) : TI := fun σ H R => tl σ H fun x H1 => ∃ a, x = .ref a ∧ (∃ xs, SqL K H1 a xs) ∧ R (Itl K a) H1
def iTup (K : PySem.W.Frag) (tl : TE) : TI := fun σ H R => tl σ H fun x H1 => ∃ a, x = .ref a ∧ (∃ xs, SqT K H1 a xs) ∧ R (Itt K a) H1
theorem pi_list {l : Expr} {tl : TE} (hl : PE X l tl) : PI X tg l (iList X.K tl) := by
  intro pins s σ H R I h
  refine thn (hl pins s σ H _ I h) fun v s1 ⟨x, H1, I1, r1, q1⟩ => ?_
  obtain ⟨a, e, ⟨xs, hq⟩, q⟩ := q1
  subst e
  cases r1
  obtain ⟨its, rv, p, hz⟩ := I1.list hq
  refine wpAny_pyIter_list p.isList ?_
  refine ⟨s1.heap.objs.size, [s1.heap.objs.size], _, _, H1, rfl, I1.kept (t' := s1.toks) fun b o e => Heap.get?_push_of_some _ e, turn_list a _, ⟨_, Heap.get?_push_size _ rfl, rfl, rfl⟩, fun b hb => ?_, q⟩
  have e : b = s1.heap.objs.size := by simpa using hb
  subst e
  exact I1.fpOk (Nat.le_refl _) (I1.hok.fresh (Nat.le_refl _))
theorem pi_tup {l : Expr} {tl : TE} (hl : PE X l tl) : PI X tg l (iTup X.K tl) := by
  intro pins s σ H R I h
  refine thn (hl pins s σ H _ I h) fun v s1 ⟨x, H1, I1, r1, q1⟩ => ?_
  obtain ⟨a, e, ⟨xs, hq⟩, q⟩ := q1
  subst e
  cases r1
  obtain ⟨its, rv, p, hz⟩ := I1.tuple hq
  refine wpAny_pyIter_tuple (show s1.heap.IsTuple a its.toArray from p) ?_
  refine ⟨s1.heap.objs.size, [s1.heap.objs.size], _, _, H1, rfl, I1.kept (t' := s1.toks) fun b o e => Heap.get?_push_of_some _ e, turn_tuple a _, ⟨_, Heap.get?_push_size _ rfl, rfl, rfl⟩, fun b hb => ?_, q⟩
  have e : b = s1.heap.objs.size := by simpa using hb
  subst e
  exact I1.fpOk (Nat.le_refl _) (I1.hok.fresh (Nat.le_refl _))
/-- a range object just made, walked -/
theorem range_it {pins : List (Addr × Obj)} {σ : St} {H : Hp} {s : Shared} {R : It → Hp → Prop} {E : Value → Shared → Prop} {lo hi : Int} {t u v : Tok} {tk : Nat} (I : Inv X pins σ H s) (h1 : -(2 ^ 62) ≤ lo) (h2 : lo < 2 ^ 62) (h3 : -(2 ^ 62) ≤ hi) (h4 : hi < 2 ^ 62)
    (q : R (Itr lo (hi - lo).toNat) H) : wpAny (model X.prog X.w) X.A (pyIter (.ref s.heap.objs.size)) (PIE X pins σ tg R) E { s with heap := s.heap.push { cls := .type "range", data := .fields #[.int lo t, .int hi u, .int 1 v] }, toks := tk } := by
  refine wpAny_pyIter_range (IsRange.new ..) (small_one h1 h2 h3 h4) ?_
  have I1 : Inv X pins σ H { s with heap := s.heap.push { cls := .type "range", data := .fields #[.int lo t, .int hi u, .int 1 v] }, toks := tk } := I.kept fun b o e => Heap.get?_push_of_some _ e
  refine ⟨(s.heap.push { cls := .type "range", data := .fields #[.int lo t, .int hi u, .int 1 v] }).objs.size, [(s.heap.push { cls := .type "range", data := .fields #[.int lo t, .int hi u, .int 1 v] }).objs.size], _, _, H, rfl,
    I1.kept (t' := tk) fun b o e => Heap.get?_push_of_some _ e, turn_range _ lo (hi - lo).toNat, ?_, fun b hb => ?_, q⟩
  · have e1 : lo + ((0 : Nat) : Int) * 1 = lo := by simp
    have e2 : (((hi - lo).toNat : Nat) : Int) - ((0 : Nat) : Int) = Builtin.Range.rangeSize lo hi 1 := by rw [rangeSize_one]; split <;> omega
    show IsRangeIter _ _ (lo + ((0 : Nat) : Int) * 1) ((((hi - lo).toNat : Nat) : Int) - ((0 : Nat) : Int)) 1
    rw [e1, e2]
    exact Heap.get?_push_size _ rfl
  · have e : b = (s.heap.push { cls := .type "range", data := .fields #[.int lo t, .int hi u, .int 1 v] }).objs.size := by simpa using hb
    subst e
    exact I1.fpOk (Nat.le_refl _) (I1.hok.fresh (Nat.le_refl _))
def iRng1 (ta : TA) : TI := fun σ H R => ta σ H fun vs H1 => ∃ j : Int, vs = [.int j] ∧ -(2 ^ 62) ≤ j ∧ j < 2 ^ 62 ∧ R (Itr 0 j.toNat) H1
def iRng2 (ta : TA) : TI := fun σ H R => ta σ H fun vs H1 => ∃ i j : Int, vs = [.int i, .int j] ∧ (-(2 ^ 62) ≤ i ∧ i < 2 ^ 62 ∧ -(2 ^ 62) ≤ j ∧ j < 2 ^ 62) ∧ R (Itr i (j - i).toNat) H1
theorem pi_range1 {a : Expr} {ta : TA} {p pos : Pos} (hg : Gl X "range") (hm : X.mg "range" = none) (ha : PA X [a] ta) (hs : starEach [a] X.env = [(false, eval a X.env)] := by rfl) : PI X tg (.Call (.Name "range" p) [a] [] pos) (iRng1 ta) := by
  intro pins s σ H R I h
  refine Call_ (ld_blt I hg hm boot_range (PyProof.Rows.callWith_type1 (thn (ha pos pins s σ H _ I h) fun us s1 ⟨vs, H1, I1, r1, q1⟩ => ?_) hs rfl))
  obtain ⟨j, e, q1, q2, q⟩ := q1
  subst e
  cases r1 with
  | cons r rr =>
    cases rr
    obtain ⟨t, rfl⟩ := r
    exact call_range_1 (range_it I1 (by omega) (by omega) q1 q2 (by simpa using q))
theorem pi_range2 {a b : Expr} {ta : TA} {p pos : Pos} (hg : Gl X "range") (hm : X.mg "range" = none) (ha : PA X [a, b] ta) (hs : starEach [a, b] X.env = [(false, eval a X.env), (false, eval b X.env)] := by rfl) (hs2 : starEach [b] X.env = [(false, eval b X.env)] := by rfl) :
    PI X tg (.Call (.Name "range" p) [a, b] [] pos) (iRng2 ta) := by
  intro pins s σ H R I h
  refine Call_ (ld_blt I hg hm boot_range (PyProof.Rows.callWith_type1 (thn (ha pos pins s σ H _ I h) fun us s1 ⟨vs, H1, I1, r1, q1⟩ => ?_) (by rw [hs, hs2]) (by rw [hs2]; rfl)))
  obtain ⟨i, j, e, ⟨q1, q2, q3, q4⟩, q⟩ := q1
  subst e
  cases r1 with
  | cons r rr =>
    cases rr with
    | cons r' rr =>
      cases rr
      obtain ⟨t, rfl⟩ := r
      obtain ⟨t', rfl⟩ := r'
      exact call_range_2 (range_it I1 q1 q2 q3 q4 q)

/-! ### for -/
/-- W: the invariant by the turn and a measure; N: what the body is to reach -/
def tFor (wi : TI) (g : TG) (tb : TS) : TS := fun D σ H => wi σ H fun J H1 => ∃ W : Nat → Nat → St → Hp → Prop, (∃ m, W 0 m σ H1) ∧ ∀ i m σ H, W i m σ H →
  (J.stop i H ∧ D.nx σ H) ∨ (J.go i H ∧ ∃ N : St → Hp → Prop, (∀ σ' H', N σ' H' → ∃ m', m' < m ∧ W (i + 1) m' σ' H') ∧ ∀ x H', J.yld i H x H' → g x σ H' fun σ2 H2 => tb { D with nx := N, ct := N, bk := D.nx } σ2 H2)
/-- the records at fp as they stand -/
def pinsAt (fp : List Addr) (h : Heap) : List (Addr × Obj) := fp.filterMap fun b => (h.get? b).map fun o => (b, o)
theorem mem_pinsAt {fp : List Addr} {h : Heap} {b : Addr} {o : Obj} (hb : b ∈ fp) (e : h.get? b = some o) : (b, o) ∈ pinsAt fp h := List.mem_filterMap.mpr ⟨b, hb, by rw [e]; rfl⟩
theorem of_pinsAt {fp : List Addr} {h : Heap} {p : Addr × Obj} (hp : p ∈ pinsAt fp h) : p.1 ∈ fp ∧ h.get? p.1 = some p.2 := by
  obtain ⟨b, hb, e⟩ := List.mem_filterMap.mp hp
  cases q : h.get? b with
  | none => rw [q] at e; cases e
  | some o =>
    rw [q] at e
    have e' : (b, o) = p := Option.some.inj e
    subst e'
    exact ⟨hb, q⟩
theorem Inv.pinned {pins : List (Addr × Obj)} {σ : St} {H : Hp} {s : Shared} {fp : List Addr} (I : Inv X pins σ H s) (hf : ∀ b ∈ fp, FpOk X pins H b) (ho : ∀ b ∈ fp, ∃ o, s.heap.get? b = some o ∧ ∀ v, o.data ≠ .cell v) : Inv X (pins ++ pinsAt fp s.heap) σ H s :=
  I.pins_of fun p hp => (List.mem_append.mp hp).elim (fun z => I.pin p (List.mem_append_right _ z)) fun z => by
    obtain ⟨hb, e⟩ := of_pinsAt z
    obtain ⟨f0, f1, f2, _⟩ := hf p.1 hb
    obtain ⟨o, e', d⟩ := ho p.1 hb
    rw [e] at e'; cases e'
    exact ⟨e, f0, f1, f2, d⟩
theorem Inv.unpinned {pins pl : List (Addr × Obj)} {σ : St} {H : Hp} {s : Shared} (I : Inv X (pins ++ pl) σ H s) : Inv X pins σ H s := I.pins_of fun p hp => I.pin p (List.mem_append_right _ (List.mem_append_left _ hp))
theorem ps_for {iter : Expr} {body : List Stmt} {wi : TI} {g : TG} {tb : TS} {pos : Pos} (hp : PassesOwn (model X.prog X.w) X.A X.env X.xe) (hc : X.calm = true) (hi : PI X tg iter wi) (hg : PG X tg g) (hb : PSs X body tb)
    (hs : ∀ x, foldedSetIterable iter X.env x = pure x := by intro _; rfl) : PS X (.For tg iter body [] pos) (tFor wi g tb) := by
  intro pins s σ H D I h
  refine wpAny_For (thn (hi pins s σ H _ I h) fun v s1 h1 => thn h1 fun itv s2 h2 => ?_) hs
  obtain ⟨it, fp, tn, J, H2, e, I2, T, st2, f2, W, ⟨m0, w0⟩, turn⟩ := h2
  subst e
  -- what stays true of the iterator's objects through the loop
  have stat : ∀ {H' : Hp}, (∀ b ∈ fp, H' b = none) → ∀ b ∈ fp, FpOk X pins H' b := fun hn b hb => ⟨hn b hb, (f2 b hb).2⟩
  refine codeAny_forLoop_any (fun n s' => ∃ i σ' H', Inv X pins σ' H' s' ∧ tn i s'.heap ∧ (∀ b ∈ fp, H' b = none) ∧ W i n σ' H') ?_ m0 ⟨0, σ, H2, I2, st2, fun b hb => (f2 b hb).1, w0⟩
  rintro n s3 ⟨i, σ3, H3, I3, st3, fr3, w3⟩
  rcases turn i n σ3 H3 w3 with ⟨stop, qn⟩ | ⟨go, N, hN, step⟩
  · refine wpAny_passesOwn hp (thn (T.done X rfl rfl rfl hc i pins s3 σ3 H3 X.xe I3 (stat fr3) st3 stop) fun r s4 ⟨hr, I4⟩ => ?_)
    subst hr
    exact wpAny_execs_nil ⟨σ3, H3, I4, qn⟩
  · refine wpAny_passesOwn hp (thn (T.item X rfl rfl rfl hc i pins s3 σ3 H3 X.xe I3 (stat fr3) st3 go) fun r s4 ⟨u, hr, h4⟩ => ?_)
    subst hr
    refine wpAny_passesOwn hp (thn h4 fun _ s5 ⟨x, H5, I5, r5, y5, st5, fr5⟩ => ?_)
    have I5' := I5.pinned (stat fr5) (T.obj _ _ st5)
    refine wpAny_passesOwn hp (thn (hg _ s5 σ3 H5 x u _ I5' r5 (step x H5 y5)) fun _ s6 ⟨σ6, H6, I6, q6⟩ => ?_)
    refine wpAny_passesOwn hp (thn (hb _ s6 σ6 H6 _ I6 q6) fun f s7 q7 => ?_)
    have again : ∀ {σ7 : St} {H7 : Hp}, Inv X (pins ++ pinsAt fp s5.heap) σ7 H7 s7 → N σ7 H7 → ∃ m, m < n ∧ ∃ i σ' H', Inv X pins σ' H' s7 ∧ tn i s7.heap ∧ (∀ b ∈ fp, H' b = none) ∧ W i m σ' H' := fun {σ7 H7} I7 n7 => by
      obtain ⟨m', hm, w7⟩ := hN σ7 H7 n7
      refine ⟨m', hm, i + 1, σ7, H7, I7.unpinned, T.keep _ _ _ st5 fun b hb o e => (I7.pin (b, o) (List.mem_append_right _ (List.mem_append_right _ (mem_pinsAt hb e)))).1, fun b hb => ?_, w7⟩
      obtain ⟨o, e, d⟩ := T.obj _ _ st5 b hb
      exact (I7.pin (b, o) (List.mem_append_right _ (List.mem_append_right _ (mem_pinsAt hb e)))).2.1
    cases f with
    | next => obtain ⟨σ7, H7, I7, n7⟩ := q7; exact again I7 n7
    | cont => obtain ⟨σ7, H7, I7, n7⟩ := q7; exact again I7 n7
    | brk => obtain ⟨σ7, H7, I7, q7⟩ := q7; exact ⟨σ7, H7, I7.unpinned, q7⟩
    | ret v => obtain ⟨x7, σ7, H7, I7, r7, q7⟩ := q7; exact ⟨x7, σ7, H7, I7.unpinned, r7, q7⟩
end

/-! ### the forms one uses -/
/-- over a list that the body leaves as it is -/
theorem for_list {K : PySem.W.Frag} {a : Addr} {xs : List V} {g : TG} {tb : TS} {D : Ends} {σ : St} {H : Hp} (Pv : Nat → St → Hp → Prop) (h0 : Pv 0 σ H) (hl : ∀ i σ H, i ≤ xs.length → Pv i σ H → SqL K H a xs)
    (hs : ∀ i x σ H, xs[i]? = some x → Pv i σ H → g x σ H fun σ2 H2 => tb { D with nx := Pv (i + 1), ct := Pv (i + 1), bk := D.nx } σ2 H2) (hd : ∀ σ H, Pv xs.length σ H → D.nx σ H) :
    ∃ W : Nat → Nat → St → Hp → Prop, (∃ m, W 0 m σ H) ∧ ∀ i m σ H, W i m σ H →
      ((Itl K a).stop i H ∧ D.nx σ H) ∨ ((Itl K a).go i H ∧ ∃ N : St → Hp → Prop, (∀ σ' H', N σ' H' → ∃ m', m' < m ∧ W (i + 1) m' σ' H') ∧ ∀ x H', (Itl K a).yld i H x H' → g x σ H' fun σ2 H2 => tb { D with nx := N, ct := N, bk := D.nx } σ2 H2) := by
  refine ⟨fun i m σ H => m = xs.length - i ∧ i ≤ xs.length ∧ Pv i σ H, ⟨xs.length, by simp, Nat.zero_le _, h0⟩, ?_⟩
  rintro i m σ H ⟨rfl, hi, p⟩
  have q := hl i σ H hi p
  by_cases hlt : i < xs.length
  · refine .inr ⟨⟨xs, xs[i], q, by simp [hlt]⟩, Pv (i + 1), fun σ' H' p' => ⟨xs.length - (i + 1), by omega, rfl, hlt, p'⟩, fun x H' y => ?_⟩
    obtain ⟨e, y⟩ := y
    subst e
    exact hs i x σ _ (y xs q) p
  · have e : i = xs.length := by omega
    subst e
    exact .inl ⟨⟨xs, q, Nat.le_refl _⟩, hd σ H p⟩
theorem for_tup {K : PySem.W.Frag} {a : Addr} {xs : List V} {g : TG} {tb : TS} {D : Ends} {σ : St} {H : Hp} (Pv : Nat → St → Hp → Prop) (h0 : Pv 0 σ H) (hl : ∀ i σ H, i ≤ xs.length → Pv i σ H → SqT K H a xs)
    (hs : ∀ i x σ H, xs[i]? = some x → Pv i σ H → g x σ H fun σ2 H2 => tb { D with nx := Pv (i + 1), ct := Pv (i + 1), bk := D.nx } σ2 H2) (hd : ∀ σ H, Pv xs.length σ H → D.nx σ H) :
    ∃ W : Nat → Nat → St → Hp → Prop, (∃ m, W 0 m σ H) ∧ ∀ i m σ H, W i m σ H →
      ((Itt K a).stop i H ∧ D.nx σ H) ∨ ((Itt K a).go i H ∧ ∃ N : St → Hp → Prop, (∀ σ' H', N σ' H' → ∃ m', m' < m ∧ W (i + 1) m' σ' H') ∧ ∀ x H', (Itt K a).yld i H x H' → g x σ H' fun σ2 H2 => tb { D with nx := N, ct := N, bk := D.nx } σ2 H2) := by
  refine ⟨fun i m σ H => m = xs.length - i ∧ i ≤ xs.length ∧ Pv i σ H, ⟨xs.length, by simp, Nat.zero_le _, h0⟩, ?_⟩
  rintro i m σ H ⟨rfl, hi, p⟩
  have q := hl i σ H hi p
  by_cases hlt : i < xs.length
  · refine .inr ⟨⟨xs, xs[i], q, by simp [hlt]⟩, Pv (i + 1), fun σ' H' p' => ⟨xs.length - (i + 1), by omega, rfl, hlt, p'⟩, fun x H' y => ?_⟩
    obtain ⟨e, y⟩ := y
    subst e
    exact hs i x σ _ (y xs q) p
  · have e : i = xs.length := by omega
    subst e
    exact .inl ⟨⟨xs, q, Nat.le_refl _⟩, hd σ H p⟩
theorem for_range {lo : Int} {n : Nat} {g : TG} {tb : TS} {D : Ends} {σ : St} {H : Hp} (Pv : Nat → St → Hp → Prop) (h0 : Pv 0 σ H)
    (hs : ∀ i σ H, i < n → Pv i σ H → g (.int (lo + i)) σ H fun σ2 H2 => tb { D with nx := Pv (i + 1), ct := Pv (i + 1), bk := D.nx } σ2 H2) (hd : ∀ σ H, Pv n σ H → D.nx σ H) :
    ∃ W : Nat → Nat → St → Hp → Prop, (∃ m, W 0 m σ H) ∧ ∀ i m σ H, W i m σ H →
      ((Itr lo n).stop i H ∧ D.nx σ H) ∨ ((Itr lo n).go i H ∧ ∃ N : St → Hp → Prop, (∀ σ' H', N σ' H' → ∃ m', m' < m ∧ W (i + 1) m' σ' H') ∧ ∀ x H', (Itr lo n).yld i H x H' → g x σ H' fun σ2 H2 => tb { D with nx := N, ct := N, bk := D.nx } σ2 H2) := by
  refine ⟨fun i m σ H => m = n - i ∧ i ≤ n ∧ Pv i σ H, ⟨n, by simp, Nat.zero_le _, h0⟩, ?_⟩
  rintro i m σ H ⟨rfl, hi, p⟩
  by_cases hlt : i < n
  · refine .inr ⟨hlt, Pv (i + 1), fun σ' H' p' => ⟨n - (i + 1), by omega, rfl, hlt, p'⟩, fun x H' y => ?_⟩
    obtain ⟨e, y⟩ := y
    subst e y
    exact hs i σ _ hlt p
  · have e : i = n := by omega
    subst e
    exact .inl ⟨Nat.le_refl _, hd σ H p⟩
/-- while, by a word and a measure of the state -/
theorem while_by {c : TT} {tb : TS} {D : Ends} {σ : St} {H : Hp} (Pv : St → Hp → Prop) (μ : St → Hp → Nat) (h0 : Pv σ H)
    (hs : ∀ σ H, Pv σ H → c σ H fun b H1 => if b = true then tb { D with nx := fun σ' H' => Pv σ' H' ∧ μ σ' H' < μ σ H, ct := fun σ' H' => Pv σ' H' ∧ μ σ' H' < μ σ H, bk := D.nx } σ H1 else D.nx σ H1)
    (mono : ∀ σ H Q Q', (∀ b H1, Q b H1 → Q' b H1) → c σ H Q → c σ H Q') : tWhile c tb D σ H := by
  refine ⟨fun m σ H => m = μ σ H ∧ Pv σ H, ⟨_, rfl, h0⟩, ?_⟩
  rintro m σ H ⟨rfl, p⟩
  refine mono σ H _ _ (fun b H1 q => ?_) (hs σ H p)
  cases b with
  | true => exact ⟨_, fun σ' H' ⟨p', l⟩ => ⟨_, l, rfl, p'⟩, q⟩
  | false => exact q
end L2

namespace L2
open PySem PySem.Spec PyProof.Rows

abbrev R2 := V → V → Hp → VK → Prop
/-- a two-place operation on values: f is binaryOp op, inplaceOp op or compareOp op -/
def OpR (X : Cx) (f : Value → Value → Sem Value) (r : R2) : Prop :=
  ∀ (pins : List (Addr × Obj)) (s : Shared) (σ : St) (H : Hp) (x y : V) (v u : Value) (Q : VK), Inv X pins σ H s → RelV x v → RelV y u → r x y H Q →
    wpAny (model X.prog X.w) X.A (f v u) (EP X pins σ Q) X.xe s
/-- a one-place operation -/
def UnR (X : Cx) (f : Value → Sem Value) (r : V → Hp → VK → Prop) : Prop :=
  ∀ (pins : List (Addr × Obj)) (s : Shared) (σ : St) (H : Hp) (x : V) (v : Value) (Q : VK), Inv X pins σ H s → RelV x v → r x H Q →
    wpAny (model X.prog X.w) X.A (f v) (EP X pins σ Q) X.xe s
/-- a call of a value that is known (a builtin, a type) with values -/
def CallR (X : Cx) (f : Value) (r : List V → Hp → VK → Prop) : Prop :=
  ∀ (pins : List (Addr × Obj)) (s : Shared) (σ : St) (H : Hp) (xs : List V) (us : List Value) (Q : VK), Inv X pins σ H s → Vals xs us → r xs H Q →
    wpAny (model X.prog X.w) X.A (call f us) (EP X pins σ Q) X.xe s
/-- a value's truth -/
def TruR (X : Cx) (r : V → Hp → (Bool → Hp → Prop) → Prop) : Prop :=
  ∀ (pins : List (Addr × Obj)) (s : Shared) (σ : St) (H : Hp) (x : V) (v : Value) (Q : Bool → Hp → Prop), Inv X pins σ H s → RelV x v → r x H Q →
    wpAny (model X.prog X.w) X.A (truthy v) (TP X pins σ Q) X.xe s

def tOp (r : R2) (ta tb : TE) : TE := fun σ H Q => ta σ H fun x H1 => tb σ H1 fun y H2 => r x y H2 Q
def tUn (r : V → Hp → VK → Prop) (ta : TE) : TE := fun σ H Q => ta σ H fun x H1 => r x H1 Q
/-- ints in, under C, and a value out -/
def rI (C : Int → Int → Prop) (g : Int → Int → V) : R2 := fun x y H Q => ∃ i j, x = .int i ∧ y = .int j ∧ C i j ∧ Q (g i j) H
def rI0 (g : Int → Int → V) : R2 := fun x y H Q => ∃ i j, x = .int i ∧ y = .int j ∧ Q (g i j) H
def rU (g : Int → V) : V → Hp → VK → Prop := fun x H Q => ∃ i, x = .int i ∧ Q (g i) H

section
variable {X : Cx} {a b c : Expr} {ta tb tc : TE} {pos : Pos}

theorem binT (ha : PE X a ta) (hb : PE X b tb) {pins : List (Addr × Obj)} {s : Shared} {σ : St} {H : Hp} {R : V → V → Hp → Prop} (I : Inv X pins σ H s)
    (h : ta σ H fun x H1 => tb σ H1 fun y H2 => R x y H2) {Q : Value → Shared → Prop} {f : Value → Value → Sem Value}
    (hf : ∀ v u s2 x y H2, Inv X pins σ H2 s2 → RelV x v → RelV y u → R x y H2 → wpAny (model X.prog X.w) X.A (f v u) Q X.xe s2) :
    wpAny (model X.prog X.w) X.A (eval a X.env) (fun v s₁ => wpAny (model X.prog X.w) X.A (eval b X.env) (fun u s₂ => wpAny (model X.prog X.w) X.A (f v u) Q X.xe s₂) X.xe s₁) X.xe s := by
  refine thn (ha pins s σ H _ I h) fun v s1 ⟨x, H1, I1, r1, q1⟩ => ?_
  refine thn (hb pins s1 σ H1 _ I1 q1) fun u s2 ⟨y, H2, I2, r2, q2⟩ => ?_
  exact hf v u s2 x y H2 I2 r1 r2 q2

theorem pe_op {op : Operator} {r : R2} (ho : OpR X (binaryOp op) r) (ha : PE X a ta) (hb : PE X b tb) : PE X (.BinOp a op b pos) (tOp r ta tb) := by
  intro pins s σ H Q I h
  exact wpAny_BinOp (binT ha hb I h fun v u s2 x y H2 I2 rx ry q => ho pins s2 σ H2 x y v u Q I2 rx ry q)
theorem pe_un {op : UnaryOp} {r : V → Hp → VK → Prop} (ho : UnR X (unaryOp op) r) (ha : PE X a ta) : PE X (.UnaryOp op a pos) (tUn r ta) := by
  intro pins s σ H Q I h
  exact UnaryOp_ (thn (ha pins s σ H _ I h) fun v s1 ⟨x, H1, I1, r1, q1⟩ => ho pins s1 σ H1 x v Q I1 r1 q1)
/-- a op= e at a name: the name's slot i -/
theorem augR {op : Operator} {r : R2} (ho : OpR X (inplaceOp op) r) {pins : List (Addr × Obj)} {s : Shared} {σ : St} {H : Hp} {x y : V} {v u : Value} {Q : VK} (I : Inv X pins σ H s)
    (rx : RelV x v) (ry : RelV y u) (q : r x y H Q) : wpAny (model X.prog X.w) X.A (inplaceOp op v u) (EP X pins σ Q) X.xe s := ho pins s σ H x y v u Q I rx ry q

/-! ### ints -/
theorem opI {f : Value → Value → Sem Value} {C : Int → Int → Prop} {g : Int → Int → Int}
    (rule : ∀ (i j : Int) (t u : Tok) (s : Shared) (Q : Value → Shared → Prop) (E : Value → Shared → Prop), C i j → Q (.int (g i j) s.toks) { s with toks := s.toks + 1 } → wpAny (model X.prog X.w) X.A (f (.int i t) (.int j u)) Q E s) :
    OpR X f (rI C fun i j => .int (g i j)) := by
  intro pins s σ H x y v u Q I rx ry h
  obtain ⟨i, j, rfl, rfl, hc, q⟩ := h
  obtain ⟨t, rfl⟩ := rx
  obtain ⟨t', rfl⟩ := ry
  exact rule i j t t' s _ _ hc ⟨.int (g i j), H, I.tok _, ⟨_, rfl⟩, q⟩
theorem opI0 {f : Value → Value → Sem Value} {g : Int → Int → Int}
    (rule : ∀ (i j : Int) (t u : Tok) (s : Shared) (Q : Value → Shared → Prop) (E : Value → Shared → Prop), Q (.int (g i j) s.toks) { s with toks := s.toks + 1 } → wpAny (model X.prog X.w) X.A (f (.int i t) (.int j u)) Q E s) :
    OpR X f (rI0 fun i j => .int (g i j)) := by
  intro pins s σ H x y v u Q I rx ry h
  obtain ⟨i, j, rfl, rfl, q⟩ := h
  obtain ⟨t, rfl⟩ := rx
  obtain ⟨t', rfl⟩ := ry
  exact rule i j t t' s _ _ ⟨.int (g i j), H, I.tok _, ⟨_, rfl⟩, q⟩
theorem opB0 {f : Value → Value → Sem Value} {g : Int → Int → Bool}
    (rule : ∀ (i j : Int) (t u : Tok) (s : Shared) (Q : Value → Shared → Prop) (E : Value → Shared → Prop), Q (.bool (g i j)) s → wpAny (model X.prog X.w) X.A (f (.int i t) (.int j u)) Q E s) :
    OpR X f (rI0 fun i j => .bl (g i j)) := by
  intro pins s σ H x y v u Q I rx ry h
  obtain ⟨i, j, rfl, rfl, q⟩ := h
  obtain ⟨t, rfl⟩ := rx
  obtain ⟨t', rfl⟩ := ry
  exact rule i j t t' s _ _ ⟨.bl (g i j), H, I, rfl, q⟩

def CDiv (i j : Int) : Prop := 0 < j ∧ j < 1073741824
def CDivN (i j : Int) : Prop := j ≠ 0 ∧ j.natAbs < 1073741824
def CPow (i j : Int) : Prop := 0 ≤ j ∧ j ≤ 1000000 ∧ i.natAbs < 2 ^ 64
def CMul (i j : Int) : Prop := (-(2 ^ 64) < i ∧ i < 2 ^ 64) ∨ (-(2 ^ 64) < j ∧ j < 2 ^ 64)
theorem CMul.ok {i j : Int} (h : CMul i j) : IntMulOk i j := by
  rcases h with ⟨h1, h2⟩ | ⟨h1, h2⟩
  · exact .of_left (intBits_le_64 h1 h2)
  · exact .of_right (intBits_le_64 h1 h2)
theorem two_pow_nn (k : Nat) : (0 : Int) ≤ 2 ^ k := by
  rw [two_pow_cast]
  exact Int.natCast_nonneg _

theorem op_add : OpR X (binaryOp .Add) (rI0 fun i j => .int (i + j)) := opI0 fun _ _ _ _ _ _ _ q => add_int q
theorem op_sub : OpR X (binaryOp .Sub) (rI0 fun i j => .int (i - j)) := opI0 fun _ _ _ _ _ _ _ q => sub_int q
theorem op_mul : OpR X (binaryOp .Mult) (rI CMul fun i j => .int (i * j)) := opI fun _ _ _ _ _ _ _ hc q => mul_int q hc.ok
/-- // by a positive divisor -/
theorem op_fdiv : OpR X (binaryOp .FloorDiv) (rI CDiv fun i j => .int (i / j)) := opI fun i j _ _ _ _ _ hc q => by
  have h1 : (0 : Int) < j := hc.1
  have h2 : j < 1073741824 := hc.2
  exact floordiv_int (by omega) (by rw [Int.fdiv_eq_ediv_of_nonneg i (by omega)]; exact q) (.inl (PyProof.noPylong_small (by omega)))
theorem op_fdivN : OpR X (binaryOp .FloorDiv) (rI CDivN fun i j => .int (i.fdiv j)) := opI fun _ _ _ _ _ _ _ hc q => floordiv_int hc.1 q (.inl (PyProof.noPylong_small hc.2))
/-- % by a positive divisor of any size -/
theorem op_mod : OpR X (binaryOp .Mod) (rI (fun _ j => 0 < j) fun i j => .int (i % j)) := opI fun i j _ _ _ _ _ hc q => by
  have h1 : (0 : Int) < j := hc
  exact mod_int' (by omega) (by rw [Int.fmod_eq_emod_of_nonneg i (by omega)]; exact q)
theorem op_modN : OpR X (binaryOp .Mod) (rI (fun _ j => j ≠ 0) fun i j => .int (i.fmod j)) := opI fun _ _ _ _ _ _ _ hc q => mod_int' hc q
theorem op_pow : OpR X (binaryOp .Pow) (rI CPow fun i j => .int (i ^ j.toNat)) := opI fun _ _ _ _ _ _ _ hc q => pow_int_small hc.1 hc.2.1 hc.2.2 q
theorem op_shl : OpR X (binaryOp .LShift) (rI CPow fun i j => .int (i * 2 ^ j.toNat)) := opI fun _ _ _ _ _ _ _ hc q => lshift_int_small hc.1 hc.2.1 hc.2.2 q
theorem op_shr : OpR X (binaryOp .RShift) (rI (fun _ j => 0 ≤ j) fun i j => .int (i / 2 ^ j.toNat)) := opI fun i j _ _ _ _ _ hc q =>
  rshift_int hc (by rw [Int.fdiv_eq_ediv_of_nonneg i (two_pow_nn _)]; exact q)
theorem op_and : OpR X (binaryOp .BitAnd) (rI0 fun i j => .int (Builtin.bitAnd i j)) := opI0 fun _ _ _ _ _ _ _ q => and_int q
theorem op_or : OpR X (binaryOp .BitOr) (rI0 fun i j => .int (Builtin.bitOr i j)) := opI0 fun _ _ _ _ _ _ _ q => or_int q
theorem op_xor : OpR X (binaryOp .BitXor) (rI0 fun i j => .int (Builtin.bitXor i j)) := opI0 fun _ _ _ _ _ _ _ q => xor_int q

theorem iop_add : OpR X (inplaceOp .Add) (rI0 fun i j => .int (i + j)) := opI0 fun _ _ _ _ _ _ _ q => iadd_int q
theorem iop_sub : OpR X (inplaceOp .Sub) (rI0 fun i j => .int (i - j)) := opI0 fun _ _ _ _ _ _ _ q => isub_int q
theorem iop_mul : OpR X (inplaceOp .Mult) (rI CMul fun i j => .int (i * j)) := opI fun _ _ _ _ _ _ _ hc q => imul_int q hc.ok
theorem iop_fdiv : OpR X (inplaceOp .FloorDiv) (rI CDiv fun i j => .int (i / j)) := opI fun i j _ _ _ _ _ hc q => by
  have h1 : (0 : Int) < j := hc.1
  have h2 : j < 1073741824 := hc.2
  exact ifloordiv_int (by omega) (by rw [Int.fdiv_eq_ediv_of_nonneg i (by omega)]; exact q) (.inl (PyProof.noPylong_small (by omega)))
theorem iop_mod : OpR X (inplaceOp .Mod) (rI (fun _ j => 0 < j) fun i j => .int (i % j)) := opI fun i j _ _ _ _ _ hc q => by
  have h1 : (0 : Int) < j := hc
  exact imod_int (by omega) (by rw [Int.fmod_eq_emod_of_nonneg i (by omega)]; exact q)
theorem iop_shl : OpR X (inplaceOp .LShift) (rI CPow fun i j => .int (i * 2 ^ j.toNat)) := opI fun _ _ _ _ _ _ _ hc q => ilshift_int_small hc.1 hc.2.1 hc.2.2 q
theorem iop_shr : OpR X (inplaceOp .RShift) (rI (fun _ j => 0 ≤ j) fun i j => .int (i / 2 ^ j.toNat)) := opI fun i j _ _ _ _ _ hc q =>
  irshift_int hc (by rw [Int.fdiv_eq_ediv_of_nonneg i (two_pow_nn _)]; exact q)
theorem iop_and : OpR X (inplaceOp .BitAnd) (rI0 fun i j => .int (Builtin.bitAnd i j)) := opI0 fun _ _ _ _ _ _ _ q => iand_int q
theorem iop_or : OpR X (inplaceOp .BitOr) (rI0 fun i j => .int (Builtin.bitOr i j)) := opI0 fun _ _ _ _ _ _ _ q => ior_int q
theorem iop_xor : OpR X (inplaceOp .BitXor) (rI0 fun i j => .int (Builtin.bitXor i j)) := opI0 fun _ _ _ _ _ _ _ q => ixor_int q

theorem unI {f : Value → Sem Value} {g : Int → Int}
    (rule : ∀ (i : Int) (t : Tok) (s : Shared) (Q : Value → Shared → Prop) (E : Value → Shared → Prop), Q (.int (g i) s.toks) { s with toks := s.toks + 1 } → wpAny (model X.prog X.w) X.A (f (.int i t)) Q E s) :
    UnR X f (rU fun i => .int (g i)) := by
  intro pins s σ H x v Q I rx h
  obtain ⟨i, rfl, q⟩ := h
  obtain ⟨t, rfl⟩ := rx
  exact rule i t s _ _ ⟨.int (g i), H, I.tok _, ⟨_, rfl⟩, q⟩
theorem un_neg : UnR X (unaryOp .USub) (rU fun i => .int (-i)) := unI fun _ _ _ _ _ q => neg_int q
theorem un_inv : UnR X (unaryOp .Invert) (rU fun i => .int (Builtin.bitNot i)) := unI fun _ _ _ _ _ q => invert_int q

/-! ### bools among ints: n += (a < b) -/
theorem op_add_ib : OpR X (binaryOp .Add) (fun x y H Q => ∃ i k, x = .int i ∧ y = .bl k ∧ Q (.int (i + b2i k)) H) := by
  intro pins s σ H x y v u Q I rx ry h
  obtain ⟨i, k, rfl, rfl, q⟩ := h
  obtain ⟨t, rfl⟩ := rx
  cases ry
  exact add_int_bool ⟨.int (i + b2i k), H, I.tok _, ⟨_, rfl⟩, q⟩
end

/-! ### comparisons -/
/-- the scalars that == tells apart as data does -/
def scal : V → V → Bool
  | .non, .non => true | .non, .int _ => true | .int _, .non => true | .non, .bl _ => true | .bl _, .non => true | .non, .str _ => true | .str _, .non => true
  | .int _, .int _ => true | .bl _, .bl _ => true | .str _, .str _ => true | .byt _, .byt _ => true
  | .int _, .str _ => true | .str _, .int _ => true | .bl _, .str _ => true | .str _, .bl _ => true
  | _, _ => false
def rEq : R2 := fun x y H Q => scal x y = true ∧ Q (.bl (decide (x = y))) H
def rNe : R2 := fun x y H Q => scal x y = true ∧ Q (.bl (!decide (x = y))) H

theorem dec_int {i j : Int} : decide (V.int i = V.int j) = (i == j) := by
  rw [Bool.eq_iff_iff]
  simp
theorem dec_bl {i j : Bool} : decide (V.bl i = V.bl j) = (i == j) := by
  rw [Bool.eq_iff_iff]
  simp
theorem dec_str {i j : Str} : decide (V.str i = V.str j) = (i == j) := by
  rw [Bool.eq_iff_iff]
  simp
theorem dec_byt {i j : Array UInt8} : decide (V.byt i = V.byt j) = (i.toList == j.toList) := by
  rw [Bool.eq_iff_iff]
  cases i
  cases j
  simp

section
variable {X : Cx} {a b c : Expr} {ta tb tc : TE} {pos : Pos}
theorem fin_bl {pins : List (Addr × Obj)} {σ : St} {H : Hp} {s : Shared} {Q : VK} {k k' : Bool} (I : Inv X pins σ H s) (q : Q (.bl k) H) (e : k = k') : EP X pins σ Q (.bool k') s := by
  subst e
  exact ⟨.bl k, H, I, rfl, q⟩
theorem op_eq : OpR X (compareOp .Eq) rEq := by
  intro pins s σ H x y v u Q I rx ry h
  obtain ⟨hs, q⟩ := h
  cases x with
  | non =>
    cases rx
    cases y with
    | non => cases ry; exact PySem.EqNone.eq_none_none (fin_bl I q (by simp))
    | bl j => cases ry; exact PySem.EqNone.eq_none_bool (fin_bl I q (by simp))
    | int j => obtain ⟨t', rfl⟩ := ry; exact PySem.EqNone.eq_none_int (fin_bl I q (by simp))
    | str j => obtain ⟨t', rfl⟩ := ry; exact PySem.EqNone.eq_none_str (fin_bl I q (by simp))
    | _ => exact absurd (show false = true from hs) Bool.false_ne_true
  | bl i =>
    cases rx
    cases y with
    | non => cases ry; exact PySem.EqNone.eq_bool_none (fin_bl I q (by simp))
    | bl j => cases ry; exact eq_bool (fin_bl I q dec_bl)
    | str j => obtain ⟨t', rfl⟩ := ry; exact PySem.EqMixed.eq_bool_str (fin_bl I q (by simp))
    | _ => exact absurd (show false = true from hs) Bool.false_ne_true
  | int i =>
    obtain ⟨t, rfl⟩ := rx
    cases y with
    | non => cases ry; exact PySem.EqNone.eq_int_none (fin_bl I q (by simp))
    | int j => obtain ⟨t', rfl⟩ := ry; exact eq_int (fin_bl I q dec_int)
    | str j => obtain ⟨t', rfl⟩ := ry; exact PySem.EqMixed.eq_int_str (fin_bl I q (by simp))
    | _ => exact absurd (show false = true from hs) Bool.false_ne_true
  | str i =>
    obtain ⟨t, rfl⟩ := rx
    cases y with
    | non => cases ry; exact PySem.EqNone.eq_str_none (fin_bl I q (by simp))
    | bl j => cases ry; exact PySem.EqMixed.eq_str_bool (fin_bl I q (by simp))
    | int j => obtain ⟨t', rfl⟩ := ry; exact PySem.EqMixed.eq_str_int (fin_bl I q (by simp))
    | str j => obtain ⟨t', rfl⟩ := ry; exact eq_str (fin_bl I q dec_str)
    | _ => exact absurd (show false = true from hs) Bool.false_ne_true
  | byt i =>
    obtain ⟨t, rfl⟩ := rx
    cases y with
    | byt j => obtain ⟨t', rfl⟩ := ry; exact PySem.W.eq_bytes (fin_bl I q dec_byt)
    | _ => exact absurd (show false = true from hs) Bool.false_ne_true
  | _ => cases y <;> exact absurd (show false = true from hs) Bool.false_ne_true
theorem op_ne : OpR X (compareOp .NotEq) rNe := by
  intro pins s σ H x y v u Q I rx ry h
  obtain ⟨hs, q⟩ := h
  cases x with
  | non =>
    cases rx
    cases y with
    | non => cases ry; exact PySem.EqNone.ne_none_none (fin_bl I q (by simp))
    | bl j => cases ry; exact PySem.EqNone.ne_none_bool (fin_bl I q (by simp))
    | int j => obtain ⟨t', rfl⟩ := ry; exact PySem.EqNone.ne_none_int (fin_bl I q (by simp))
    | str j => obtain ⟨t', rfl⟩ := ry; exact PySem.EqNone.ne_none_str (fin_bl I q (by simp))
    | _ => exact absurd (show false = true from hs) Bool.false_ne_true
  | bl i =>
    cases rx
    cases y with
    | non => cases ry; exact PySem.EqNone.ne_bool_none (fin_bl I q (by simp))
    | bl j => cases ry; exact ne_bool (fin_bl I q (congrArg not dec_bl))
    | str j => obtain ⟨t', rfl⟩ := ry; exact PySem.EqMixed.ne_bool_str (fin_bl I q (by simp))
    | _ => exact absurd (show false = true from hs) Bool.false_ne_true
  | int i =>
    obtain ⟨t, rfl⟩ := rx
    cases y with
    | non => cases ry; exact PySem.EqNone.ne_int_none (fin_bl I q (by simp))
    | int j => obtain ⟨t', rfl⟩ := ry; exact ne_int (fin_bl I q (congrArg not dec_int))
    | str j => obtain ⟨t', rfl⟩ := ry; exact PySem.EqMixed.ne_int_str (fin_bl I q (by simp))
    | _ => exact absurd (show false = true from hs) Bool.false_ne_true
  | str i =>
    obtain ⟨t, rfl⟩ := rx
    cases y with
    | non => cases ry; exact PySem.EqNone.ne_str_none (fin_bl I q (by simp))
    | bl j => cases ry; exact PySem.EqMixed.ne_str_bool (fin_bl I q (by simp))
    | int j => obtain ⟨t', rfl⟩ := ry; exact PySem.EqMixed.ne_str_int (fin_bl I q (by simp))
    | str j => obtain ⟨t', rfl⟩ := ry; exact ne_str (fin_bl I q (congrArg not dec_str))
    | _ => exact absurd (show false = true from hs) Bool.false_ne_true
  | byt i =>
    obtain ⟨t, rfl⟩ := rx
    cases y with
    | byt j => obtain ⟨t', rfl⟩ := ry; exact PySem.W.ne_bytes (fin_bl I q (congrArg not dec_byt))
    | _ => exact absurd (show false = true from hs) Bool.false_ne_true
  | _ => cases y <;> exact absurd (show false = true from hs) Bool.false_ne_true

theorem op_lt : OpR X (compareOp .Lt) (rI0 fun i j => .bl (decide (i < j))) := opB0 fun _ _ _ _ _ _ _ q => lt_int q
theorem op_le : OpR X (compareOp .LtE) (rI0 fun i j => .bl (decide (i ≤ j))) := opB0 fun _ _ _ _ _ _ _ q => le_int q
theorem op_gt : OpR X (compareOp .Gt) (rI0 fun i j => .bl (decide (j < i))) := opB0 fun _ _ _ _ _ _ _ q => gt_int q
theorem op_ge : OpR X (compareOp .GtE) (rI0 fun i j => .bl (decide (j ≤ i))) := opB0 fun _ _ _ _ _ _ _ q => ge_int q
theorem op_lt_str : OpR X (compareOp .Lt) (fun x y H Q => ∃ i j, x = .str i ∧ y = .str j ∧ Q (.bl (decide (i.cps.toList < j.cps.toList))) H) := by
  intro pins s σ H x y v u Q I rx ry h
  obtain ⟨i, j, rfl, rfl, q⟩ := h
  obtain ⟨t, rfl⟩ := rx
  obtain ⟨t', rfl⟩ := ry
  exact lt_str (fin_bl I q rfl)
/-- the one string within the other -/
theorem op_in_str : OpR X (compareOp .In) (fun x y H Q => ∃ i j, x = .str i ∧ y = .str j ∧ Q (.bl (!(Builtin.Str.occurrences j i 0 j.length 1).isEmpty)) H) := by
  intro pins s σ H x y v u Q I rx ry h
  obtain ⟨i, j, rfl, rfl, q⟩ := h
  obtain ⟨t, rfl⟩ := rx
  obtain ⟨t', rfl⟩ := ry
  exact in_str (fin_bl I q rfl)

/-- is None, is not None: the right side a value none -/
theorem op_isN : OpR X (compareOp .Is) (fun x y H Q => y = .non ∧ Q (.bl (decide (x = .non))) H) := by
  intro pins s σ H x y v u Q I rx ry h
  obtain ⟨rfl, q⟩ := h
  cases ry
  refine is_none_gen (fin_bl I q ?_)
  cases x <;> first
    | (cases rx; rfl)
    | (obtain ⟨t, rfl⟩ := rx; rfl)
theorem op_notN : OpR X (compareOp .IsNot) (fun x y H Q => y = .non ∧ Q (.bl (!decide (x = .non))) H) := by
  intro pins s σ H x y v u Q I rx ry h
  obtain ⟨rfl, q⟩ := h
  cases ry
  refine isnot_none_gen (fin_bl I q ?_)
  cases x <;> first
    | (cases rx; rfl)
    | (obtain ⟨t, rfl⟩ := rx; rfl)

theorem op_notin_str : OpR X (compareOp .NotIn) (fun x y H Q => ∃ i j, x = .str i ∧ y = .str j ∧ Q (.bl (!(!(Builtin.Str.occurrences j i 0 j.length 1).isEmpty))) H) := by
  intro pins s σ H x y v u Q I rx ry h
  obtain ⟨i, j, rfl, rfl, q⟩ := h
  obtain ⟨t, rfl⟩ := rx
  obtain ⟨t', rfl⟩ := ry
  exact notIn_str (fin_bl I q rfl)
/-- is, is not of two objects that are tracked lists or instances -/
def isObj : HO → Bool
  | .lst _ => true
  | .ins _ _ _ => true
  | _ => false
theorem obj_there {pins : List (Addr × Obj)} {s : Shared} {σ : St} {H : Hp} {a : Addr} {o : HO} (I : Inv X pins σ H s) (h : H a = some o) (p : isObj o = true) : ∃ ob, s.heap.get? a = some ob ∧ ob.cls ≠ .type "tuple" := by
  cases o with
  | lst xs =>
    obtain ⟨_, its, n, _, e⟩ : xs.length ≤ sizeLine ∧ ∃ (its : List Value) (n : Nat), Vals xs its ∧ s.heap.get? a = some { cls := .type "list", data := .seq its.toArray n } := I.hok a _ h
    exact ⟨_, e, (by show Value.type "list" ≠ .type "tuple"; decide +kernel)⟩
  | ins C dx fs =>
    have x := I.hok a _ h
    obtain ⟨_, _, _, e, _⟩ := x
    exact ⟨_, e, (by show Value.ref C ≠ .type "tuple"; exact fun z => by cases z)⟩
  | _ => exact absurd (show false = true from p) Bool.false_ne_true
theorem op_is_ref : OpR X (compareOp .Is) (fun x y H Q => ∃ a b oa ob, x = .ref a ∧ y = .ref b ∧ H a = some oa ∧ isObj oa = true ∧ H b = some ob ∧ isObj ob = true ∧ Q (.bl (decide (a = b))) H) := by
  intro pins s σ H x y v u Q I rx ry h
  obtain ⟨a, b, oa, ob, rfl, rfl, ha, pa, hb, pb, q⟩ := h
  cases rx
  cases ry
  obtain ⟨o1, e1, n1⟩ := obj_there I ha pa
  obtain ⟨o2, e2, _⟩ := obj_there I hb pb
  by_cases z : a = b
  · subst z
    exact wpAny_is_ref_self (fin_bl I q (by simp))
  · exact wpAny_is_ref_other z e1 e2 n1 (fin_bl I q (by simp [z]))
theorem op_isnot_ref : OpR X (compareOp .IsNot) (fun x y H Q => ∃ a b oa ob, x = .ref a ∧ y = .ref b ∧ H a = some oa ∧ isObj oa = true ∧ H b = some ob ∧ isObj ob = true ∧ Q (.bl (!decide (a = b))) H) := by
  intro pins s σ H x y v u Q I rx ry h
  obtain ⟨a, b, oa, ob, rfl, rfl, ha, pa, hb, pb, q⟩ := h
  cases rx
  cases ry
  obtain ⟨o1, e1, n1⟩ := obj_there I ha pa
  obtain ⟨o2, e2, _⟩ := obj_there I hb pb
  by_cases z : a = b
  · subst z
    exact wpAny_isNot_ref_self (fin_bl I q (by simp))
  · exact wpAny_isNot_ref_other z e1 e2 n1 (fin_bl I q (by simp [z]))

/-- two rules for one operation: by cases -/
theorem OpR.or {f : Value → Value → Sem Value} {r r' : R2} (h : OpR X f r) (h' : OpR X f r') : OpR X f (fun x y H Q => r x y H Q ∨ r' x y H Q) := by
  intro pins s σ H x y v u Q I rx ry q
  rcases q with q | q
  · exact h pins s σ H x y v u Q I rx ry q
  · exact h' pins s σ H x y v u Q I rx ry q

theorem nomark (b : Expr) {op : CmpOp} (h : op ≠ .In := by decide) (h2 : op ≠ .NotIn := by decide) : behindInMarks op b = false := by
  have e1 : (op == CmpOp.In) = false := by cases op <;> first | rfl | exact absurd rfl h
  have e2 : (op == CmpOp.NotIn) = false := by cases op <;> first | rfl | exact absurd rfl h2
  cases b <;> simp [behindInMarks, e1, e2]
/-- a comparison as a value; hm: nomark b, or (for in, not in) by with_unfolding_all rfl -/
theorem pe_cmpR {op : CmpOp} {r : R2} (ho : OpR X (compareOp op) r) (ha : PE X a ta) (hb : PE X b tb) (hm : behindInMarks op b = false) : PE X (.Compare a [op] [b] pos) (tOp r ta tb) := by
  intro pins s σ H Q I h
  exact wpAny_Compare1 (binT ha hb I h fun v u s2 x y H2 I2 rx ry q => ho pins s2 σ H2 x y v u Q I2 rx ry q) hm
/-- a reading of a value as a test -/
def tTest (t : TE) : TT := fun σ H Q => t σ H fun x H' => ∃ k, x = .bl k ∧ Q k H'
theorem pt_cmpR {op : CmpOp} {r : R2} (ho : OpR X (compareOp op) r) (ha : PE X a ta) (hb : PE X b tb) (hm : behindInMarks op b = false) : PT X (.Compare a [op] [b] pos) (tTest (tOp r ta tb)) := by
  intro pins s σ H Q I h
  refine wpAny_isTrue_Compare1 (thn (ha pins s σ H _ I h) fun v s1 ⟨x, H1, I1, r1, q1⟩ => thn (hb pins s1 σ H1 _ I1 q1) fun u s2 ⟨y, H2, I2, r2, q2⟩ =>
    thn (ho pins s2 σ H2 x y v u _ I2 r1 r2 q2) fun c s3 ⟨z, H3, I3, r3, k, e, q3⟩ => ?_) hm
  subst e
  cases r3
  exact wpAny_truthy_bool ⟨H3, I3, q3⟩
/-- a op1 b op2 c -/
def tChain (r r' : R2) (ta tb tc : TE) : TE := fun σ H Q => ta σ H fun x H1 => tb σ H1 fun y H2 => r x y H2 fun z H3 => ∃ k, z = .bl k ∧
  (if k = true then tc σ H3 fun w' H4 => r' y w' H4 Q else Q (.bl false) H3)
theorem pe_chain {op op' : CmpOp} {r r' : R2} (ho : OpR X (compareOp op) r) (ho' : OpR X (compareOp op') r') (ha : PE X a ta) (hb : PE X b tb) (hc : PE X c tc)
    (hm : lastMarks [op, op'] [b, c] = false := by with_unfolding_all rfl) : PE X (.Compare a [op, op'] [b, c] pos) (tChain r r' ta tb tc) := by
  intro pins s σ H Q I h
  refine Compare_chain (thn (ha pins s σ H _ I h) fun v s1 ⟨x, H1, I1, r1, q1⟩ => chain_link (thn (hb pins s1 σ H1 _ I1 q1) fun u s2 ⟨y, H2, I2, r2, q2⟩ =>
    thn (ho pins s2 σ H2 x y v u _ I2 r1 r2 q2) fun d s3 ⟨z, H3, I3, r3, k, e, q3⟩ => ?_)) hm
  subst e
  cases r3
  refine wpAny_truthy_bool ?_
  cases k with
  | false => exact ite_ff ⟨.bl false, H3, I3, rfl, q3⟩
  | true => exact ite_tt (chain_last (thn (hc pins s3 σ H3 _ I3 q3) fun w' s4 ⟨z', H4, I4, r4, q4⟩ => ho' pins s4 σ H4 y z' u w' Q I4 r2 r4 q4))
theorem pt_chain {op op' : CmpOp} {r r' : R2} (ho : OpR X (compareOp op) r) (ho' : OpR X (compareOp op') r') (ha : PE X a ta) (hb : PE X b tb) (hc : PE X c tc)
    (hm : lastMarks [op, op'] [b, c] = false := by with_unfolding_all rfl) : PT X (.Compare a [op, op'] [b, c] pos) (tTest (tChain r r' ta tb tc)) := by
  intro pins s σ H Q I h
  refine isTrue_chain (thn (ha pins s σ H _ I h) fun v s1 ⟨x, H1, I1, r1, q1⟩ => test_link (thn (hb pins s1 σ H1 _ I1 q1) fun u s2 ⟨y, H2, I2, r2, q2⟩ =>
    thn (ho pins s2 σ H2 x y v u _ I2 r1 r2 q2) fun d s3 ⟨z, H3, I3, r3, k, e, q3⟩ => ?_)) hm
  subst e
  cases r3
  refine wpAny_truthy_bool ?_
  cases k with
  | false =>
    obtain ⟨k', e', q'⟩ := q3
    cases e'
    exact ite_ff ⟨H3, I3, q'⟩
  | true =>
    refine ite_tt (test_last (thn (hc pins s3 σ H3 _ I3 q3) fun w' s4 ⟨z', H4, I4, r4, q4⟩ => thn (ho' pins s4 σ H4 y z' u w' _ I4 r2 r4 q4) fun d' s5 ⟨z2, H5, I5, r5, k2, e2, q5⟩ => ?_))
    subst e2
    cases r5
    exact wpAny_truthy_bool ⟨H5, I5, q5⟩

/-! ### truth -/
/-- a value's truth by the abstract heap -/
def TruV (K : PySem.W.Frag) (x : V) (H : Hp) (k : Bool) : Prop :=
  match x with
  | .non => k = false
  | .bl b => k = b
  | .int i => k = (i != 0)
  | .str y => y.length ≤ sizeLine ∧ k = ((y.length : Int) != 0)
  | .byt y => y.size ≤ sizeLine ∧ k = ((y.size : Int) != 0)
  | .ref p => (∃ xs, SqL K H p xs ∧ k = !xs.isEmpty) ∨ (∃ xs, SqT K H p xs ∧ k = !xs.isEmpty) ∨ ∃ kvs, H p = some (.dK kvs) ∧ k = !kvs.isEmpty
  | _ => False
theorem isEmpty_kv {κ : Type} {kvs : List (κ × V)} {vs : List (κ × Value)} (r : KV kvs vs) : (!vs.isEmpty) = !kvs.isEmpty := by
  cases r <;> rfl
theorem isEmpty_of {xs : List V} {its : List Value} (r : Vals xs its) : (!its.toArray.isEmpty) = !xs.isEmpty := by
  cases r <;> simp
theorem line63 : (sizeLine : Nat) < 2 ^ 63 := by rw [sizeLine_eq]; decide
theorem tru_ok : TruR X (fun x H Q => ∃ k, TruV X.K x H k ∧ Q k H) := by
  intro pins s σ H x v Q I rx h
  obtain ⟨k, e, q⟩ := h
  have hl := line63
  have hs : sizeLine = 16777216 := sizeLine_eq
  cases x with
  | non =>
    cases rx
    have e' : k = false := e
    subst e'
    exact truthy_none ⟨H, I, q⟩
  | bl b =>
    cases rx
    have e' : k = b := e
    subst e'
    exact wpAny_truthy_bool ⟨H, I, q⟩
  | int i =>
    obtain ⟨t, rfl⟩ := rx
    have e' : k = (i != 0) := e
    subst e'
    exact PySem.P.truthy_int ⟨H, I, q⟩
  | str y =>
    obtain ⟨t, rfl⟩ := rx
    obtain ⟨hy, e'⟩ : y.length ≤ sizeLine ∧ k = ((y.length : Int) != 0) := e
    subst e'
    exact PySem.P.truthy_str (by omega) ⟨H, I.tok _, q⟩
  | byt y =>
    obtain ⟨t, rfl⟩ := rx
    obtain ⟨hy, e'⟩ : y.size ≤ sizeLine ∧ k = ((y.size : Int) != 0) := e
    subst e'
    exact PySem.W.truthy_bytes (by omega) ⟨H, I.tok _, q⟩
  | ref p =>
    cases rx
    have e' : (∃ xs, SqL X.K H p xs ∧ k = !xs.isEmpty) ∨ (∃ xs, SqT X.K H p xs ∧ k = !xs.isEmpty) ∨ ∃ kvs, H p = some (.dK kvs) ∧ k = !kvs.isEmpty := e
    rcases e' with ⟨xs, hx, e'⟩ | ⟨xs, hx, e'⟩ | ⟨kvs, hx, e'⟩
    · subst e'
      obtain ⟨its, r, pl, hz⟩ := I.list hx
      have hlen := r.length
      exact wpAny_truthy_list pl.isList (by simp only [List.size_toArray]; omega) ⟨H, I.tok _, by rw [isEmpty_of r]; exact q⟩
    · subst e'
      obtain ⟨its, r, pl, hz⟩ := I.tuple hx
      have hlen := r.length
      exact truthy_tuple pl (by simp only [List.size_toArray]; omega) ⟨H, I.tok _, by rw [isEmpty_of r]; exact q⟩
    · subst e'
      obtain ⟨hz, hS, vs, r, m⟩ : kvs.length ≤ sizeLine ∧ (p == sysModules) = false ∧ ∃ vs, KV kvs vs ∧ s.heap.DictOf (mixKind X.prog X.w) p vs := I.hok p _ hx
      have hlen : kvs.length = vs.length := Paired.length r
      exact wpAny_truthy_dict hS m (by omega) ⟨H, I.tok _, by rw [isEmpty_kv r]; exact q⟩
  | _ => exact (show False from e).elim
/-- any expression whose test is its value's truth (a name, a call, a subscript, a field ..: he by fun _ => rfl) -/
theorem pt_truth (ha : PE X a ta) (he : ∀ whole, isTrue a X.env whole = (do let v ← whole; standAt a.pos; holding [v] (truthy v))) :
    PT X a (fun σ H Q => ta σ H fun x H' => ∃ k, TruV X.K x H' k ∧ Q k H') := by
  intro pins s σ H Q I h
  exact isTrue_plain (thn (ha pins s σ H _ I h) fun v s1 ⟨x, H1, I1, r1, q1⟩ => tru_ok pins s1 σ H1 x v Q I1 r1 q1) (he _)

/-! ### strs and bytes -/
theorem pe_byt {x : List UInt8} {k : Nat} : PE X (.Constant (.bytes x) k pos) (fun _ H Q => Q (.byt x.toArray) H) := fun _ _ _ H _ I h => PySem.W.Constant_bytes ⟨.byt x.toArray, H, I.tok _, ⟨_, rfl⟩, h⟩
theorem op_add_str : OpR X (binaryOp .Add) (fun x y H Q => ∃ i j, x = .str i ∧ y = .str j ∧ i.length + j.length ≤ sizeLine ∧ Q (.str (i ++ j)) H) := by
  intro pins s σ H x y v u Q I rx ry h
  obtain ⟨i, j, rfl, rfl, hz, q⟩ := h
  obtain ⟨t, rfl⟩ := rx
  obtain ⟨t', rfl⟩ := ry
  exact add_str (fun t' tk => ⟨.str (i ++ j), H, I.tok _, ⟨_, rfl⟩, q⟩) hz
theorem iop_add_str : OpR X (inplaceOp .Add) (fun x y H Q => ∃ i j, x = .str i ∧ y = .str j ∧ i.length + j.length ≤ sizeLine ∧ Q (.str (i ++ j)) H) := by
  intro pins s σ H x y v u Q I rx ry h
  obtain ⟨i, j, rfl, rfl, hz, q⟩ := h
  obtain ⟨t, rfl⟩ := rx
  obtain ⟨t', rfl⟩ := ry
  exact iadd_str (fun t' tk => ⟨.str (i ++ j), H, I.tok _, ⟨_, rfl⟩, q⟩) hz
theorem op_add_byt : OpR X (binaryOp .Add) (fun x y H Q => ∃ i j, x = .byt i ∧ y = .byt j ∧ i.size + j.size ≤ 16777216 ∧ Q (.byt (i ++ j)) H) := by
  intro pins s σ H x y v u Q I rx ry h
  obtain ⟨i, j, rfl, rfl, hz, q⟩ := h
  obtain ⟨t, rfl⟩ := rx
  obtain ⟨t', rfl⟩ := ry
  exact PySem.W.KBy.add_bytes hz (fun t' tk => ⟨.byt (i ++ j), H, I.tok _, ⟨_, rfl⟩, q⟩)

def PlainIxT (b : Expr) : Prop := ∀ o i, subscripted b false o i = operate [o, i] (getItem o i)
/-- s[i], 0 ≤ i < len -/
theorem pe_item_str (ha : PE X a ta) (hb : PE X b tb) (hs : PlainIxT b) :
    PE X (.Subscript a b pos) (tOp (fun x y H Q => ∃ z i c, x = .str z ∧ y = .int i ∧ 0 ≤ i ∧ i < 2 ^ 63 ∧ i < z.length ∧ z.cps[i.toNat]? = some c ∧ Q (.str ⟨#[c]⟩) H) ta tb) := by
  intro pins s σ H Q I h
  refine Subscript_ (binT ha hb I h fun v u s2 x y H2 I2 rx ry q => ?_)
  obtain ⟨z, i, c, rfl, rfl, h0, h63, h1, hc, q⟩ := q
  obtain ⟨t, rfl⟩ := rx
  obtain ⟨t', rfl⟩ := ry
  have e : seqIndex? i z.length = some i.toNat := PySem.StrLaws.seqIndex_nonneg h0 h1
  exact tail_any (typeIs_str s2 z t) slot_str_getitem.lookup (getItem_str (c := c) (by
    have e1 : decide (i < -(2 ^ 63 : Int)) = false := decide_eq_false (by omega)
    have e2 : decide (i ≥ 2 ^ 63) = false := decide_eq_false (by omega)
    rw [e1, e2] <;> rfl) (by rw [e]; exact hc) ⟨.str ⟨#[c]⟩, H2, I2.tok _, ⟨_, rfl⟩, q⟩) (hs _ _)
/-- b[i], 0 ≤ i < len -/
theorem pe_item_byt (ha : PE X a ta) (hb : PE X b tb) (hs : PlainIxT b) :
    PE X (.Subscript a b pos) (tOp (fun x y H Q => ∃ (z : List UInt8) (i : Int), x = .byt z.toArray ∧ y = .int i ∧ z.length ≤ sizeLine ∧ 0 ≤ i ∧ i < z.length ∧ Q (.int ((z.getD i.toNat 0).toNat : Nat)) H) ta tb) := by
  intro pins s σ H Q I h
  refine Subscript_ (binT ha hb I h fun v u s2 x y H2 I2 rx ry q => ?_)
  obtain ⟨z, i, rfl, rfl, hz, h0, h1, q⟩ := q
  obtain ⟨t, rfl⟩ := rx
  obtain ⟨t', rfl⟩ := ry
  have hl : sizeLine = 16777216 := sizeLine_eq
  exact tail_any (PySem.W.typeIs_bytes s2 z.toArray t) PySem.W.FB.slot_bytes_getitem.lookup (PySem.W.getItem_bytes (by omega) h0 h1 ⟨.int ((z.getD i.toNat 0).toNat : Nat), H2, I2.tok _, ⟨_, rfl⟩, q⟩) (hs _ _)

/-! ### scalar builtins, by CallR -/
theorem vals1 {x : V} {us : List Value} (r : Vals [x] us) : ∃ u, us = [u] ∧ RelV x u := by
  cases r with
  | cons r1 r2 => cases r2; exact ⟨_, rfl, r1⟩
theorem vals2 {x y : V} {us : List Value} (r : Vals [x, y] us) : ∃ u w', us = [u, w'] ∧ RelV x u ∧ RelV y w' := by
  cases r with
  | cons r1 r2 =>
    cases r2 with
    | cons r3 r4 => cases r4; exact ⟨_, _, rfl, r1, r3⟩
theorem call_abs : CallR X (.builtin "abs") (fun xs H Q => ∃ i, xs = [.int i] ∧ Q (.int (if i < 0 then -i else i)) H) := by
  intro pins s σ H xs us Q I r h
  obtain ⟨i, rfl, q⟩ := h
  obtain ⟨u, rfl, t, rfl⟩ := vals1 r
  exact call_abs_int fun u tk => ⟨.int (if i < 0 then -i else i), H, I.tok _, ⟨_, rfl⟩, q⟩
theorem call_max2 (hc : X.calm = true) : CallR X (.builtin "max") (fun xs H Q => ∃ i j, xs = [.int i, .int j] ∧ Q (.int (if j > i then j else i)) H) := by
  intro pins s σ H xs us Q I r h
  obtain ⟨i, j, rfl, q⟩ := h
  obtain ⟨u, w', rfl, ⟨t, rfl⟩, ⟨t', rfl⟩⟩ := vals2 r
  refine max_two_ints (I.ok.hd hc) fun h' tk k => ⟨_, H, I.kept k, ?_, q⟩
  by_cases hj : j > i
  · rw [if_pos hj, if_pos hj]; exact ⟨_, rfl⟩
  · rw [if_neg hj, if_neg hj]; exact ⟨_, rfl⟩
theorem call_min2 (hc : X.calm = true) : CallR X (.builtin "min") (fun xs H Q => ∃ i j, xs = [.int i, .int j] ∧ Q (.int (if j < i then j else i)) H) := by
  intro pins s σ H xs us Q I r h
  obtain ⟨i, j, rfl, q⟩ := h
  obtain ⟨u, w', rfl, ⟨t, rfl⟩, ⟨t', rfl⟩⟩ := vals2 r
  refine min_two_ints (I.ok.hd hc) fun h' tk k => ⟨_, H, I.kept k, ?_, q⟩
  by_cases hj : j < i
  · rw [if_pos hj, if_pos hj]; exact ⟨_, rfl⟩
  · rw [if_neg hj, if_neg hj]; exact ⟨_, rfl⟩
theorem call_int1 : CallR X (.type "int") (fun xs H Q => (∃ i, xs = [.int i] ∧ Q (.int i) H) ∨ ∃ k, xs = [.bl k] ∧ Q (.int (if k then 1 else 0)) H) := by
  intro pins s σ H xs us Q I r h
  rcases h with ⟨i, rfl, q⟩ | ⟨k, rfl, q⟩
  · obtain ⟨u, rfl, t, rfl⟩ := vals1 r
    exact call_int_int ⟨.int i, H, I, ⟨_, rfl⟩, q⟩
  · obtain ⟨u, rfl, r1⟩ := vals1 r
    cases r1
    exact call_int_bool ⟨.int (if k then 1 else 0), H, I.tok _, ⟨_, rfl⟩, q⟩
theorem call_bool1 : CallR X (.type "bool") (fun xs H Q => (∃ i, xs = [.int i] ∧ Q (.bl (i != 0)) H) ∨ ∃ k, xs = [.bl k] ∧ Q (.bl k) H) := by
  intro pins s σ H xs us Q I r h
  rcases h with ⟨i, rfl, q⟩ | ⟨k, rfl, q⟩
  · obtain ⟨u, rfl, t, rfl⟩ := vals1 r
    exact call_bool_int ⟨.bl (i != 0), H, I, rfl, q⟩
  · obtain ⟨u, rfl, r1⟩ := vals1 r
    cases r1
    exact call_bool_bool ⟨.bl k, H, I, rfl, q⟩
theorem call_str_int : CallR X (.type "str") (fun xs H Q => ∃ i, xs = [.int i] ∧ i.natAbs.log2 < 1920 ∧ Q (.str (toString i)) H) := by
  intro pins s σ H xs us Q I r h
  obtain ⟨i, rfl, hz, q⟩ := h
  obtain ⟨u, rfl, t, rfl⟩ := vals1 r
  exact PySem.P.str_of_int hz ⟨.str _, H, I.tok _, ⟨_, rfl⟩, q⟩
theorem call_ord : CallR X (.builtin "ord") (fun xs H Q => ∃ x, xs = [.str x] ∧ x.length = 1 ∧ Q (.int (x.cps.getD 0 0 : Nat)) H) := by
  intro pins s σ H xs us Q I r h
  obtain ⟨x, rfl, hz, q⟩ := h
  obtain ⟨u, rfl, t, rfl⟩ := vals1 r
  exact ord_of_one hz ⟨.int _, H, I.tok _, ⟨_, rfl⟩, q⟩
theorem call_chr : CallR X (.builtin "chr") (fun xs H Q => ∃ i, xs = [.int i] ∧ 0 ≤ i ∧ i ≤ 1114111 ∧ Q (.str ⟨#[i.toNat]⟩) H) := by
  intro pins s σ H xs us Q I r h
  obtain ⟨i, rfl, h0, h1, q⟩ := h
  obtain ⟨u, rfl, t, rfl⟩ := vals1 r
  exact chr_of_range h0 h1 ⟨.str _, H, I.tok _, ⟨_, rfl⟩, q⟩
/-- len of a str, a bytes, a list, a tuple -/
def LenV (K : PySem.W.Frag) (x : V) (H : Hp) (n : Nat) : Prop :=
  match x with
  | .str y => y.length ≤ sizeLine ∧ n = y.length
  | .byt y => y.size ≤ sizeLine ∧ n = y.size
  | .ref p => (∃ xs, SqL K H p xs ∧ n = xs.length) ∨ ∃ xs, SqT K H p xs ∧ n = xs.length
  | _ => False
theorem call_len : CallR X (.builtin "len") (fun xs H Q => ∃ x n, xs = [x] ∧ LenV X.K x H n ∧ Q (.int n) H) := by
  intro pins s σ H xs us Q I r h
  obtain ⟨x, n, rfl, e, q⟩ := h
  obtain ⟨u, rfl, rx⟩ := vals1 r
  have hl := line63
  have hs : sizeLine = 16777216 := sizeLine_eq
  cases x with
  | str y =>
    obtain ⟨t, rfl⟩ := rx
    obtain ⟨hy, e'⟩ : y.length ≤ sizeLine ∧ n = y.length := e
    subst e'
    exact len_str (by omega) ⟨.int _, H, I.tok _, ⟨_, rfl⟩, q⟩
  | byt y =>
    obtain ⟨t, rfl⟩ := rx
    obtain ⟨hy, e'⟩ : y.size ≤ sizeLine ∧ n = y.size := e
    subst e'
    exact PySem.W.len_bytes (by omega) ⟨.int _, H, I.tok _, ⟨_, rfl⟩, q⟩
  | ref p =>
    cases rx
    have e' : (∃ xs, SqL X.K H p xs ∧ n = xs.length) ∨ ∃ xs, SqT X.K H p xs ∧ n = xs.length := e
    rcases e' with ⟨xs, hx, e'⟩ | ⟨xs, hx, e'⟩
    · subst e'
      obtain ⟨its, r', pl, hz⟩ := I.list hx
      have hlen := r'.length
      exact Calls.call_len_list pl.isList (by simp only [List.size_toArray]; omega) ⟨.int xs.length, H, I.tok _, ⟨_, by simp only [List.size_toArray]; rw [hlen]⟩, q⟩
    · subst e'
      obtain ⟨its, r', pl, hz⟩ := I.tuple hx
      have hlen := r'.length
      exact len_tuple pl (by simp only [List.size_toArray]; omega) ⟨.int xs.length, H, I.tok _, ⟨_, by simp only [List.size_toArray]; rw [hlen]⟩, q⟩
  | _ => exact (show False from e).elim
/-- divmod: a new tuple -/
theorem call_divmod : CallR X (.builtin "divmod") (fun xs H Q => ∃ i j, xs = [.int i, .int j] ∧ CDiv i j ∧ ∀ p, H p = none → Q (.ref p) (upd H p (.tup [.int (i / j), .int (i % j)]))) := by
  intro pins s σ H xs us Q I r h
  obtain ⟨i, j, rfl, ⟨h1, h2⟩, q⟩ := h
  obtain ⟨u, w', rfl, ⟨t, rfl⟩, ⟨t', rfl⟩⟩ := vals2 r
  refine divmod_int (by omega) ?_ (.inl (PyProof.noPylong_small (by omega)))
  rw [Int.fdiv_eq_ediv_of_nonneg i (by omega), Int.fmod_eq_emod_of_nonneg i (by omega)]
  have hn : H s.heap.objs.size = none := I.hok.fresh (Nat.le_refl _)
  refine ⟨.ref s.heap.objs.size, _, ?_, rfl, q _ hn⟩
  refine I.laid (fun b o e => Heap.get?_push_of_some _ e) (Nat.le_refl _) ⟨by simp only [List.length_cons, List.length_nil]; rw [sizeLine_eq]; decide, [.int (i / j) s.toks, .int (i % j) (s.toks + 1)], .cons ⟨_, rfl⟩ (.cons ⟨_, rfl⟩ .nil), ?_⟩
  exact ⟨_, Heap.get?_push_size s.heap rfl, rfl, 0, rfl⟩
end
end L2

namespace L2
open PySem PySem.Spec PyProof.Rows

/-! ### an instance, its attributes a map -/
structure ObjM (h : Heap) (x dx C : Addr) (mA : Str → Option Value) : Prop where
  obj : h.get? x = some (PySem.W.instObj C dx)
  ns : h.Ns1 dx mA
  ne : dx ≠ x

theorem lookIn_ns {h : Heap} {dx : Addr} {mA : Str → Option Value} (n : h.Ns1 dx mA) : ∃ od, h.get? dx = some od ∧ ∀ name, PySem.W.lookIn name od = some (mA name) := by
  obtain ⟨o, es, ep, ho, hd, hk, _, hm⟩ := n
  refine ⟨o, ho, fun name => ?_⟩
  have e := hm name
  unfold nsFind findBy at e
  rw [← Array.find?_toList] at e
  unfold PySem.W.lookIn
  rw [hd]
  dsimp only
  split
  · rename_i y q
    rw [q] at e
    exact congrArg some e
  · rename_i q
    rw [q] at e
    have a : es.toList.any (·.refKey) = false := by
      rw [List.any_eq_false]
      intro y hy
      obtain ⟨z, t, hkey⟩ := hk y (Array.mem_toList_iff.mp hy)
      simp [DictEntry.refKey, hkey]
    have a' : ¬ es.toList.any (·.refKey) = true := by rw [a]; exact Bool.false_ne_true
    rw [if_neg a']
    exact congrArg some e

theorem ObjM.look {h : Heap} {x dx C : Addr} {mA : Str → Option Value} (I : ObjM h x dx C mA) : ∃ od, PySem.W.InstAt h x (PySem.W.instObj C dx) C (some od) ∧ ∀ name, PySem.W.lookIn name od = some (mA name) :=
  let ⟨od, ho, hl⟩ := lookIn_ns I.ns
  ⟨od, ⟨I.obj, rfl, rfl, ho⟩, hl⟩

section
variable {prog : Program} {w : World} {A : Around} {E : Value → Shared → Prop} {s : Shared} {K : PySem.W.Frag} {x dx C f : Addr} {mA : Str → Option Value} {name : Str} {v : Value}

theorem get_map {expr : Bool} {Q : Value → Shared → Prop} (X : K.In s.heap) (I : ObjM s.heap x dx C mA) (hg : PySem.W.plainGet K C name = true) (hh : PySem.W.hasDictIn K C = true)
    (ha : PySem.W.findIn K (.ref C) name = some none) (hv : mA name = some v) (hv' : PySem.W.handedIn v = true) (h : Q v { s with toks := s.toks + 1 }) :
    wpAny (model prog w) A (getAttr (.ref x) name expr) Q E s := by
  obtain ⟨od, J, hl⟩ := I.look
  exact PySem.W.get_value X J (PySem.W.plainGet_of hg).1 (PySem.W.findObj_own hh ha rfl (by rw [hl, hv])) hv' h

theorem get_const {expr : Bool} {a : Value} {Q : Value → Shared → Prop} (X : K.In s.heap) (I : ObjM s.heap x dx C mA) (hg : PySem.W.plainGet K C name = true) (hh : PySem.W.hasDictIn K C = true)
    (ha : PySem.W.findIn K (.ref C) name = some (some a)) (hn : PySem.W.specialIn K a "__get__" = some none) (hc : PySem.W.copiedNames.contains name = false) (hv : mA name = none) (hv' : PySem.W.handedIn a = true)
    (h : Q a { s with toks := s.toks + 1 }) : wpAny (model prog w) A (getAttr (.ref x) name expr) Q E s := by
  obtain ⟨od, J, hl⟩ := I.look
  exact PySem.W.get_value X J (PySem.W.plainGet_of hg).1 (PySem.W.findObj_cls hh ha hn hv' hc (by rw [hl, hv])) hv' h

theorem get_meth {pl : Sem Bool} {Q : Value × List Value → Shared → Prop} (X : K.In s.heap) (I : ObjM s.heap x dx C mA) (hg : PySem.W.plainGet K C name = true)
    (hf : PySem.W.findIn K (.ref C) name = some (some (.ref f))) (ht : PySem.W.isFn K (.ref f) = true) (hv : mA name = none) (h : Q (.ref f, [.ref x]) s) :
    wpAny (model prog w) A (getMethod (.ref x) name pl) Q E s := by
  obtain ⟨od, J, hl⟩ := I.look
  exact PySem.W.method_fn X J (PySem.W.plainGet_of hg).1 (PySem.W.plainGet_of hg).2 hf (beq_iff_eq.mp ht) (by show (PySem.W.lookIn name od).map (·.isSome) = some false; rw [hl, hv]; rfl) h

theorem set_map {ns : List Str} {Q : Unit → Shared → Prop} (X : K.In s.heap) (I : ObjM s.heap x dx C mA)
    (hs : PySem.W.findIn K (.ref C) "__setattr__" = some (some (.builtin "object.__setattr__"))) (hp : PySem.W.plainOver K C = true) (ht : PySem.W.takerIn K C name = some none) (hh : PySem.W.hasDictIn K C = true)
    (hw : PySem.Within mA ns) (hsz : ns.length ≤ sizeLine)
    (h : ∀ h', ObjM h' x dx C (fun y => if y = name then some v else mA y) → Heap.SameBut dx s.heap h' → Q () { s with heap := h', toks := s.toks + 2 }) :
    wpAny (model prog w) A (setAttr (.ref x) name v) Q E s := by
  obtain ⟨od, J, hl⟩ := I.look
  refine PySem.W.set_plain X J hs (PySem.W.osa_open (s := { s with toks := s.toks + 1 }) (r := none) X J hp ht fun b => ?_)
  obtain ⟨cd, hc, hd'⟩ := PySem.W.any_some hh
  have hx : s.heap.get? x = some ⟨.ref C, some dx, .plain, #[]⟩ := I.obj
  refine wpAny_bind (wpAny_pure (wpAny_bind (wpAny_bind (wpAny_loadPart hx (wpAny_bind (PySem.W.Looks.here (s := { s with toks := s.toks + 1 }) (PySem.W.looks_clsIn X hc) ?_))))))
  rw [hd']
  refine wpAny_pure (a := some dx) (wpAny_bind (wpAny_pure (wpAny_bind ?_)))
  refine wpAny_nsSet1 (s := { s with toks := s.toks + 1 }) I.ns fun h' hn2 hs2 => ?_
  obtain ⟨oD, esD, epD, hoD, hdD, hcD⟩ := hn2.count (PySem.Within.cons name v hw)
  refine wpAny_bind (wpAny_lookBehind hoD (by rw [hdD]; exact pastItsLine_dict (Nat.le_trans hcD (by rw [List.length_cons]; omega))) ?_)
  exact wpAny_pure (h _ ⟨(hs2.2 _ (Ne.symm I.ne)).trans I.obj, hn2, I.ne⟩ hs2)

/-- C(..): the dict at the heap's end, the instance behind it; then its __init__ -/
theorem make_map {R : Result → Shared → Prop} {vs : List Value} {kw : List (Str × Value)} (X : K.In s.heap) (hm : PySem.W.makesIn K C = true)
    (hi : PySem.W.findIn K (.ref C) "__init__" = some (some (.ref f))) (hf : PySem.W.typeIn K (.ref f) = some (.type "function"))
    (h : codeAny (model prog w) (A.under (.builtin "type.__call__" ⟨.ref C :: vs, kw⟩)) (.call (.ref f) ⟨.ref (s.heap.objs.size + 1) :: vs, kw⟩) (PySem.W.InitBack (s.heap.objs.size + 1) R)
      { s with heap := (s.heap.push PySem.W.emptyDict).push (PySem.W.instObj C s.heap.objs.size) }) :
    codeAny (model prog w) A (.call (.ref C) ⟨vs, kw⟩) R s := by
  obtain ⟨hh, g, d, t, os⟩ := s
  exact PySem.W.make_core (PySem.W.makes_of X hm) (PySem.W.looks_findIn X hi) (fun self => PySem.W.bind_fn X self hf) (.inl rfl) h
/-- C() where there is no __init__ but object's -/
theorem make_map0 {R : Result → Shared → Prop} (X : K.In s.heap) (hm : PySem.W.makesIn K C = true)
    (hi : PySem.W.findIn K (.ref C) "__init__" = some (some (.builtin "object.__init__")))
    (hb : ∀ self, PySem.W.Looks (model prog w) s.heap (bindSpecial (.builtin "object.__init__") self) (.builtin "object.__init__", [self]))
    (h : codeAny (model prog w) (A.under (.builtin "type.__call__" ⟨[.ref C], []⟩)) (.call (.builtin "object.__init__") ⟨[.ref (s.heap.objs.size + 1)], []⟩) (PySem.W.InitBack (s.heap.objs.size + 1) R)
      { s with heap := (s.heap.push PySem.W.emptyDict).push (PySem.W.instObj C s.heap.objs.size) }) :
    codeAny (model prog w) A (.call (.ref C) ⟨[], []⟩) R s := by
  obtain ⟨hh, g, d, t, os⟩ := s
  exact PySem.W.make_core (PySem.W.makes_of X hm) (PySem.W.looks_findIn X hi) hb (.inr ⟨rfl, rfl⟩) h
end

/-! ### the attributes as a list of pairs -/
def putF (f : Str) (v : V) : List (Str × V) → List (Str × V)
  | [] => [(f, v)]
  | (g, x) :: r => if g = f then (g, v) :: r else (g, x) :: putF f v r
theorem lookup_putF (f g : Str) (v : V) : ∀ fs : List (Str × V), (putF f v fs).lookup g = if g = f then some v else fs.lookup g
  | [] => by
    show List.lookup g [(f, v)] = _
    by_cases h : g = f
    · have hb : (g == f) = true := beq_iff_eq.mpr h
      simp only [List.lookup, hb, if_pos h]
    · have hb : (g == f) = false := beq_eq_false_iff_ne.mpr h
      simp only [List.lookup, hb, if_neg h]
  | (k, x) :: r => by
    have ih := lookup_putF f g v r
    rw [show putF f v ((k, x) :: r) = (if k = f then (k, v) :: r else (k, x) :: putF f v r) from rfl]
    by_cases hk : k = f
    · rw [if_pos hk]
      by_cases h : g = k
      · have hb : (g == k) = true := beq_iff_eq.mpr h
        simp only [List.lookup, hb, if_pos (h.trans hk)]
      · have hb : (g == k) = false := beq_eq_false_iff_ne.mpr h
        simp only [List.lookup, hb, if_neg (fun e : g = f => h (e.trans hk.symm))]
    · rw [if_neg hk]
      by_cases h : g = k
      · have hb : (g == k) = true := beq_iff_eq.mpr h
        simp only [List.lookup, hb, if_neg (fun e : g = f => hk (h.symm.trans e))]
      · have hb : (g == k) = false := beq_eq_false_iff_ne.mpr h
        simp only [List.lookup, hb]
        exact ih
theorem keys_putF (f : Str) (v : V) : ∀ fs : List (Str × V), f ∈ (putF f v fs).map (·.1) ∧ ∀ g, g ∈ fs.map (·.1) → g ∈ (putF f v fs).map (·.1)
  | [] => ⟨by simp [putF], fun g h => by simp at h⟩
  | (k, x) :: r => by
    obtain ⟨i1, i2⟩ := keys_putF f v r
    rw [show putF f v ((k, x) :: r) = (if k = f then (k, v) :: r else (k, x) :: putF f v r) from rfl]
    by_cases hk : k = f
    · rw [if_pos hk]
      subst hk
      exact ⟨by simp, fun g h => by simpa using h⟩
    · rw [if_neg hk]
      refine ⟨?_, fun g h => ?_⟩
      · rw [List.map_cons]
        exact List.mem_cons_of_mem _ i1
      · rw [List.map_cons] at h ⊢
        rcases List.mem_cons.mp h with e | e
        · exact List.mem_cons.mpr (.inl e)
        · exact List.mem_cons_of_mem _ (i2 g e)
theorem length_putF (f : Str) (v : V) : ∀ fs : List (Str × V), (putF f v fs).length ≤ fs.length + 1
  | [] => by simp [putF]
  | (k, x) :: r => by
    have ih := length_putF f v r
    rw [show putF f v ((k, x) :: r) = (if k = f then (k, v) :: r else (k, x) :: putF f v r) from rfl]
    by_cases hk : k = f
    · rw [if_pos hk, List.length_cons, List.length_cons]; omega
    · rw [if_neg hk, List.length_cons, List.length_cons]; omega

theorem RelO.some_of {v : V} {o : Option Value} (r : RelO (some v) o) : ∃ u, o = some u ∧ RelV v u := by
  cases o with
  | none => exact (show False from r).elim
  | some u => exact ⟨u, rfl, r⟩
theorem RelO.none_of {o : Option Value} (r : RelO none o) : o = none := by
  cases o with
  | none => rfl
  | some u => exact (show False from r).elim
theorem handed_of {v : V} {u : Value} (r : RelV v u) : PySem.W.handedIn u = true := by
  cases v with
  | non => cases (show u = Value.none from r); rfl
  | bl b => cases (show u = Value.bool b from r); rfl
  | int i => obtain ⟨t, e⟩ := (show ∃ t, u = Value.int i t from r); cases e; rfl
  | str x => obtain ⟨t, e⟩ := (show ∃ t, u = Value.str x t from r); cases e; rfl
  | byt b => obtain ⟨t, e⟩ := (show ∃ t, u = Value.bytes b t from r); cases e; rfl
  | flt b => obtain ⟨t, e⟩ := (show ∃ t, u = Value.float b t from r); cases e; rfl
  | ref a => cases (show u = Value.ref a from r); rfl
  | ty n => cases (show u = Value.type n from r); rfl

section
variable {P : Program} {w : World} {H H' : Hp} {h h' : Heap} {a C dx : Addr} {fs fs' : List (Str × V)}
theorem ins_get (hok : HOk P w H h) (e : H a = some (.ins C dx fs)) : ∃ mA, ObjM h a dx C mA ∧ (∀ f, RelO (fs.lookup f) (mA f)) ∧ PySem.Within mA (fs.map (·.1)) ∧ fs.length ≤ 1000 ∧ H dx = some (.own a) := by
  obtain ⟨d, z, ne, ob, mA, n, r, q⟩ := (show ObjOk P w H h a (.ins C dx fs) from hok a _ e)
  exact ⟨mA, ⟨ob, n, ne⟩, r, q, z, d⟩
end

/-! ### what of the text a class must have -/
structure Cls (K : PySem.W.Frag) (C : Addr) : Prop where
  pg : PySem.W.plainGet K C Str.empty = true
  hd : PySem.W.hasDictIn K C = true
  po : PySem.W.plainOver K C = true
  sa : PySem.W.findIn K (.ref C) "__setattr__" = some (some (.builtin "object.__setattr__"))
theorem Cls.get {K : PySem.W.Frag} {C : Addr} (c : Cls K C) (f : Str) : PySem.W.plainGet K C f = true := c.pg
/-- no class of it has the name -/
def NoAttr (K : PySem.W.Frag) (C : Addr) (f : Str) : Prop := PySem.W.findIn K (.ref C) f = some none
theorem NoAttr.taker {K : PySem.W.Frag} {C : Addr} {f : Str} (n : NoAttr K C f) : PySem.W.takerIn K C f = some none := by
  unfold PySem.W.takerIn
  rw [show PySem.W.findIn K (.ref C) f = some none from n]
  rfl
/-- a constant of the class -/
structure Con (K : PySem.W.Frag) (C : Addr) (f : Str) (v : V) (u : Value) : Prop where
  at_ : PySem.W.findIn K (.ref C) f = some (some u)
  rel : RelV v u
  get : PySem.W.specialIn K u "__get__" = some none
  cp : PySem.W.copiedNames.contains f = false
/-- a method: a plain def of the class or of one above it -/
structure Meth (K : PySem.W.Frag) (C : Addr) (m : Str) (f : Addr) : Prop where
  at_ : PySem.W.findIn K (.ref C) m = some (some (.ref f))
  fn : PySem.W.isFn K (.ref f) = true
  kp : PySem.W.keepIn K (.ref f) = true

section
variable {X : Cx} {pins : List (Addr × Obj)} {σ : St} {H : Hp} {s : Shared} {a C dx : Addr} {fs : List (Str × V)} {f : Str} {v : V} {A : Around} {E : Value → Shared → Prop}

theorem getattr_ok {b : Bool} {Q : Value → Shared → Prop} (I : Inv X pins σ H s) (e : H a = some (.ins C dx fs)) (c : Cls X.K C) (n : NoAttr X.K C f) (l : fs.lookup f = some v)
    (h : ∀ u s', Inv X pins σ H s' → RelV v u → Q u s') : wpAny (model X.prog X.w) A (getAttr (.ref a) f b) Q E s := by
  obtain ⟨mA, O, r, _, _, _⟩ := ins_get I.hok e
  obtain ⟨u, hu, ru⟩ := RelO.some_of (v := v) (o := mA f) (by rw [← l]; exact r f)
  exact get_map I.kIn O (c.get f) c.hd n hu (handed_of ru) (h u _ (I.tok _) ru)

theorem getcon_ok {b : Bool} {u : Value} {Q : Value → Shared → Prop} (I : Inv X pins σ H s) (e : H a = some (.ins C dx fs)) (c : Cls X.K C) (k : Con X.K C f v u) (l : fs.lookup f = none)
    (h : ∀ s', Inv X pins σ H s' → Q u s') : wpAny (model X.prog X.w) A (getAttr (.ref a) f b) Q E s := by
  obtain ⟨mA, O, r, _, _, _⟩ := ins_get I.hok e
  have hn : mA f = none := RelO.none_of (by rw [← l]; exact r f)
  exact get_const I.kIn O (c.get f) c.hd k.at_ k.get k.cp hn (handed_of k.rel) (h _ (I.tok _))

theorem getmeth_ok {m : Str} {g : Addr} {pl : Sem Bool} {Q : Value × List Value → Shared → Prop} (I : Inv X pins σ H s) (e : H a = some (.ins C dx fs)) (c : Cls X.K C) (k : Meth X.K C m g) (l : fs.lookup m = none)
    (h : Q (.ref g, [.ref a]) s) : wpAny (model X.prog X.w) A (getMethod (.ref a) m pl) Q E s := by
  obtain ⟨mA, O, r, _, _, _⟩ := ins_get I.hok e
  have hn : mA m = none := RelO.none_of (by rw [← l]; exact r m)
  exact get_meth I.kIn O (c.get m) k.at_ k.fn hn h

theorem setattr_ok {y : V} {u : Value} {Q : Unit → Shared → Prop} (I : Inv X pins σ H s) (e : H a = some (.ins C dx fs)) (c : Cls X.K C) (n : NoAttr X.K C f) (hl : fs.length < 1000) (ry : RelV y u)
    (h : ∀ s', Inv X pins σ (upd H a (.ins C dx (putF f y fs))) s' → Q () s') : wpAny (model X.prog X.w) A (setAttr (.ref a) f u) Q E s := by
  obtain ⟨mA, O, r, wi, _, ho⟩ := ins_get I.hok e
  have hz : (fs.map (·.1)).length ≤ sizeLine := by rw [List.length_map, sizeLine_eq]; omega
  refine set_map I.kIn O c.sa c.po n.taker c.hd wi hz fun h' O' sb => h _ ?_
  have hd : ∃ o, h'.get? dx = some o := let ⟨o, _, _, e', _⟩ := O'.ns; ⟨o, e'⟩
  refine I.write (x := a) (e := dx) (by rw [e]; exact True.intro) (.inr ho) (fun b q hb z => (sb.2 b hb).trans z) hd ?_
  refine ⟨by rw [upd_ne O.ne]; exact ho, ?_, O.ne, O'.obj, _, O'.ns, fun g => ?_, fun g hg => ?_⟩
  · have := length_putF f y fs; omega
  · show RelO ((putF f y fs).lookup g) (if g = f then some u else mA g)
    rw [lookup_putF]
    by_cases q : g = f
    · rw [if_pos q, if_pos q]; exact ry
    · rw [if_neg q, if_neg q]; exact r g
  · by_cases q : g = f
    · rw [q]; exact (keys_putF f y fs).1
    · refine (keys_putF f y fs).2 g (wi g fun z => hg ?_)
      show (if g = f then some u else mA g) = none
      rw [if_neg q]; exact z

/-- a new instance, tracked, without attributes -/
theorem Inv.made (I : Inv X pins σ H s) : Inv X pins σ (upd (upd H s.heap.objs.size (.own (s.heap.objs.size + 1))) (s.heap.objs.size + 1) (.ins C s.heap.objs.size []))
    { s with heap := (s.heap.push PySem.W.emptyDict).push (PySem.W.instObj C s.heap.objs.size) } := by
  have e1 : (s.heap.push PySem.W.emptyDict).get? s.heap.objs.size = some PySem.W.emptyDict := Heap.get?_push_size s.heap rfl
  have e2 : ((s.heap.push PySem.W.emptyDict).push (PySem.W.instObj C s.heap.objs.size)).get? (s.heap.objs.size + 1) = some (PySem.W.instObj C s.heap.objs.size) := by
    have := Heap.get?_push_size (s.heap.push PySem.W.emptyDict) (o := PySem.W.instObj C s.heap.objs.size) rfl
    rwa [Heap.size_push] at this
  have e3 : (s.heap.push PySem.W.emptyDict).Ns s.heap.objs.size (fun _ => none) := ⟨PySem.W.emptyDict, #[], _, e1, rfl, (fun e he => absurd he (by simp)), fun _ => rfl⟩
  have I1 := I.laid (a := s.heap.objs.size) (o := .own (s.heap.objs.size + 1)) (h' := s.heap.push PySem.W.emptyDict) (t' := s.toks) (fun b u q => Heap.get?_push_of_some _ q) (Nat.le_refl _) ⟨_, e1⟩
  refine I1.laid (a := s.heap.objs.size + 1) (o := .ins C s.heap.objs.size []) (t' := s.toks) (fun b u q => Heap.get?_push_of_some _ q) (Nat.le_of_eq (Heap.size_push _ _)) ?_
  have ne : s.heap.objs.size ≠ s.heap.objs.size + 1 := Nat.ne_of_lt (Nat.lt_succ_self _)
  refine ⟨by rw [upd_ne ne, upd_same], Nat.zero_le _, ne, e2, fun _ => none, (Heap.Ns1.of_empty e3).at fun o q => Heap.get?_push_of_some _ q, fun _ => True.intro, fun y hy => absurd rfl hy⟩

/-- e.f where nothing but the object is asked: through attributeBase (super) and the last hold -/
theorem attr_of {prog : Program} {w : World} {env : Env} {e : Expr} {f : Str} {pos : Pos} {s : Shared} {Q : Value → Shared → Prop} (hb : attributeBase e f env (eval e env) = eval e env)
    (h : wpAny (model prog w) A (eval e env) (fun o s₁ => wpAny (model prog w) A (getAttr o f true) Q E s₁) E s) : wpAny (model prog w) A (eval (.Attribute e f pos) env) Q E s :=
  Attribute_any_ h (by rw [arm_eval_Attribute, hb])
end

/-! ### readings and rules -/
/-- e.f, an attribute of the instance -/
def tFld (K : PySem.W.Frag) (ta : TE) (f : Str) : TE := fun σ H Q => ta σ H fun x H1 => ∃ a C dx fs v, x = .ref a ∧ H1 a = some (.ins C dx fs) ∧ Cls K C ∧ NoAttr K C f ∧ fs.lookup f = some v ∧ Q v H1
/-- e.f, a constant of the class -/
def tCon (K : PySem.W.Frag) (ta : TE) (f : Str) : TE := fun σ H Q => ta σ H fun x H1 => ∃ a C dx fs v u, x = .ref a ∧ H1 a = some (.ins C dx fs) ∧ Cls K C ∧ Con K C f v u ∧ fs.lookup f = none ∧ Q v H1
/-- e.f = value -/
def sFld (K : PySem.W.Frag) (ta tv : TE) (f : Str) : TS := fun D σ H => tv σ H fun y H1 => ta σ H1 fun x H2 => ∃ a C dx fs, x = .ref a ∧ H2 a = some (.ins C dx fs) ∧ Cls K C ∧ NoAttr K C f ∧ fs.length < 1000 ∧
  D.nx σ (upd H2 a (.ins C dx (putF f y fs)))
/-- an augmented operator on two values -/
def InOp (X : Cx) (op : Operator) (rd : V → V → Hp → VK → Prop) : Prop :=
  ∀ (pins : List (Addr × Obj)) (s : Shared) (σ : St) (H : Hp) (x y : V) (u v : Value) (Q : VK), Inv X pins σ H s → RelV x u → RelV y v → rd x y H Q → wpAny (model X.prog X.w) X.A (inplaceOp op u v) (EP X pins σ Q) X.xe s
/-- e.f op= value -/
def sFldAug (K : PySem.W.Frag) (ta tv : TE) (rd : V → V → Hp → VK → Prop) (f : Str) : TS := fun D σ H => ta σ H fun x H1 => ∃ a C dx fs v, x = .ref a ∧ H1 a = some (.ins C dx fs) ∧ Cls K C ∧ NoAttr K C f ∧ fs.lookup f = some v ∧
  tv σ H1 fun y H2 => rd v y H2 fun z H3 => ∃ dx' fs', H3 a = some (.ins C dx' fs') ∧ fs'.length < 1000 ∧ D.nx σ (upd H3 a (.ins C dx' (putF f z fs')))

section
variable {X : Cx} {o e value : Expr} {f : Str} {pos pos' tpos : Pos} {ta tv : TE}
theorem pe_fld (he : PE X e ta) (hb : attributeBase e f X.env (eval e X.env) = eval e X.env) : PE X (.Attribute e f pos) (tFld X.K ta f) := by
  intro pins s σ H Q I h
  refine attr_of hb (thn (he pins s σ H _ I h) fun u s1 ⟨x, H1, I1, rx, a, C, dx, fs, v, ex, ea, c, n, l, q⟩ => ?_)
  subst ex
  obtain rfl : u = Value.ref a := rx
  exact getattr_ok I1 ea c n l fun u' s2 I2 ru => ⟨v, H1, I2, ru, q⟩
theorem pe_con (he : PE X e ta) (hb : attributeBase e f X.env (eval e X.env) = eval e X.env) : PE X (.Attribute e f pos) (tCon X.K ta f) := by
  intro pins s σ H Q I h
  refine attr_of hb (thn (he pins s σ H _ I h) fun u s1 ⟨x, H1, I1, rx, a, C, dx, fs, v, u0, ex, ea, c, k, l, q⟩ => ?_)
  subst ex
  obtain rfl : u = Value.ref a := rx
  exact getcon_ok I1 ea c k l fun s2 I2 => ⟨v, H1, I2, k.rel, q⟩
theorem ps_fld (ha : PE X o ta) (hv : PE X value tv) (hs : swapsWith value (some (.Attribute o f pos')) pos.line X.env = pure false) : PS X (.Assign [.Attribute o f pos'] value pos) (sFld X.K ta tv f) := by
  intro pins s σ H D I h
  refine plainObj_wpAny_Assign_Attribute (thn (hv pins s σ H _ I h) fun u s1 ⟨y, H1, I1, ry, q⟩ => thn (ha pins s1 σ H1 _ I1 q) fun ov s2 ⟨x, H2, I2, rx, a, C, dx, fs, ex, ea, c, n, l, q2⟩ => ?_) hs
  subst ex
  obtain rfl : ov = Value.ref a := rx
  exact setattr_ok I2 ea c n l ry fun s3 I3 => ⟨σ, _, I3, q2⟩
theorem ps_fldaug {op : Operator} {rd : V → V → Hp → VK → Prop} (ha : PE X o ta) (hv : PE X value tv) (hop : InOp X op rd) : PS X (.AugAssign (.Attribute o f tpos) op value pos) (sFldAug X.K ta tv rd f) := by
  intro pins s σ H D I h
  refine wpAny_AugAssign_AttributeAny (thn (ha pins s σ H _ I h) fun ov s1 ⟨x, H1, I1, rx, a, C, dx, fs, v, ex, ea, c, n, l, q⟩ => ?_)
  subst ex
  obtain rfl : ov = Value.ref a := rx
  refine getattr_ok I1 ea c n l fun u s2 I2 ru => thn (hv pins s2 σ H1 _ I2 q) fun w3 s3 ⟨y, H2, I3, ry, q3⟩ => thn (hop pins s3 σ H2 v y u w3 _ I3 ru ry q3) fun w4 s4 ⟨z, H3, I4, rz, dx', fs', ea', l', q4⟩ => ?_
  exact setattr_ok I4 ea' c n l' rz fun s5 I5 => ⟨σ, _, I5, q4⟩
def rAdd : V → V → Hp → VK → Prop := fun x y H Q => ∃ i j, x = .int i ∧ y = .int j ∧ Q (.int (i + j)) H
def rSub : V → V → Hp → VK → Prop := fun x y H Q => ∃ i j, x = .int i ∧ y = .int j ∧ Q (.int (i - j)) H
theorem in_add : InOp X .Add rAdd := by
  rintro pins s σ H x y u v Q I rx ry ⟨i, j, rfl, rfl, q⟩
  obtain ⟨t, rfl⟩ := (show ∃ t, u = Value.int i t from rx)
  obtain ⟨t', rfl⟩ := (show ∃ t', v = Value.int j t' from ry)
  exact PyProof.Rows.iadd_int ⟨.int (i + j), H, I.tok _, ⟨_, rfl⟩, q⟩
theorem in_sub : InOp X .Sub rSub := by
  rintro pins s σ H x y u v Q I rx ry ⟨i, j, rfl, rfl, q⟩
  obtain ⟨t, rfl⟩ := (show ∃ t, u = Value.int i t from rx)
  obtain ⟨t', rfl⟩ := (show ∃ t', v = Value.int j t' from ry)
  exact PyProof.Rows.isub_int ⟨.int (i - j), H, I.tok _, ⟨_, rfl⟩, q⟩

/-- what is between an instance and its method: the tree of a method call -/
theorem methcall_of {pl : Sem Bool} {m : Str} {apos : Pos} {args : List Expr} {pins : List (Addr × Obj)} {s : Shared} {σ : St} {H : Hp} {Q : Value → Shared → Prop} {te : TE} (he : PE X e te) (I : Inv X pins σ H s)
    (h : te σ H fun x H1 => ∃ a C dx fs g, x = .ref a ∧ H1 a = some (.ins C dx fs) ∧ Cls X.K C ∧ Meth X.K C m g ∧ fs.lookup m = none ∧
      ∀ s1, Inv X pins σ H1 s1 → wpAny (model X.prog X.w) X.A (callWith pos (.ref g) [.ref a] (backTo pos (starEach args X.env)) (backToKw pos (keywordEach [] X.env))) Q X.xe s1)
    (ht : eval (.Call (.Attribute e m apos) args [] pos) X.env = (do
      let ov ← eval e X.env
      standAt apos.atName
      let (f, first) ← holding [ov] (getMethod ov m pl)
      callWith pos f first (backTo pos (starEach args X.env)) (backToKw pos (keywordEach [] X.env)))) :
    wpAny (model X.prog X.w) X.A (eval (.Call (.Attribute e m apos) args [] pos) X.env) Q X.xe s := by
  refine PySem.W.methodCall_KW (pl := pl) (thn (he pins s σ H _ I h) fun u s1 ⟨x, H1, I1, rx, a, C, dx, fs, g, ex, ea, c, k, l, q⟩ => ?_) ht
  subst ex
  obtain rfl : u = Value.ref a := rx
  exact getmeth_ok I1 ea c k l (q s1 I1)
end

/-! ### isinstance -/
section
variable {X : Cx} {pins : List (Addr × Obj)} {σ : St} {H : Hp} {s : Shared} {A : Around} {E : Value → Shared → Prop} {Q : Value → Shared → Prop} {c : Value} {b : Bool}
/-- the type of a value, as the fragment's deciders take it; for an instance its class -/
inductive TyOf (K : PySem.W.Frag) (H : Hp) : V → Value → Prop where
  | non : TyOf K H .non (.type "NoneType")
  | bl (x : Bool) : TyOf K H (.bl x) (.type "bool")
  | int (i : Int) : TyOf K H (.int i) (.type "int")
  | str (x : Str) : TyOf K H (.str x) (.type "str")
  | flt (x : UInt64) : TyOf K H (.flt x) (.type "float")
  | lst {a : Addr} {xs : List V} (e : H a = some (.lst xs)) : TyOf K H (.ref a) (.type "list")
  | frz {a : Addr} {o : Obj} {xs : List V} (e : H a = some (.frz o (.lst xs))) : TyOf K H (.ref a) (.type "list")
  | tup {a : Addr} {xs : List V} (e : H a = some (.tup xs)) : TyOf K H (.ref a) (.type "tuple")
  | dK {a : Addr} {kvs : List (Key × V)} (e : H a = some (.dK kvs)) : TyOf K H (.ref a) (.type "dict")
  | dT {a : Addr} {kvs : List (List Key × V)} (e : H a = some (.dT kvs)) : TyOf K H (.ref a) (.type "dict")
  | ins {a C dx : Addr} {fs : List (Str × V)} (e : H a = some (.ins C dx fs)) (cl : Cls K C) (ha : PySem.W.findIn K (.ref C) "__class__" = some (some (.builtin "object.__class__")))
      (hn : PySem.W.specialIn K (.builtin "object.__class__") "__get__" = some (some (.builtin "getset_descriptor.__get__"))) (htk : PySem.W.takesIn K (.builtin "object.__class__") = some true)
      (hm : PySem.W.mroIn K C (.type "object") = some true) : TyOf K H (.ref a) (.ref C)
/-- isinstance(x, c) for one class c, a built-in or an own one: kitOne's answer -/
theorem isinst_ok {x : V} {u t : Value} (I : Inv X pins σ H s) (rx : RelV x u) (ty : TyOf X.K H x t) (e : PySem.W.kitOne X.K t c = some b) (h : ∀ tk, Q (.bool b) { s with toks := tk }) :
    wpAny (model X.prog X.w) A (call (.builtin "isinstance") [u, c]) Q E s := by
  cases ty with
  | non => cases (show u = Value.none from rx); exact PySem.W.kia_one PySem.W.kitx_none I.kIn True.intro e (fun z => nomatch z) h
  | bl y => cases (show u = Value.bool y from rx); exact PySem.W.kia_one PySem.W.kitx_bool I.kIn True.intro e (fun z => nomatch z) h
  | int i => obtain ⟨t, q⟩ := (show ∃ t, u = Value.int i t from rx); cases q; exact PySem.W.kia_one PySem.W.kitx_int I.kIn True.intro e (fun z => nomatch z) h
  | str y => obtain ⟨t, q⟩ := (show ∃ t, u = Value.str y t from rx); cases q; exact PySem.W.kia_one PySem.W.kitx_str I.kIn True.intro e (fun z => nomatch z) h
  | flt y => obtain ⟨t, q⟩ := (show ∃ t, u = Value.float y t from rx); cases q; exact PySem.W.kia_one PySem.W.kitx_float I.kIn True.intro e (fun z => nomatch z) h
  | @lst a xs ea =>
    cases (show u = Value.ref a from rx)
    obtain ⟨_, _, n, _, h1⟩ := (show ObjOk X.prog X.w H s.heap a (.lst xs) from I.hok a _ ea)
    exact PySem.W.kia_one PySem.W.kitx_list I.kIn ⟨_, h1, rfl⟩ e (fun z => nomatch z) h
  | @frz a ob xs ea =>
    cases (show u = Value.ref a from rx)
    obtain ⟨_, _, _, n, _, h1⟩ := (show ObjOk X.prog X.w H s.heap a (.frz ob (.lst xs)) from I.hok a _ ea)
    exact PySem.W.kia_one PySem.W.kitx_list I.kIn ⟨_, h1, rfl⟩ e (fun z => nomatch z) h
  | @tup a xs ea =>
    cases (show u = Value.ref a from rx)
    obtain ⟨_, _, _, p⟩ := (show ObjOk X.prog X.w H s.heap a (.tup xs) from I.hok a _ ea)
    obtain ⟨o, h1, h2, _⟩ := p
    exact PySem.W.kia_one PySem.W.kitx_tuple I.kIn ⟨o, h1, h2⟩ e (fun z => nomatch z) h
  | @dK a kvs ea =>
    cases (show u = Value.ref a from rx)
    obtain ⟨_, _, vs, _, p⟩ := (show ObjOk X.prog X.w H s.heap a (.dK kvs) from I.hok a _ ea)
    obtain ⟨o, es, ep, h1, h2, _⟩ := p
    exact PySem.W.kia_one PySem.W.kitx_dict I.kIn ⟨o, h1, h2.1⟩ e (fun z => nomatch z) h
  | @dT a kvs ea =>
    cases (show u = Value.ref a from rx)
    obtain ⟨_, _, xs, _, o, es, ep, h1, h2, _⟩ := (show ObjOk X.prog X.w H s.heap a (.dT kvs) from I.hok a _ ea)
    exact PySem.W.kia_one PySem.W.kitx_dict I.kIn ⟨o, h1, h2.1⟩ e (fun z => nomatch z) h
  | @ins a C dx fs ea cl ha hn htk hm =>
    cases (show u = Value.ref a from rx)
    obtain ⟨mA, O, _⟩ := ins_get I.hok ea
    obtain ⟨od, J, _⟩ := O.look
    exact PySem.W.kia_one (PySem.W.kitx_own (cl.get _) cl.hd ha hn htk hm) I.kIn J e (fun z => nomatch z) h
end
end L2

namespace L2
open PySem PySem.Spec PyProof.Rows

/-! ### room -/
structure Room (k : Nat) (A : Around) : Prop where
  hd : A.handled = none
  dp : A.depth + 3 * k + 5 < recursionLimit
  un : A.units + 16 * k + 200 < cLine
theorem Room.mono {j k : Nat} {A : Around} (r : Room k A) (h : j ≤ k) : Room j A := ⟨r.hd, by have := r.dp; omega, by have := r.un; omega⟩
theorem Room.deeper {k : Nat} {A : Around} (r : Room (k + 1) A) (env : Env) : Room k (A.deeper env) :=
  ⟨r.hd, by have := r.dp; show A.depth + 1 + 3 * k + 5 < _; omega, by have := r.un; show A.units + 3 + 16 * k + 200 < _; omega⟩
theorem Room.in1 {k : Nat} {A : Around} (r : Room (k + 1) A) : Room k A.in1 :=
  ⟨r.hd, by have := r.dp; show A.depth + 3 * k + 5 < _; omega, by have := r.un; show A.units + 1 + 16 * k + 200 < _; omega⟩
theorem make_depth {A : Around} {C : Addr} {us : List Value} {kw : List (Str × Value)} : (A.under (.builtin "type.__call__" ⟨.ref C :: us, kw⟩)).depth = A.depth + 1 := by
  first | rfl | simp [Around.under, Code.weight, Code.isCreation, Code.isGuard, Code.isCaller, Code.frames, Code.isFrame, guardIds]
theorem make_units {A : Around} {C : Addr} {us : List Value} {kw : List (Str × Value)} : (A.under (.builtin "type.__call__" ⟨.ref C :: us, kw⟩)).units = A.units + 1 := by
  first | rfl | simp [Around.under, Code.cUnits, Code.frames, Code.isFrame]
theorem Room.make {k : Nat} {A : Around} (r : Room (k + 1) A) (C : Addr) (us : List Value) (kw : List (Str × Value)) : Room k (A.under (.builtin "type.__call__" ⟨.ref C :: us, kw⟩)) :=
  ⟨r.hd, by have := r.dp; rw [make_depth]; omega, by have := r.un; rw [make_units]; omega⟩
theorem Room.depth {k : Nat} {A : Around} (r : Room k A) : A.depth < recursionLimit := by have := r.dp; omega
theorem Room.units {k : Nat} {A : Around} (r : Room k A) : A.units + 64 < cLine := by have := r.un; omega
theorem Room.units0 {k : Nat} {A : Around} (r : Room k A) : A.units < cLine := by have := r.un; omega

/-! ### argument lists and displays -/
def tNil : TA := fun _ H Q => Q [] H
def tCons (ta : TE) (tr : TA) : TA := fun σ H Q => ta σ H fun x H1 => tr σ H1 fun xs H2 => Q (x :: xs) H2
section
variable {X : Cx} {e : Expr} {es : List Expr} {te : TE} {t : TA} {pos : Pos}
theorem pa_nil : PA X [] tNil := fun _ _ _ _ H Q I h => Calls.spliced_nil ⟨[], H, I, .nil, h⟩
theorem pa_cons (ha : PE X e te) (hr : PA X es t) (hs : starEach (e :: es) X.env = (false, eval e X.env) :: starEach es X.env := by rfl) : PA X (e :: es) (tCons te t) := by
  intro pos pins s σ H Q I h
  rw [hs]
  show wpAny _ _ (spliced ((false, eval e X.env) :: backTo pos (starEach es X.env))) _ _ s
  refine Calls.spliced_cons (thn (ha pins s σ H _ I h) fun u s1 ⟨x, H1, I1, r1, q1⟩ => ?_)
  exact thn (hr pos pins s1 σ H1 _ I1 q1) fun us s2 ⟨xs, H2, I2, r2, q2⟩ => ⟨x :: xs, H2, I2, .cons r1 r2, q2⟩

/-- a tuple, a list of written items -/
def tTup (t : TA) : TE := fun σ H Q => t σ H fun xs H1 => xs.length ≤ sizeLine ∧ ∀ p, H1 p = none → Q (.ref p) (upd H1 p (.tup xs))
def tLst (t : TA) : TE := fun σ H Q => t σ H fun xs H1 => xs.length ≤ sizeLine ∧ ∀ p, H1 p = none → Q (.ref p) (upd H1 p (.lst xs))
theorem pe_tup {x1} (h : PA X es t) : PE X (.Tuple es x1 pos) (tTup t) := by
  intro pins s σ H Q I hq
  refine wpAny_Tuple_spliced (thn (h pos pins s σ H _ I hq) fun us s1 ⟨xs, H1, I1, r, z, q⟩ => ⟨by rw [← r.length]; exact z, ?_⟩)
  have hf : H1 s1.heap.objs.size = none := I1.hok.fresh (Nat.le_refl _)
  refine ⟨.ref s1.heap.objs.size, upd H1 s1.heap.objs.size (.tup xs), I1.laid (t' := s1.toks) (fun b u e => Heap.get?_push_of_some _ e) (Nat.le_refl _) ?_, rfl, q _ hf⟩
  exact ⟨z, us, r, ⟨_, Heap.get?_push_size _ rfl, rfl, _, rfl⟩⟩
theorem pe_lst (h : PA X es t) : PE X (.List es pos) (tLst t) := by
  intro pins s σ H Q I hq
  refine wpAny_List_spliced (thn (h pos pins s σ H _ I hq) fun us s1 ⟨xs, H1, I1, r, z, q⟩ => ⟨by rw [← r.length]; exact z, ?_⟩)
  have hf : H1 s1.heap.objs.size = none := I1.hok.fresh (Nat.le_refl _)
  refine ⟨.ref s1.heap.objs.size, upd H1 s1.heap.objs.size (.lst xs), I1.laid (t' := s1.toks) (fun b u e => Heap.get?_push_of_some _ e) (Nat.le_refl _) ?_, rfl, q _ hf⟩
  exact ⟨z, us, 0, r, Heap.get?_push_size _ rfl⟩
end

/-! ### what a def promises -/
/-- a def's promise: the bound arguments in the parameters' order, the heap, the wanted end, the wanted exception -/
abbrev Sp := List V → Hp → VK → XK → Prop
/-- how an exception lies behind a call (file 08 gives it): the callers' frames, abstract heap and state ahead of the call, the wish, the exception, the state -/
abbrev CXT := List Env → Hp → Shared → XK → Value → Shared → Prop

/-- the state at a call -/
structure Env0 (P : Program) (w : World) (K : PySem.W.Frag) (mg : Str → Option Value) (base : Heap) (A : Around) (outer : List Env) (s : Shared) (H : Hp) : Prop where
  frames : A.frames = some outer
  mod : Mod K mg base
  bs : ∀ b o, base.get? b = some o → s.heap.get? b = some o ∧ H b = none
  bsz : base.objs.size ≤ s.heap.objs.size
  funs : s.heap.FunFrames base outer
  frf : ∀ b ∈ frs outer, H b = none
  hok : HOk P w H s.heap
  bare : AllBare s.gens
/-- a call's end -/
def CE (outer : List Env) (P : Program) (w : World) (H : Hp) (s : Shared) (Q : VK) (u : Value) (s' : Shared) : Prop :=
  ∃ v H', s'.os = s.os ∧ AllBare s'.gens ∧ Un (frs outer) [] H H' s.heap s'.heap ∧ HOk P w H' s'.heap ∧ RelV v u ∧ Q v H'
def CR (CX : CXT) (outer : List Env) (P : Program) (w : World) (H : Hp) (s : Shared) (Q : VK) (E : XK) (r : Result) (s' : Shared) : Prop :=
  match r with
  | .ok (.ret u) => CE outer P w H s Q u s'
  | .ok _ => False
  | .error e => CX outer H s E e s'
structure FnOk (P : Program) (w : World) (K : PySem.W.Frag) (mg : Str → Option Value) (base : Heap) (CX : CXT) (k : Nat) (f : Addr) (fd : FuncData) (ps : List Str) (sp : Sp) : Prop where
  len : ∀ vs H Q E, sp vs H Q E → vs.length = ps.length
  run : ∀ (A : Around) (outer : List Env) (s : Shared) (H : Hp) (args : Args) (us : List Value) (vs : List V) (Q : VK) (E : XK), Room k A → Env0 P w K mg base A outer s H → BindsTo s fd args (ps.zip us) → Vals vs us → sp vs H Q E →
    codeAny (model P w) A (.call (.ref f) args) (CR CX outer P w H s Q E) s
theorem FnOk.mono {P : Program} {w : World} {K : PySem.W.Frag} {mg : Str → Option Value} {base : Heap} {CX : CXT} {j k : Nat} {f : Addr} {fd : FuncData} {ps : List Str} {sp : Sp} (F : FnOk P w K mg base CX j f fd ps sp) (h : j ≤ k) :
    FnOk P w K mg base CX k f fd ps sp := ⟨F.len, fun A outer s H args us vs Q E hr => F.run A outer s H args us vs Q E (hr.mono h)⟩
/-- a weaker promise -/
theorem FnOk.imp {P : Program} {w : World} {K : PySem.W.Frag} {mg : Str → Option Value} {base : Heap} {CX : CXT} {k : Nat} {f : Addr} {fd : FuncData} {ps : List Str} {sp sp' : Sp} (F : FnOk P w K mg base CX k f fd ps sp)
    (h : ∀ vs H Q E, sp' vs H Q E → sp vs H Q E) : FnOk P w K mg base CX k f fd ps sp' :=
  ⟨fun vs H Q E q => F.len vs H Q E (h _ _ _ _ q), fun A outer s H args us vs Q E hr he hb hv hs => F.run A outer s H args us vs Q E hr he hb hv (h _ _ _ _ hs)⟩

theorem Env0.make {P : Program} {w : World} {K : PySem.W.Frag} {mg : Str → Option Value} {base : Heap} {A : Around} {outer : List Env} {s : Shared} {H : Hp} (e : Env0 P w K mg base A outer s H) (C : Addr) (us : List Value) (kw : List (Str × Value)) :
    Env0 P w K mg base (A.under (.builtin "type.__call__" ⟨.ref C :: us, kw⟩)) outer s H := ⟨by first | exact e.frames | (simpa [Around.under, Code.envs, Code.isFrame, pushEnvs] using e.frames), e.mod, e.bs, e.bsz, e.funs, e.frf, e.hok, e.bare⟩
theorem Env0.in1 {P : Program} {w : World} {K : PySem.W.Frag} {mg : Str → Option Value} {base : Heap} {A : Around} {outer : List Env} {s : Shared} {H : Hp} (e : Env0 P w K mg base A outer s H) :
    Env0 P w K mg base A.in1 outer s H := ⟨e.frames, e.mod, e.bs, e.bsz, e.funs, e.frf, e.hok, e.bare⟩

section
variable {X : Cx} {pins : List (Addr × Obj)} {σ : St} {H : Hp} {s s' : Shared}
/-- from a body: what a callee wants -/
theorem Inv.env0 (I : Inv X pins σ H s) : Env0 X.prog X.w X.K X.mg X.base X.A X.stack s H :=
  ⟨I.ok.frames, I.ok.mod, I.bs, Nat.le_trans I.ok.bsz I.sz, I.stack, I.stkFree, I.hok, I.bare⟩
/-- behind a call -/
theorem Inv.after {Q : VK} {u : Value} (I : Inv X pins σ H s) (h : CE X.stack X.prog X.w H s Q u s') : EP X pins σ Q u s' := by
  obtain ⟨v, H', os, bare, un, hok, r, q⟩ := h
  obtain ⟨hh, g, d, t, os'⟩ := s'
  obtain rfl : os' = s.os := os
  exact ⟨v, H', I.call (h' := hh) (g' := g) (d' := d) (t' := t) (ch := []) un hok bare (fun b z => absurd z (by simp)), r, q⟩
end

/-! ### calls -/
/-- f(..): the written arguments, then the defaults dvs; E: what is wanted of an exception -/
def tCall (sp : Sp) (dvs : List V) (E : XK) (t : TA) : TE := fun σ H Q => t σ H fun vs H1 => sp (vs ++ dvs) H1 Q E
/-- o.m(..) of an instance of the class at C -/
def tMeth (C : Addr) (m : Str) (sp : Sp) (dvs : List V) (E : XK) (ta : TE) (t : TA) : TE := fun σ H Q => ta σ H fun x H1 => ∃ a dx fs, x = .ref a ∧ H1 a = some (.ins C dx fs) ∧ fs.lookup m = none ∧
  t σ H1 fun vs H2 => sp (x :: (vs ++ dvs)) H2 Q E
/-- C(..): a new instance and its dict, then __init__ -/
def tMake (C : Addr) (sp : Sp) (dvs : List V) (E : XK) (t : TA) : TE := fun σ H Q => t σ H fun vs H1 => ∀ x dx, H1 x = none → H1 dx = none → dx ≠ x →
  sp (.ref x :: (vs ++ dvs)) (upd (upd H1 dx (.own x)) x (.ins C dx [])) (fun v H2 => v = .non ∧ Q (.ref x) H2) E

/-- how the parameters are bound: us the positional arguments, kw the keywords' values by name, ds the defaults that fill up -/
def Binds (K : PySem.W.Frag) (fd : FuncData) (ps : List Str) (ds : List Value) : Prop :=
  ∀ (s : Shared) (us : List Value), K.In s.heap → (us ++ ds).length = ps.length → BindsTo s fd ⟨us, []⟩ (ps.zip (us ++ ds))
/-- every parameter is given -/
theorem Binds.all {K : PySem.W.Frag} {fd : FuncData} {ps : List Str} (h : ∀ us : List Value, us.length = ps.length → bindArgs fd ⟨us, []⟩ = pure (ps.zip us)) : Binds K fd ps [] := fun s us _ hl => by
  rw [List.append_nil] at hl ⊢
  exact .of_eq (h us hl)

/-- an exception of a callee reaches what this body wants of exceptions -/
def Passes (CX : CXT) (X : Cx) (E : XK) : Prop := ∀ (pins : List (Addr × Obj)) (σ : St) (H : Hp) (s : Shared) (e : Value) (s' : Shared), Inv X pins σ H s → CX X.stack H s E e s' → X.xe e s'

section
variable {X : Cx} {CX : CXT} {k : Nat} {f C : Addr} {fd : FuncData} {ps : List Str} {sp : Sp} {dvs : List V} {ds : List Value} {E : XK} {x m : Str} {p pos apos : Pos} {e o : Expr} {es : List Expr} {ta : TE} {t : TA}

/-- the callee runs -/
theorem run_fn {pins : List (Addr × Obj)} {σ : St} {H : Hp} {s : Shared} {Q : VK} {us : List Value} {vs : List V} (F : FnOk X.prog X.w X.K X.mg X.base CX k f fd ps sp) (hr : Room k X.A) (hb : Binds X.K fd ps ds) (hd : Vals dvs ds) (hx : Passes CX X E)
    (I : Inv X pins σ H s) (r : Vals vs us) (h : sp (vs ++ dvs) H Q E) : wpAny (model X.prog X.w) X.A (call (.ref f) us) (EP X pins σ Q) X.xe s := by
  have r2 : Vals (vs ++ dvs) (us ++ ds) := r.append hd
  have hl : (us ++ ds).length = ps.length := by rw [← r2.length]; exact F.len _ _ _ _ h
  refine wpAny_call (codeAny_mono (F.run X.A X.stack s H ⟨us, []⟩ (us ++ ds) (vs ++ dvs) Q E hr I.env0 (hb s us I.kIn hl) r2 h) fun r s' hq => ?_)
  cases r with
  | error e => exact hx pins σ H s e s' I hq
  | ok fl =>
    cases fl with
    | ret u => exact I.after hq
    | next => exact False.elim hq
    | brk => exact False.elim hq
    | cont => exact False.elim hq

theorem pe_call (F : FnOk X.prog X.w X.K X.mg X.base CX k f fd ps sp) (hr : Room k X.A) (hg : Gl X x) (hm : X.mg x = some (.ref f)) (hk : PySem.W.keepIn X.K (.ref f) = true) (hb : Binds X.K fd ps ds) (hd : Vals dvs ds) (hx : Passes CX X E)
    (ha : PA X (e :: es) t) (hdb : (x == ("__debug__" : Str)) = false := by decide) (he : starEach (e :: es) X.env = (false, eval e X.env) :: starEach es X.env := by rfl) (hpl : (backTo pos (starEach es X.env)).any (·.1) = false := by rfl) :
    PE X (.Call (.Name x p) (e :: es) [] pos) (tCall sp dvs E t) := by
  intro pins s σ H Q I h
  refine wpAny_Call_Name_kw (ld_glob I hg hm ?_ hdb)
  refine PySem.W.callWith_K (h₀ := X.base) I.ok.mod.kin hk (thn (ha pos pins s σ H _ I h) fun us s1 ⟨vs, H1, I1, r, q⟩ => ⟨I1.kIn, ?_⟩) he hpl
  exact run_fn F hr hb hd hx I1 r q
theorem pe_call0 (F : FnOk X.prog X.w X.K X.mg X.base CX k f fd ps sp) (hr : Room k X.A) (hg : Gl X x) (hm : X.mg x = some (.ref f)) (hk : PySem.W.keepIn X.K (.ref f) = true) (hb : Binds X.K fd ps ds) (hd : Vals dvs ds) (hx : Passes CX X E)
    (hdb : (x == ("__debug__" : Str)) = false := by decide) : PE X (.Call (.Name x p) [] [] pos) (tCall sp dvs E tNil) := by
  intro pins s σ H Q I h
  refine wpAny_Call_Name_kw (ld_glob I hg hm ?_ hdb)
  exact PySem.W.callWith_K0 I.kIn hk (run_fn (us := []) F hr hb hd hx I .nil h)

/-- o.m(e, ..) -/
theorem pe_meth {pl : Sem Bool} (he : PE X o ta) (c : Cls X.K C) (hm : Meth X.K C m f) (F : FnOk X.prog X.w X.K X.mg X.base CX k f fd ps sp) (hr : Room k X.A) (hb : Binds X.K fd ps ds) (hd : Vals dvs ds) (hx : Passes CX X E) (ha : PA X (e :: es) t)
    (hst : starEach (e :: es) X.env = (false, eval e X.env) :: starEach es X.env := by rfl) (hpl : (backTo pos (starEach es X.env)).any (·.1) = false := by rfl)
    (ht : eval (.Call (.Attribute o m apos) (e :: es) [] pos) X.env = (do
      let ov ← eval o X.env
      standAt apos.atName
      let (f, first) ← holding [ov] (getMethod ov m pl)
      callWith pos f first (backTo pos (starEach (e :: es) X.env)) (backToKw pos (keywordEach [] X.env))) := by rfl) :
    PE X (.Call (.Attribute o m apos) (e :: es) [] pos) (tMeth C m sp dvs E ta t) := by
  intro pins s σ H Q I h
  refine PySem.W.methodCall_KW (pl := pl) (thn (he pins s σ H _ I h) fun u s1 ⟨x, H1, I1, rx, a, dx, fs, ex, ea, l, q⟩ => ?_) ht
  subst ex
  obtain rfl : u = Value.ref a := rx
  refine getmeth_ok I1 ea c hm l ?_
  refine PySem.W.callWith_K (first := [.ref a]) (h₀ := X.base) I.ok.mod.kin hm.kp (thn (ha pos pins s1 σ H1 _ I1 q) fun us s2 ⟨vs, H2, I2, r, q2⟩ => ⟨I2.kIn, ?_⟩) hst hpl
  exact run_fn (us := .ref a :: us) (vs := .ref a :: vs) F hr hb hd hx I2 (.cons rfl r) q2
/-- o.m() -/
theorem pe_meth0 {pl : Sem Bool} (he : PE X o ta) (c : Cls X.K C) (hm : Meth X.K C m f) (F : FnOk X.prog X.w X.K X.mg X.base CX k f fd ps sp) (hr : Room k X.A) (hb : Binds X.K fd ps ds) (hd : Vals dvs ds) (hx : Passes CX X E)
    (ht : eval (.Call (.Attribute o m apos) [] [] pos) X.env = (do
      let ov ← eval o X.env
      standAt apos.atName
      let (f, first) ← holding [ov] (getMethod ov m pl)
      callWith pos f first (backTo pos (starEach [] X.env)) (backToKw pos (keywordEach [] X.env))) := by rfl) :
    PE X (.Call (.Attribute o m apos) [] [] pos) (tMeth C m sp dvs E ta tNil) := by
  intro pins s σ H Q I h
  refine PySem.W.methodCall_KW (pl := pl) (thn (he pins s σ H _ I h) fun u s1 ⟨x, H1, I1, rx, a, dx, fs, ex, ea, l, q⟩ => ?_) ht
  subst ex
  obtain rfl : u = Value.ref a := rx
  refine getmeth_ok I1 ea c hm l ?_
  exact PySem.W.callWith_K0 (first := [.ref a]) I1.kIn hm.kp (run_fn (us := [.ref a]) (vs := [.ref a]) F hr hb hd hx I1 (.cons rfl .nil) q)

/-- what a class must have to be made -/
structure Mk (K : PySem.W.Frag) (C f : Addr) : Prop where
  makes : PySem.W.makesIn K C = true
  init : PySem.W.findIn K (.ref C) "__init__" = some (some (.ref f))
  fn : PySem.W.isFn K (.ref f) = true
  kp : PySem.W.keepIn K (.ref C) = true

theorem run_make {pins : List (Addr × Obj)} {σ : St} {H : Hp} {s : Shared} {Q : VK} {us : List Value} {vs : List V} (M : Mk X.K C f) (F : FnOk X.prog X.w X.K X.mg X.base CX k f fd ps sp) (hr : Room (k + 1) X.A) (hb : Binds X.K fd ps ds) (hd : Vals dvs ds)
    (hx : Passes CX X E) (I : Inv X pins σ H s) (r : Vals vs us)
    (h : ∀ x dx, H x = none → H dx = none → dx ≠ x → sp (.ref x :: (vs ++ dvs)) (upd (upd H dx (.own x)) x (.ins C dx [])) (fun v H2 => v = .non ∧ Q (.ref x) H2) E) :
    wpAny (model X.prog X.w) X.A (call (.ref C) us) (EP X pins σ Q) X.xe s := by
  have hq := h (s.heap.objs.size + 1) s.heap.objs.size (I.hok.fresh (Nat.le_succ _)) (I.hok.fresh (Nat.le_refl _)) (Nat.ne_of_lt (Nat.lt_succ_self _))
  have I2 := Inv.made (C := C) I
  have r2 : Vals (V.ref (s.heap.objs.size + 1) :: (vs ++ dvs)) (Value.ref (s.heap.objs.size + 1) :: (us ++ ds)) := .cons rfl (r.append hd)
  have hl : (Value.ref (s.heap.objs.size + 1) :: us ++ ds).length = ps.length := by
    have e := r2.length
    rw [F.len _ _ _ _ hq] at e
    exact e.symm
  refine wpAny_call (make_map (f := f) I.kIn M.makes M.init (beq_iff_eq.mp M.fn) (codeAny_mono (F.run _ X.stack _ _ ⟨Value.ref (s.heap.objs.size + 1) :: us, []⟩ (Value.ref (s.heap.objs.size + 1) :: (us ++ ds)) _ _ E (hr.make C us [])
    (I2.env0.make C us []) (hb _ (Value.ref (s.heap.objs.size + 1) :: us) I2.kIn hl) r2 hq) fun r s' hq' => ?_))
  cases r with
  | error e => exact hx pins σ _ _ e s' I2 hq'
  | ok fl =>
    cases fl with
    | ret u =>
      obtain ⟨v, H', I3, rv, ev, q3⟩ := I2.after hq'
      subst ev
      exact ⟨rv, ⟨V.ref (s.heap.objs.size + 1), H', I3, rfl, q3⟩⟩
    | next => exact False.elim hq'
    | brk => exact False.elim hq'
    | cont => exact False.elim hq'
theorem pe_make (M : Mk X.K C f) (F : FnOk X.prog X.w X.K X.mg X.base CX k f fd ps sp) (hr : Room (k + 1) X.A) (hg : Gl X x) (hm : X.mg x = some (.ref C)) (hb : Binds X.K fd ps ds) (hd : Vals dvs ds) (hx : Passes CX X E)
    (ha : PA X (e :: es) t) (hdb : (x == ("__debug__" : Str)) = false := by decide) (he : starEach (e :: es) X.env = (false, eval e X.env) :: starEach es X.env := by rfl) (hpl : (backTo pos (starEach es X.env)).any (·.1) = false := by rfl) :
    PE X (.Call (.Name x p) (e :: es) [] pos) (tMake C sp dvs E t) := by
  intro pins s σ H Q I h
  refine wpAny_Call_Name_kw (ld_glob I hg hm ?_ hdb)
  refine PySem.W.callWith_K (h₀ := X.base) I.ok.mod.kin M.kp (thn (ha pos pins s σ H _ I h) fun us s1 ⟨vs, H1, I1, r, q⟩ => ⟨I1.kIn, ?_⟩) he hpl
  exact run_make M F hr hb hd hx I1 r q
theorem pe_make0 (M : Mk X.K C f) (F : FnOk X.prog X.w X.K X.mg X.base CX k f fd ps sp) (hr : Room (k + 1) X.A) (hg : Gl X x) (hm : X.mg x = some (.ref C)) (hb : Binds X.K fd ps ds) (hd : Vals dvs ds) (hx : Passes CX X E)
    (hdb : (x == ("__debug__" : Str)) = false := by decide) : PE X (.Call (.Name x p) [] [] pos) (tMake C sp dvs E tNil) := by
  intro pins s σ H Q I h
  refine wpAny_Call_Name_kw (ld_glob I hg hm ?_ hdb)
  exact PySem.W.callWith_K0 I.kIn M.kp (run_make (us := []) M F hr hb hd hx I .nil h)
end

/-! ### keywords -/
/-- the values of the keywords, from the left -/
def PK (X : Cx) (kws : List Keyword) (t : TA) : Prop :=
  ∀ (pos : Pos) (pins : List (Addr × Obj)) (s : Shared) (σ : St) (H : Hp) (Q : List V → Hp → Prop), Inv X pins σ H s → t σ H Q → wpAny (model X.prog X.w) X.A (evalAll ((backToKw pos (keywordEach kws X.env)).map (·.2))) (AP X pins σ Q) X.xe s
section
variable {X : Cx} {CX : CXT} {k : Nat} {f C : Addr} {fd : FuncData} {ps ks : List Str} {sp : Sp} {E : XK} {x m : Str} {p pos apos kpos : Pos} {e o : Expr} {es : List Expr} {kws : List Keyword} {te ta : TE} {t tk : TA} {nm : Option Str}
theorem pk_nil : PK X [] tNil := fun _ _ _ _ H Q I h => wpAny_evalAll_nil ⟨[], H, I, .nil, h⟩
theorem pk_cons (ha : PE X e te) (hr : PK X kws t) : PK X (⟨nm, e, kpos⟩ :: kws) (tCons te t) := by
  intro pos pins s σ H Q I h
  show wpAny _ _ (evalAll ((do let v ← eval e X.env; standAt pos; pure v) :: (backToKw pos (keywordEach kws X.env)).map (·.2))) _ _ s
  refine wpAny_evalAll_cons (wpAny_bind (thn (ha pins s σ H _ I h) fun u s1 ⟨x, H1, I1, r1, q1⟩ => wpAny_bind (wpAny_standAt (wpAny_pure ?_))))
  exact thn (hr pos pins s1 σ H1 _ I1 q1) fun us s2 ⟨xs, H2, I2, r2, q2⟩ => ⟨x :: xs, H2, I2, .cons r1 r2, q2⟩

/-- how a call with keywords binds: g puts the positional values us and the keywords' values ws (names ks) in the parameters' order, defaults among them -/
structure KBinds (K : PySem.W.Frag) (fd : FuncData) (ps ks : List Str) (g : List Value → List Value → List Value) (gV : List V → List V → List V) : Prop where
  to : ∀ (s : Shared) (us ws : List Value), K.In s.heap → (g us ws).length = ps.length → BindsTo s fd ⟨us, ks.zip ws⟩ (ps.zip (g us ws))
  rel : ∀ {vs : List V} {us : List Value} {zs : List V} {ws : List Value}, Vals vs us → Vals zs ws → Vals (gV vs zs) (g us ws)
def tCallK (sp : Sp) (gV : List V → List V → List V) (E : XK) (t tk : TA) : TE := fun σ H Q => t σ H fun vs H1 => tk σ H1 fun zs H2 => sp (gV vs zs) H2 Q E
variable {g : List Value → List Value → List Value} {gV : List V → List V → List V}
theorem run_fnk {pins : List (Addr × Obj)} {σ : St} {H : Hp} {s : Shared} {Q : VK} {us ws : List Value} {vs zs : List V} (F : FnOk X.prog X.w X.K X.mg X.base CX k f fd ps sp) (hr : Room k X.A) (hb : KBinds X.K fd ps ks g gV) (hx : Passes CX X E)
    (I : Inv X pins σ H s) (r : Vals vs us) (rz : Vals zs ws) (h : sp (gV vs zs) H Q E) : wpAny (model X.prog X.w) X.A (call (.ref f) us (ks.zip ws)) (EP X pins σ Q) X.xe s := by
  have r2 := hb.rel r rz
  have hl : (g us ws).length = ps.length := by rw [← r2.length]; exact F.len _ _ _ _ h
  refine wpAny_call (codeAny_mono (F.run X.A X.stack s H ⟨us, ks.zip ws⟩ (g us ws) (gV vs zs) Q E hr I.env0 (hb.to s us ws I.kIn hl) r2 h) fun r s' hq => ?_)
  cases r with
  | error e => exact hx pins σ H s e s' I hq
  | ok fl =>
    cases fl with
    | ret u => exact I.after hq
    | next => exact False.elim hq
    | brk => exact False.elim hq
    | cont => exact False.elim hq
/-- f(e, .., k = v, ..) -/
theorem pe_callK (F : FnOk X.prog X.w X.K X.mg X.base CX k f fd ps sp) (hr : Room k X.A) (hg : Gl X x) (hm : X.mg x = some (.ref f)) (hk : PySem.W.keepIn X.K (.ref f) = true) (hb : KBinds X.K fd ps ks g gV) (hx : Passes CX X E)
    (ha : PA X (e :: es) t) (hkw : PK X kws tk) (hall : (backToKw pos (keywordEach kws X.env)).all (·.1.isSome) = true := by rfl) (hks : (backToKw pos (keywordEach kws X.env)).filterMap (·.1) = ks := by rfl)
    (hdb : (x == ("__debug__" : Str)) = false := by decide) (he : starEach (e :: es) X.env = (false, eval e X.env) :: starEach es X.env := by rfl)
    (hpl : ((backTo pos (starEach (e :: es) X.env)).any (·.1) || (backToKw pos (keywordEach kws X.env)).any (·.1.isNone)) = false := by rfl) :
    PE X (.Call (.Name x p) (e :: es) kws pos) (tCallK sp gV E t tk) := by
  intro pins s σ H Q I h
  refine wpAny_Call_Name_kw (ld_glob I hg hm ?_ hdb)
  refine PySem.W.callWith_KW (h₀ := X.base) I.ok.mod.kin hk hall (thn (ha pos pins s σ H _ I h) fun us s1 ⟨vs, H1, I1, r, q⟩ => ?_) hpl he
  refine thn (hkw pos pins s1 σ H1 _ I1 q) fun ws s2 ⟨zs, H2, I2, rz, q2⟩ => ⟨I2.kIn, ?_⟩
  rw [hks]
  exact run_fnk F hr hb hx I2 r rz q2
end

/-! ### a def's body keeps its promise -/
/-- names: the parameters first -/
structure FnScope (N P : List Str) (sc : Scope) : Prop where
  kind : sc.kind = .function
  co : sc.isCoroutine = false
  gen : sc.isGenerator = false
  nd : N.Nodup
  pre : N.take P.length = P
  par : ∀ x ∈ P, sc.names.lookup x = some .local ∨ sc.names.lookup x = some .cell
  nofree : ∀ y ∈ sc.names, y.2 ≠ .free

theorem bindL_out {kindOf : Str → Option NameKind} {x : Str} : ∀ {binds : List (Str × Value)} {m : Str → Option Value}, (∀ v, (x, v) ∉ binds) → bindL kindOf binds m x = m x
  | [], _, _ => rfl
  | (n, v) :: r, m, h => by
    unfold bindL
    rw [bindL_out fun w hw => h w (List.mem_cons_of_mem _ hw)]
    split
    · have : x ≠ n := by rintro rfl; exact h v List.mem_cons_self
      simp [this]
    · rfl
theorem bindC_out {kindOf : Str → Option NameKind} {x : Str} : ∀ {binds : List (Str × Value)} {m : Str → Option Value}, (∀ v, (x, v) ∉ binds) → bindC kindOf binds m x = m x
  | [], _, _ => rfl
  | (n, v) :: r, m, h => by
    unfold bindC
    rw [bindC_out fun w hw => h w (List.mem_cons_of_mem _ hw)]
    split
    · rfl
    · have : x ≠ n := by rintro rfl; exact h v List.mem_cons_self
      simp [this]
theorem bindL_get {kindOf : Str → Option NameKind} {x : Str} {v : Value} : ∀ {P : List Str} {vs : List Value} {i : Nat} {m : Str → Option Value}, P.Nodup → P[i]? = some x → vs[i]? = some v → kindOf x = some .local →
    bindL kindOf (P.zip vs) m x = some v
  | [], _, _, _, _, h, _, _ => by simp at h
  | _ :: _, [], _, _, _, _, h, _ => by simp at h
  | p :: P, w :: vs, 0, m, nd, h1, h2, hk => by
    simp at h1 h2; subst h1; subst h2
    show bindL kindOf ((p, w) :: P.zip vs) m p = _
    unfold bindL
    rw [bindL_out fun v hv => (List.nodup_cons.mp nd).1 (List.of_mem_zip hv).1, if_pos hk]
    simp
  | p :: P, w :: vs, i + 1, m, nd, h1, h2, hk => by
    show bindL kindOf ((p, w) :: P.zip vs) m x = _
    unfold bindL
    exact bindL_get (i := i) (List.nodup_cons.mp nd).2 (by simpa using h1) (by simpa using h2) hk
theorem bindC_get {kindOf : Str → Option NameKind} {x : Str} {v : Value} : ∀ {P : List Str} {vs : List Value} {i : Nat} {m : Str → Option Value}, P.Nodup → P[i]? = some x → vs[i]? = some v → kindOf x ≠ some .local →
    bindC kindOf (P.zip vs) m x = some v
  | [], _, _, _, _, h, _, _ => by simp at h
  | _ :: _, [], _, _, _, _, h, _ => by simp at h
  | p :: P, w :: vs, 0, m, nd, h1, h2, hk => by
    simp at h1 h2; subst h1; subst h2
    show bindC kindOf ((p, w) :: P.zip vs) m p = _
    unfold bindC
    rw [bindC_out fun v hv => (List.nodup_cons.mp nd).1 (List.of_mem_zip hv).1, if_neg hk]
    simp
  | p :: P, w :: vs, i + 1, m, nd, h1, h2, hk => by
    show bindC kindOf ((p, w) :: P.zip vs) m x = _
    unfold bindC
    exact bindC_get (i := i) (List.nodup_cons.mp nd).2 (by simpa using h1) (by simpa using h2) hk

/-- the names' values at the entry -/
def start (N : List Str) (vs : List V) : St := vs.map some ++ List.replicate (N.length - vs.length) none

/-- the context of a def's body, at its entry; an exception leaves the frame, then lies as CX says -/
def cxOf (CX : CXT) (P : Program) (w : World) (K : PySem.W.Frag) (mg : Str → Option Value) (base : Heap) (N : List Str) (qual : Str) (scope : Scope) (f : Addr) (cd : Value) (A : Around) (outer : List Env) (s : Shared) (H : Hp) (E : XK) : Cx where
  prog := P
  w := w
  K := K
  mg := mg
  base := base
  A := A.deeper (envOfC qual scope s.heap.objs.size f cd)
  N := N
  s₀ := s
  H₀ := H
  env := envOfC qual scope s.heap.objs.size f cd
  outer := outer
  stack := envOfC qual scope s.heap.objs.size f cd :: outer
  ex := []
  calm := true
  fn := fun _ => true
  pn := []
  xe := fun e s' => wpAny (model P w) (A.deeper (envOfC qual scope s.heap.objs.size f cd)) (leaving (envOfC qual scope s.heap.objs.size f cd) e) (fun _ s'' => CX outer H s E e s'') (fun e' s'' => CX outer H s E e' s'') s'

theorem cell_has {sc : Scope} {n : Nat} {x : Str} (h : sc.names.lookup x = some .cell) : ∃ c, (cellsFrom n sc.names []).lookup x = some c := by
  have q := PySem.W.cellsFrom_some sc.names n [] (.inl h)
  exact Option.isSome_iff_exists.mp q

theorem inv_start {CX : CXT} {P : Program} {w : World} {K : PySem.W.Frag} {mg : Str → Option Value} {base : Heap} {N ps : List Str} {qual : Str} {scope : Scope} {f : Addr} {cd : Value} {A : Around} {outer : List Env} {s s1 : Shared} {H : Hp} {E : XK} {us : List Value} {vs : List V}
    (S : FnScope N ps scope) (hd : A.handled = none) (e0 : Env0 P w K mg base A outer s H) (hl : vs.length = ps.length) (r : Vals vs us)
    (x : InCallC s s.heap.objs.size (bindL (envOfC qual scope s.heap.objs.size f cd).kindOf (ps.zip us) fun _ => none) (cellsFrom (s.heap.objs.size + 1) scope.names []) (bindC (envOfC qual scope s.heap.objs.size f cd).kindOf (ps.zip us) fun _ => none) s1) :
    Inv (cxOf CX P w K mg base N qual scope f cd A outer s H E) [] (start N vs) H s1 := by
  have hpl : ps.length ≤ N.length := by have := congrArg List.length S.pre; rw [List.length_take] at this; omega
  obtain ⟨h1, tk, rfl, hk⟩ := x.done
  have noA : ∀ b : Addr, b ∉ (cxOf CX P w K mg base N qual scope f cd A outer s H E).ex := fun b z => absurd (show b ∈ ([] : List Addr) from z) (by simp)
  refine ⟨⟨e0.mod, S.kind, rfl, rfl, Nat.le_refl _, fun y z c h1 h2 => ?_, fun y hy => ?_, fun y c _ h => ?_, fun _ => hd, Around.frames_deeper e0.frames, .inr ⟨rfl, rfl⟩, fun b z => absurd z (noA b), e0.bs, e0.bsz, fun b _ _ => noA b, fun b z => absurd z (noA b), e0.funs, e0.frf⟩,
    rfl, e0.bare, Un.kept hk, ⟨_, x.toInCall.ns, fun i y v h1 h2 h3 => ?_⟩, fun y c h => ⟨_, x.cell y c h⟩, e0.hok.fresh (Nat.le_refl _), fun y c h => ?_, fun p hp => absurd (show p ∈ ([] : List (Addr × Obj)) from hp) (by simp), e0.hok.kept hk, ?_⟩
  · exact name_of_addr x.apart (PySem.mem_of_lookup h1) (PySem.mem_of_lookup h2)
  · have hy : scope.names.lookup y = some .cell ∨ scope.names.lookup y = some .free := hy
    rcases hy with hy | hy
    · exact cell_has hy
    · exact absurd rfl (S.nofree _ (PySem.mem_of_lookup hy))
  · exact Nat.le_of_lt (x.above y c (PySem.mem_of_lookup h))
  · have hi : i < vs.length := by
      unfold start at h2
      by_cases hi : i < vs.length
      · exact hi
      · rw [List.getElem?_append_right (by simpa using hi)] at h2
        rw [List.getElem?_replicate] at h2
        split at h2 <;> cases h2
    have ha : vs[i]? = some v := by
      unfold start at h2
      rw [List.getElem?_append_left (by simpa using hi), List.getElem?_map] at h2
      cases e : vs[i]? with
      | none => rw [e] at h2; cases h2
      | some a => rw [e] at h2; cases h2; rfl
    obtain ⟨u, hu, rv⟩ := r.get ha
    have hp : ps[i]? = some y := by
      rw [← S.pre, List.getElem?_take_of_lt (by omega)]; exact h1
    have ndP : ps.Nodup := by rw [← S.pre]; exact S.nd.sublist (List.take_sublist _ _)
    refine ⟨u, rv, ?_⟩
    rcases S.par y (List.mem_of_getElem? hp) with k | k
    · exact .inl ⟨k, bindL_get ndP hp hu k⟩
    · obtain ⟨c, e⟩ := cell_has (n := s.heap.objs.size + 1) k
      refine .inr ⟨.inl k, c, e, ?_⟩
      have q := x.cell y c e
      rw [bindC_get ndP hp hu (by show scope.names.lookup y ≠ _; rw [k]; decide)] at q
      exact q
  · exact e0.hok.fresh (Nat.le_of_lt (x.above y c (PySem.mem_of_lookup h)))
  · unfold start
    show _ = N.length
    rw [List.length_append, List.length_map, List.length_replicate]
    omega

/-- THE RULE: a def (or a method) of the text, by its body. The body's reading t is chosen for each entry; it is run at the parameters' values -/
theorem fn_of {CX : CXT} {P : Program} {w : World} {K : PySem.W.Frag} {mg : Str → Option Value} {base : Heap} {k : Nat} {f : Addr} {name qual : Str} {params : Arguments} {body : List Stmt} {scope : Scope} {dV kV doc pm cdv ct oc : Value} {an od : Option Addr}
    {osl : Array (Option Value)} {N ps : List Str} {sp : Sp} (lk : K.lookup f = some ⟨oc, od, .func (PySem.W.fnOf name qual params body scope dV kV doc pm an cdv ct), osl⟩) (hcd : PySem.W.codeIn K cdv qual = true) (S : FnScope N ps scope)
    (len : ∀ vs H Q E, sp vs H Q E → vs.length = ps.length)
    (hbody : ∀ (A : Around) (outer : List Env) (s : Shared) (H : Hp) (vs : List V) (Q : VK) (E : XK), Room k (A.deeper (envOfC qual scope s.heap.objs.size f cdv)) → sp vs H Q E →
      ∃ t, PSs (cxOf CX P w K mg base N qual scope f cdv A outer s H E) body t ∧ t { nx := fun _ H' => Q .non H', rt := Q } (start N vs) H) :
    FnOk P w K mg base CX (k + 1) f (PySem.W.fnOf name qual params body scope dV kV doc pm an cdv ct) ps sp := by
  refine ⟨len, fun A outer s H args us vs Q E hr e0 hb r hsp => ?_⟩
  have hl := len _ _ _ _ hsp
  have KX : K.In s.heap := e0.mod.kin.keeps fun b o e => (e0.bs b o e).1
  have lim : s.heap.NoLimit := e0.mod.nolimit.keeps fun b o e => (e0.bs b o e).1
  have hkind : ∀ y ∈ ps.zip us, scope.names.lookup y.1 = some .local ∨ (scope.names.lookup y.1 = some .cell ∧ ((cellsFrom (s.heap.objs.size + 1) scope.names []).lookup y.1).isSome = true) := fun ⟨n, v⟩ hy => by
    rcases S.par n (List.of_mem_zip hy).1 with q | q
    · exact .inl q
    · exact .inr ⟨q, PySem.W.cellsFrom_some _ _ _ (.inl q)⟩
  refine codeAny_call_function hr.depth (KX _ _ lk) rfl S.co S.gen rfl (PySem.W.codeRec_of KX hcd) (hb _ _ _ _ ?_)
  refine wpAny_newFunctionEnv_cells S.kind hkind fun env he s1 x => ?_
  subst he
  refine ⟨lim.keeps x.toInCall.keep, codeAny_func ?_⟩
  obtain ⟨t, ht, hq⟩ := hbody A outer s H vs Q E (hr.deeper _) hsp
  have I : Inv (cxOf CX P w K mg base N qual scope f cdv A outer s H E) [] (start N vs) H s1 := inv_start S hr.hd e0 hl r x
  refine wpAny_mono (ht [] s1 (start N vs) H _ I hq) (fun fl s' hs => ?_) fun e s' hs => hs
  have fin : ∀ {σ' : St} {H' : Hp} {v : V} {u : Value}, Inv (cxOf CX P w K mg base N qual scope f cdv A outer s H E) [] σ' H' s' → RelV v u → Q v H' → CE outer P w H s Q u s' :=
    fun {σ' H' v u} J rv q => ⟨v, H', J.os, J.bare, J.base, J.hok, rv, q⟩
  cases fl with
  | ret u =>
    obtain ⟨v, σ', H', J, rv, q⟩ := hs
    exact fin J rv q
  | next =>
    obtain ⟨σ', H', J, q⟩ := hs
    exact fin (v := V.non) (u := Value.none) J rfl q
  | brk =>
    obtain ⟨_, _, _, q⟩ := hs
    exact False.elim q
  | cont =>
    obtain ⟨_, _, _, q⟩ := hs
    exact False.elim q
end L2

namespace L2
open PySem PySem.Spec PyProof.Rows
section
variable {X : Cx} {x : Str} {p pos : Pos} {e : Expr} {es : List Expr} {t : TA} {id T : String} {r : List V → Hp → VK → Prop}

def tCB (r : List V → Hp → VK → Prop) (t : TA) : TE := fun σ H Q => t σ H fun vs H1 => r vs H1 Q
/-- f(e, ..), f a built-in function -/
theorem pe_callB (hc : CallR X (.builtin id) r) (hg : Gl X x) (hm : X.mg x = none) (hv : bootBuiltins x = some (.builtin id)) (ha : PA X (e :: es) t) (hn : x ≠ "__name__" := by decide) (hdb : (x == ("__debug__" : Str)) = false := by decide)
    (he : starEach (e :: es) X.env = (false, eval e X.env) :: starEach es X.env := by rfl) (hpl : (backTo pos (starEach es X.env)).any (·.1) = false := by rfl) : PE X (.Call (.Name x p) (e :: es) [] pos) (tCB r t) := by
  intro pins s σ H Q I h
  refine wpAny_Call_Name_kw (ld_blt I hg hm hv ?_ hn hdb)
  exact PyProof.Rows.callWith_builtin1 (thn (ha pos pins s σ H _ I h) fun us s1 ⟨vs, H1, I1, r1, q1⟩ => hc pins s1 σ H1 vs us Q I1 r1 q1) he hpl
/-- T(e, ..), T a built-in type -/
theorem pe_callTy (hc : CallR X (.type T) r) (hg : Gl X x) (hm : X.mg x = none) (hv : bootBuiltins x = some (.type T)) (ha : PA X (e :: es) t) (hn : x ≠ "__name__" := by decide) (hdb : (x == ("__debug__" : Str)) = false := by decide)
    (he : starEach (e :: es) X.env = (false, eval e X.env) :: starEach es X.env := by rfl) (hpl : (backTo pos (starEach es X.env)).any (·.1) = false := by rfl) : PE X (.Call (.Name x p) (e :: es) [] pos) (tCB r t) := by
  intro pins s σ H Q I h
  refine wpAny_Call_Name_kw (ld_blt I hg hm hv ?_ hn hdb)
  exact PyProof.Rows.callWith_type1 (thn (ha pos pins s σ H _ I h) fun us s1 ⟨vs, H1, I1, r1, q1⟩ => hc pins s1 σ H1 vs us Q I1 r1 q1) he hpl
/-- T() -/
theorem pe_callTy0 (hc : CallR X (.type T) r) (hg : Gl X x) (hm : X.mg x = none) (hv : bootBuiltins x = some (.type T)) (hn : x ≠ "__name__" := by decide) (hdb : (x == ("__debug__" : Str)) = false := by decide) :
    PE X (.Call (.Name x p) [] [] pos) (tCB r tNil) := by
  intro pins s σ H Q I h
  refine wpAny_Call_Name_kw (ld_blt I hg hm hv ?_ hn hdb)
  exact PyProof.Rows.callWith_type0 (hc pins s σ H [] [] Q I .nil h)
end
end L2

namespace HT
open PySem PyProof.Rows

/-- t < u of tuples of ints -/
def lexLt : List Int → List Int → Bool
  | [], [] => false
  | [], _ :: _ => true
  | _ :: _, [] => false
  | x :: xs, y :: ys => if x = y then lexLt xs ys else decide (x < y)
theorem lexLt_cons (x y : Int) (xs ys : List Int) : lexLt (x :: xs) (y :: ys) = if x = y then lexLt xs ys else decide (x < y) := rfl
theorem lexLt_nil_nil : lexLt [] [] = false := rfl
theorem lexLt_nil_cons (y : Int) (ys : List Int) : lexLt [] (y :: ys) = true := rfl
theorem lexLt_cons_nil (x : Int) (xs : List Int) : lexLt (x :: xs) [] = false := rfl

theorem eqAt_int (A : Around) (s : Shared) (a : Int) (t : Tok) (c : Int) (u : Tok) : ∃ e, SeqAt.EqAt A s (.int a t) (.int c u) e ∧ (e = true ↔ a = c) :=
  ⟨(a == c), SeqAt.EqAt.int_int a t c u, by simp⟩
theorem rcLt_int (A : Around) (s : Shared) (a : Int) (t : Tok) (c : Int) (u : Tok) (prog : Program) (w : World) (E : Value → Shared → Prop) (Q : Value → Shared → Prop) (h : Q (.bool (decide (a < c))) s) :
    wpAny (model prog w) A (richCompare .Lt (.int a t) (.int c u)) Q E s :=
  (PyProof.Rows.lt_int h : wpAny (model prog w) A (compareOp .Lt (.int a t) (.int c u)) Q E s)

section
open PySem.SeqAt
open PySem.AutoSeq1 (wpAny_loadPart')
open PySem.MeetsSeq PySem.MeetsSeq2 PySem.MeetsSeq3

theorem tuple_lt_ints (l b : Addr) (items items2 : Array Value) (n n2 : Nat) (dd dd2 : Option Addr) (sl sl2 : Array (Option Value)) (ns ms : List Int) (hi : IntsAre items.toList ns) (hj : IntsAre items2.toList ms) :
    Meets (Builtin.«tuple.__lt__» ⟨[.ref l, .ref b], []⟩)
      (fun _ R s => s.heap.get? l = some { cls := .type "tuple", dict := dd, data := .seq items n, slots := sl } ∧ s.heap.get? b = some { cls := .type "tuple", dict := dd2, data := .seq items2 n2, slots := sl2 } ∧
        R (.ok (.ret (.bool (lexLt ns ms)))) s) :=
  .of_wp fun prog w A R s h => by
    obtain ⟨hp, g, d, tk, os⟩ := s; obtain ⟨hl, hb, h⟩ := h
    have f2 := AutoSeq1.sub_tuple_tuple
    have z1 : items.size = ns.length := by rw [← hi.length]; simp
    have z2 : items2.size = ms.length := by rw [← hj.length]; simp
    wp_walk using wpAny_loadPart' hl, wpAny_loadPart' hb, wpAny_forIn_list _ (fun rest b s' => b.1 = none ∧ s' = ⟨hp, g, d, tk, os⟩ ∧ ∃ (vs ws : List Value) (ns' ms' : List Int), rest = vs.zip ws ∧
      IntsAre vs ns' ∧ IntsAre ws ms' ∧ ns'.length + items2.size = ms'.length + items.size ∧ R (.ok (.ret (.bool (lexLt ns' ms')))) ⟨hp, g, d, tk, os⟩) _
    case turn =>
      rintro ⟨y, x⟩ rest b s' ⟨hb', rfl, vs, ws, ns', ms', hz, hvi, hwi, hlen, hR⟩
      cases hvi with
      | nil => rw [List.zip_nil_left] at hz; cases hz
      | cons a t hvi' =>
        cases hwi with
        | nil => rw [List.zip_nil_right] at hz; cases hz
        | cons c u hwi' =>
          rw [List.zip_cons_cons] at hz
          injection hz with hyx hrest
          injection hyx with hy hx
          subst hy hx
          rw [lexLt_cons] at hR
          simp only [List.length_cons] at hlen
          obtain ⟨e, he, hiff⟩ := eqAt_int A.in1 ⟨hp, g, d, tk, os⟩ a t c u
          refine wpAny_bind (he prog w _ _ ?_)
          cases e with
          | true =>
            rw [if_pos (hiff.mp rfl)] at hR
            wp_walk
            exact ⟨rfl, rfl, _, _, _, _, hrest, hvi', hwi', by omega, hR⟩
          | false =>
            rw [if_neg (fun q => absurd (hiff.mpr q) Bool.false_ne_true)] at hR
            have hri := rcLt_int A.in1 ⟨hp, g, d, tk, os⟩ a t c u prog w
            wp_walk using hri
            exact ⟨_, rfl, by simpa using hR⟩
    case fin =>
      rintro ⟨b1, b2⟩ s' ⟨hb', rfl, vs, ws, ns', ms', hz, hvi, hwi, hlen, hR⟩
      simp only at hb'
      subst hb'
      have hv : lexLt ns' ms' = decide (items.size < items2.size) := by
        cases hvi with
        | nil =>
          cases hwi with
          | nil =>
            simp only [List.length_nil] at hlen
            rw [lexLt_nil_nil]
            exact (decide_eq_false (by omega)).symm
          | cons c u hw =>
            simp only [List.length_nil, List.length_cons] at hlen
            rw [lexLt_nil_cons]
            exact (decide_eq_true (by omega)).symm
        | cons a t hv =>
          cases hwi with
          | nil =>
            simp only [List.length_nil, List.length_cons] at hlen
            rw [lexLt_cons_nil]
            exact (decide_eq_false (by omega)).symm
          | cons c u hw =>
            rw [List.zip_cons_cons] at hz
            cases hz
      rw [hv] at hR
      wp_walk
      exact ⟨_, rfl, by simpa [Builtin.Tuple.tupleCompareSizes] using hR⟩
    case h =>
      exact ⟨rfl, rfl, items.toList, items2.toList, ns, ms, rfl, hi, hj, by omega, h⟩
end

section
variable {prog : Program} {w : World} {A : Around} {E : Value → Shared → Prop} {s : Shared}

theorem lt_tupInts {l b : Addr} {items items2 : Array Value} {ns ms : List Int} {Q : Value → Shared → Prop} (hl : IsTup s.heap l items) (hb : IsTup s.heap b items2) (hi : IntsAre items.toList ns) (hj : IntsAre items2.toList ms)
    (hu : A.units < cLine) (h : Q (.bool (lexLt ns ms)) s) : wpAny (model prog w) A (compareOp .Lt (.ref l) (.ref b)) Q E s := by
  obtain ⟨⟨cls, dd, data, sl⟩, ho, hc, n, hd⟩ := id hl
  obtain ⟨⟨cls2, dd2, data2, sl2⟩, ho2, hc2, n2, hd2⟩ := id hb
  simp only at hc hd hc2 hd2
  subst hc hd hc2 hd2
  exact richCompare_meets_room (op := .Lt) ⟨_, ho, rfl⟩ ⟨_, ho2, rfl⟩ PySem.F.slot_tuple_lt PySem.F.entry_tuple_lt (PySem.F.args_tuple_lt_2 _ _) (tuple_lt_ints l b items items2 n n2 dd dd2 sl sl2 ns ms hi hj)
    ⟨ho, ho2, show Value.bool (lexLt ns ms) ≠ Value.notImplemented ∧ Q (.bool (lexLt ns ms)) s from ⟨(fun x => nomatch x), h⟩⟩ hu

/-- t + u, t not empty -/
theorem cat_tup {t b : Addr} {vs ws : List Value} {Q : Value → Shared → Prop} (ht : IsTup s.heap t vs.toArray) (hb : IsTup s.heap b ws.toArray) (hv : vs ≠ [])
    (h1 : ws = [] → Q (.ref t) s) (h2 : ws ≠ [] → Q (.ref s.heap.objs.size) { s with heap := s.heap.push { cls := .type "tuple", data := .seq (vs ++ ws).toArray } })
    (hsz : vs.length + ws.length ≤ sizeLine) : wpAny (model prog w) A (binaryOp .Add (.ref t) (.ref b)) Q E s := by
  obtain ⟨⟨cls, dd, data, sl⟩, ho, hc, n, hd⟩ := id ht
  obtain ⟨⟨cls2, dd2, data2, sl2⟩, ho2, hc2, n2, hd2⟩ := id hb
  simp only at hc hd hc2 hd2
  subst hc hd hc2 hd2
  have e : vs.toArray ++ ws.toArray = (vs ++ ws).toArray := by simp
  by_cases hw : ws = []
  · exact concat_meets ⟨_, ho, rfl⟩ ⟨_, ho2, rfl⟩ noFill_tuple_add seq_tuple_add PySem.F.slot_tuple_add PySem.F.entry_tuple_add (PySem.F.args_tuple_add_2 _ _)
      (tuple_addW1 t b vs.toArray ws.toArray n n2 dd dd2 sl sl2 (by simpa using hv) (by simp [hw])) ⟨ho, ho2, h1 hw⟩
  · refine concat_meets ⟨_, ho, rfl⟩ ⟨_, ho2, rfl⟩ noFill_tuple_add seq_tuple_add PySem.F.slot_tuple_add PySem.F.entry_tuple_add (PySem.F.args_tuple_add_2 _ _)
      (tuple_addW2 t b vs.toArray ws.toArray n n2 dd dd2 sl sl2 (by simpa using hv) (by simpa using hw) (by rw [List.size_toArray, List.size_toArray]; exact hsz)) ⟨ho, ho2, ?_⟩
    rw [e]
    exact h2 hw

/-! ### t[a:b], not the whole -/
/-- a slice's bound as a place among n (d where it is left out) -/
def sIx (n d : Nat) : Option Int → Nat
  | none => d
  | some v => if v < 0 then (v + (n : Int)).toNat else min v.toNat n
theorem sIx_none (n d : Nat) : sIx n d none = d := rfl
theorem sIx_nat (n d k : Nat) : sIx n d (some (k : Int)) = min k n := by
  show (if (k : Int) < 0 then ((k : Int) + (n : Int)).toNat else min (k : Int).toNat n) = min k n
  rw [if_neg (by omega), Int.toNat_natCast]
theorem sIx_le (n d : Nat) (hd : d ≤ n) (o : Option Int) : sIx n d o ≤ n := by
  cases o with
  | none => exact hd
  | some v =>
    show (if v < 0 then (v + (n : Int)).toNat else min v.toNat n) ≤ n
    by_cases hv : v < 0
    · rw [if_pos hv]; omega
    · rw [if_neg hv]; exact Nat.min_le_right _ _
theorem clip_eq (v : Int) (n d : Nat) : (if v < 0 then max (v + (n : Int)) 0 else min v (n : Int)) = ((sIx n d (some v) : Nat) : Int) := by
  show (if v < 0 then max (v + (n : Int)) 0 else min v (n : Int)) = (((if v < 0 then (v + (n : Int)).toNat else min v.toNat n) : Nat) : Int)
  by_cases hv : v < 0
  · simp only [if_pos hv]; omega
  · simp only [if_neg hv]; omega
theorem adjust_gen (lo hi : Option Int) (n : Nat) : Builtin.Slice.sliceAdjust lo hi 1 (n : Int) = (((sIx n 0 lo : Nat) : Int), ((sIx n n hi : Nat) : Int)) := by
  have h1 : ¬ ((1 : Int) < 0) := by omega
  unfold Builtin.Slice.sliceAdjust
  simp only [h1, if_false]
  refine Prod.ext ?_ ?_
  · cases lo with
    | none => rfl
    | some v => exact clip_eq v n 0
  · cases hi with
    | none => rfl
    | some v => exact clip_eq v n n
theorem places_gen (i j : Nat) : Builtin.Slice.slicePlaces (i : Int) (j : Int) 1 = j - i := by
  unfold Builtin.Slice.slicePlaces
  have h1 : (1 : Int) > 0 := by omega
  simp only [h1, if_true, Int.ediv_one]
  split <;> omega
theorem slicePart_ {v : Value} {o : Option Int} {Q : Option Int → Shared → Prop} (p : IsPart v o) (h : Q o s) : wpAny (model prog w) A (Builtin.Slice.slicePartIndex v) Q E s := by
  cases p with
  | none => exact slicePart_none h
  | int i t => exact slicePart_int h
theorem sliceApplied_gen {sl : Addr} {vl vu : Value} {lo hi : Option Int} {n : Nat} {Q : Int × Int × Nat → Shared → Prop} (hs : s.heap.IsSliceOf sl vl vu .none) (pl : IsPart vl lo) (pu : IsPart vu hi)
    (h : Q (((sIx n 0 lo : Nat) : Int), 1, sIx n n hi - sIx n 0 lo) s) : wpAny (model prog w) A (Builtin.Slice.sliceApplied (.ref sl) (pure (n : Int))) Q E s := by
  obtain ⟨os, hos, hcs, hds⟩ := id hs
  unfold Builtin.Slice.sliceApplied Builtin.Slice.sliceFields
  refine wpAny_bind (wpAny_bind (wpAny_field hos hds (x := vl) rfl (wpAny_bind (wpAny_field hos hds (x := vu) rfl (wpAny_bind (wpAny_field hos hds (x := .none) rfl (wpAny_pure ?_)))))))
  refine wpAny_bind (slicePart_none ?_)
  show wpAny _ _ (if ((1 : Int) == 0) = true then _ else _) _ _ s
  rw [if_neg (by decide)]
  refine wpAny_bind (slicePart_ pl (wpAny_bind (slicePart_ pu (wpAny_bind (wpAny_pure ?_)))))
  show wpAny _ _ (match Builtin.Slice.sliceAdjust lo hi 1 (n : Int) with | (lo, hi) => pure (lo, (1 : Int), Builtin.Slice.slicePlaces lo hi 1)) _ _ s
  rw [adjust_gen lo hi n]
  show wpAny _ _ (pure (((sIx n 0 lo : Nat) : Int), (1 : Int), Builtin.Slice.slicePlaces ((sIx n 0 lo : Nat) : Int) ((sIx n n hi : Nat) : Int) 1)) _ _ s
  rw [places_gen]
  exact wpAny_pure h
theorem pick_gen (xs : Array Value) (i k : Nat) : ((List.range k).filterMap fun (m : Nat) => xs[((i : Int) + (m : Int) * 1).toNat]?).toArray = ((xs.toList.drop i).take k).toArray := by
  have e : (fun (m : Nat) => xs[((i : Int) + (m : Int) * 1).toNat]?) = fun m => xs[i + m]? := by
    funext m
    have : ((i : Int) + (m : Int) * 1).toNat = i + m := by omega
    rw [this]
  rw [e]
  have := pick_run xs i k
  rw [List.filterMap_map] at this
  have e2 : ((fun x => xs[x]?) ∘ fun x => i + x) = fun m => xs[i + m]? := rfl
  rw [e2] at this
  rw [this]

theorem getItem_tuple_cut {t sl : Addr} {items : Array Value} {vl vu : Value} {lo hi : Option Int} {Q : Value → Shared → Prop} (ht : IsTup s.heap t items) (hs : s.heap.IsSliceOf sl vl vu .none) (pl : IsPart vl lo) (pu : IsPart vu hi)
    (hw : ¬ (sIx items.size 0 lo = 0 ∧ sIx items.size items.size hi = items.size))
    (h : Q (.ref s.heap.objs.size) { s with heap := s.heap.push { cls := .type "tuple", data := .seq ((items.toList.drop (sIx items.size 0 lo)).take (sIx items.size items.size hi - sIx items.size 0 lo)).toArray } })
    (hsz : items.size ≤ sizeLine) : wpAny (model prog w) A (getItem (.ref t) (.ref sl)) Q E s := by
  have htake : sizeOk (.seq ((items.toList.drop (sIx items.size 0 lo)).take (sIx items.size items.size hi - sIx items.size 0 lo)).toArray) := by
    show ((items.toList.drop (sIx items.size 0 lo)).take (sIx items.size items.size hi - sIx items.size 0 lo)).toArray.size ≤ sizeLine
    rw [List.size_toArray, List.length_take, List.length_drop, Array.length_toList]
    omega
  have hj : sIx items.size items.size hi ≤ items.size := sIx_le _ _ (Nat.le_refl _) hi
  obtain ⟨os, hos, hcs, hds⟩ := id hs
  have hTs : s.TypeIs (.ref sl) "slice" := ⟨os, hos, hcs⟩
  unfold getItem
  try with_reducible refine wpAny_holding ?_
  first | refine wpAny_bind (wpAny_pure ?_) | skip
  refine wpAny_bind (wpAny_sequenceKey ht.typeIs (by decide) ?_)
  refine wpAny_bind (wpAny_callSpecial?_slot (name := Str.ofString "__getitem__") ht.typeIs PyProof.Rows.slot_tuple_getitem
    (wpAny_call_entry PyProof.Rows.slot_tuple_getitem ht.typeIs entry_tuple_getitem ?_ (args_tuple_getitem _ _)))
  show wpAny _ _ (Builtin.Tuple.tupleItemsOf (.ref t) >>= _) _ _ s
  refine wpAny_bind (tupleItemsOf_ ht ?_)
  refine wpAny_bind (wpAny_typeOf hTs ?_)
  rw [if_pos (by decide)]
  refine wpAny_bind (sliceApplied_gen hs pl pu ?_)
  have hno : ¬ ((((sIx items.size 0 lo : Nat) : Int) == 0 && (1 : Int) == 1 && (sIx items.size items.size hi - sIx items.size 0 lo) == items.size) = true) := by
    intro q
    rw [Bool.and_eq_true, Bool.and_eq_true] at q
    have q1 : ((sIx items.size 0 lo : Nat) : Int) = 0 := eq_of_beq q.1.1
    have q2 : sIx items.size items.size hi - sIx items.size 0 lo = items.size := eq_of_beq q.2
    exact hw ⟨by omega, by omega⟩
  show wpAny _ _ (if (((sIx items.size 0 lo : Nat) : Int) == 0 && (1 : Int) == 1 && (sIx items.size items.size hi - sIx items.size 0 lo) == items.size) = true then _ else _) _ _ s
  rw [if_neg hno, pick_gen]
  first
    | exact wpAny_bind (m := Builtin.Tuple.tupleExact _) (wpAny_newObj_type (wpAny_pure ⟨_, rfl, wpAny_pure h⟩) htake)
    | exact wpAny_bind (m := Builtin.Tuple.tupleExact _) (wpAny_newObj_type (wpAny_bind (wpAny_pure (wpAny_pure ⟨_, rfl, wpAny_pure h⟩))) htake)
    | exact wpAny_bind (wpAny_bind (m := Builtin.Tuple.tupleExact _) (wpAny_newObj_type (wpAny_pure (wpAny_pure ⟨_, rfl, wpAny_pure h⟩)) htake))
    | exact wpAny_bind (wpAny_bind (m := Builtin.Tuple.tupleExact _) (wpAny_newObj_type (wpAny_pure ⟨_, rfl, wpAny_pure h⟩) htake))
end
end HT

namespace L2
open PySem PySem.Spec PyProof.Rows

/-! ### the parts of a slice -/
abbrev TO := St → Hp → (Option Int → Hp → Prop) → Prop
/-- a slice's part (left out, or an int) -/
def PO (X : Cx) (e : Option Expr) (t : TO) : Prop :=
  ∀ (pins : List (Addr × Obj)) (s : Shared) (σ : St) (H : Hp) (Q : Option Int → Hp → Prop), Inv X pins σ H s → t σ H Q →
    wpAny (model X.prog X.w) X.A (evalPart e X.env) (fun u s' => ∃ o H', Inv X pins σ H' s' ∧ IsPart u o ∧ Q o H') X.xe s
def tNoPart : TO := fun _ H Q => Q none H
def tPart (t : TE) : TO := fun σ H Q => t σ H fun x H1 => ∃ i, x = .int i ∧ Q (some i) H1

theorem intsAre_of {ns : List Int} : ∀ {us : List Value}, Vals (ns.map V.int) us → IntsAre us ns := by
  induction ns with
  | nil => intro us r; rw [List.map_nil] at r; cases r; exact .nil
  | cons n ns ih =>
    intro us r
    rw [List.map_cons] at r
    cases r with
    | cons r1 r2 =>
      obtain ⟨t, e⟩ := r1
      subst e
      exact .cons n t (ih r2)

section
variable {X : Cx} {e : Expr} {te : TE} {lo hi : Option Expr} {tl th : TO} {pos p2 : Pos}

theorem po_none : PO X none tNoPart := by
  intro pins s σ H Q I h
  rw [evalPart_none]
  exact wpAny_pure ⟨none, H, I, .none, h⟩
theorem po_some (h : PE X e te) : PO X (some e) (tPart te) := by
  intro pins s σ H Q I hw
  rw [evalPart_some]
  refine thn (h pins s σ H _ I hw) fun u s1 ⟨x, H1, I1, r1, q1⟩ => ?_
  obtain ⟨i, rfl, q⟩ := q1
  obtain ⟨t, rfl⟩ := r1
  exact ⟨some i, H1, I1, .int i t, q⟩

/-- what a slice of a value is, by values: the slice object stands at sl -/
def SlR (X : Cx) (r : V → Option Int → Option Int → Hp → VK → Prop) : Prop :=
  ∀ (pins : List (Addr × Obj)) (s : Shared) (σ : St) (H : Hp) (x : V) (v vl vu : Value) (lo hi : Option Int) (sl : Addr) (Q : VK), Inv X pins σ H s → RelV x v → s.heap.IsSliceOf sl vl vu .none → IsPart vl lo → IsPart vu hi → r x lo hi H Q →
    ∃ T id, typeLookup (.type T) "__getitem__" = pure (some (.builtin id)) ∧ s.TypeIs v T ∧ wpAny (model X.prog X.w) X.A (getItem v (.ref sl)) (EP X pins σ Q) X.xe s
theorem SlR.or {r r' : V → Option Int → Option Int → Hp → VK → Prop} (h : SlR X r) (h' : SlR X r') : SlR X (fun x lo hi H Q => r x lo hi H Q ∨ r' x lo hi H Q) := by
  intro pins s σ H x v vl vu lo hi sl Q I rx hs pl pu q
  rcases q with q | q
  · exact h pins s σ H x v vl vu lo hi sl Q I rx hs pl pu q
  · exact h' pins s σ H x v vl vu lo hi sl Q I rx hs pl pu q
def tSl (r : V → Option Int → Option Int → Hp → VK → Prop) (te : TE) (tl th : TO) : TE := fun σ H Q => te σ H fun x H1 => tl σ H1 fun l H2 => th σ H2 fun u H3 => r x l u H3 Q
/-- a[lo:hi], any a -/
theorem pe_slice {r : V → Option Int → Option Int → Hp → VK → Prop} (hr : SlR X r) (he : PE X e te) (hl : PO X lo tl) (hu : PO X hi th) : PE X (.Subscript e (.Slice lo hi none p2) pos) (tSl r te tl th) := by
  intro pins s σ H Q I h
  refine Subscript_ (thn (he pins s σ H _ I h) fun v s1 ⟨x, H1, I1, r1, q1⟩ => ?_)
  refine wpAny_Slice (thn (hl pins s1 σ H1 _ I1 q1) fun vl s2 ⟨l, H2, I2, pl, q2⟩ => thn (hu pins s2 σ H2 _ I2 q2) fun vu s3 ⟨u, H3, I3, pu, q3⟩ => ?_)
  rw [evalPart_none]
  refine wpAny_pure ?_
  have I4 : Inv X pins σ H3 { s3 with heap := s3.heap.push { cls := .type "slice", data := .fields #[vl, vu, .none] } } := I3.kept (t' := s3.toks) fun b ob q => Heap.get?_push_of_some _ q
  obtain ⟨T, id, hT, ht, hg⟩ := hr pins { s3 with heap := s3.heap.push { cls := .type "slice", data := .fields #[vl, vu, .none] } } σ H3 x v vl vu l u s3.heap.objs.size Q I4 r1 (Heap.IsSliceOf.new ..) pl pu q3
  show wpAny (model X.prog X.w) X.A (subscriptTail e (.Slice lo hi none p2) v (.ref s3.heap.objs.size)) (EP X pins σ Q) X.xe { s3 with heap := s3.heap.push { cls := .type "slice", data := .fields #[vl, vu, .none] } }
  exact tail_any (ops := [.ref s3.heap.objs.size, v]) ht hT hg (by with_unfolding_all rfl)

/-- the items of xs[lo:hi] -/
def cutV (xs : List V) (lo hi : Option Int) : List V := (xs.drop (HT.sIx xs.length 0 lo)).take (HT.sIx xs.length xs.length hi - HT.sIx xs.length 0 lo)
theorem cutV_length (xs : List V) (lo hi : Option Int) : (cutV xs lo hi).length ≤ xs.length := by
  unfold cutV
  rw [List.length_take, List.length_drop]
  omega
/-- t[lo:hi], not the whole of it (the whole would be t itself) -/
def rSlT (K : PySem.W.Frag) : V → Option Int → Option Int → Hp → VK → Prop := fun x lo hi H Q => ∃ a xs, x = .ref a ∧ SqT K H a xs ∧
  ¬ (HT.sIx xs.length 0 lo = 0 ∧ HT.sIx xs.length xs.length hi = xs.length) ∧ ∀ p, H p = none → Q (.ref p) (upd H p (.tup (cutV xs lo hi)))
theorem sl_tup : SlR X (rSlT X.K) := by
  intro pins s σ H x v vl vu lo hi sl Q I rx hs pl pu h
  obtain ⟨a, xs, rfl, hx, hw, q⟩ := h
  cases rx
  obtain ⟨its, r, ht, hz⟩ := I.tuple hx
  have hlen : its.toArray.size = xs.length := by rw [List.size_toArray]; exact r.length.symm
  refine ⟨"tuple", _, PyProof.Rows.slot_tuple_getitem.lookup, ht.typeIs, ?_⟩
  refine HT.getItem_tuple_cut ht hs pl pu (by rw [hlen]; exact hw) ?_ (by rw [hlen]; exact hz)
  rw [hlen]
  refine ⟨.ref s.heap.objs.size, _, I.laid (t' := s.toks) (o := .tup (cutV xs lo hi)) (fun b ob q => Heap.get?_push_of_some _ q) (Nat.le_refl _) ?_, rfl, q _ (I.hok.fresh (Nat.le_refl _))⟩
  exact ⟨Nat.le_trans (cutV_length xs lo hi) hz, _, (r.drop (HT.sIx xs.length 0 lo)).take (HT.sIx xs.length xs.length hi - HT.sIx xs.length 0 lo), IsTup.new _ _⟩

/-! ### t < u, t + u -/
def rLtT (K : PySem.W.Frag) : R2 := fun x y H Q => ∃ a b ns ms, x = .ref a ∧ y = .ref b ∧ SqT K H a (ns.map V.int) ∧ SqT K H b (ms.map V.int) ∧ Q (.bl (HT.lexLt ns ms)) H
theorem op_ltT (hu : X.A.units < cLine) : OpR X (compareOp .Lt) (rLtT X.K) := by
  intro pins s σ H x y v u Q I rx ry h
  obtain ⟨a, b, ns, ms, rfl, rfl, ha, hb, q⟩ := h
  cases rx
  cases ry
  obtain ⟨its, r1, p1, _⟩ := I.tuple ha
  obtain ⟨its2, r2, p2, _⟩ := I.tuple hb
  have i1 : IntsAre its.toArray.toList ns := intsAre_of r1
  have i2 : IntsAre its2.toArray.toList ms := intsAre_of r2
  exact HT.lt_tupInts p1 p2 i1 i2 hu ⟨.bl (HT.lexLt ns ms), H, I, rfl, q⟩
/-- t + u, t not empty: u empty gives t itself -/
def rCatT (K : PySem.W.Frag) : R2 := fun x y H Q => ∃ a b xs ys, x = .ref a ∧ y = .ref b ∧ SqT K H a xs ∧ SqT K H b ys ∧ xs ≠ [] ∧ xs.length + ys.length ≤ sizeLine ∧
  (ys = [] → Q (.ref a) H) ∧ (ys ≠ [] → ∀ p, H p = none → Q (.ref p) (upd H p (.tup (xs ++ ys))))
theorem Vals.nil_iff {xs : List V} {us : List Value} (r : Vals xs us) : us = [] ↔ xs = [] := by
  cases r with
  | nil => simp
  | cons _ _ => simp
theorem op_catT : OpR X (binaryOp .Add) (rCatT X.K) := by
  intro pins s σ H x y v u Q I rx ry h
  obtain ⟨a, b, xs, ys, rfl, rfl, ha, hb, hx, hz, q1, q2⟩ := h
  cases rx
  cases ry
  obtain ⟨its, r1, p1, _⟩ := I.tuple ha
  obtain ⟨its2, r2, p2, _⟩ := I.tuple hb
  refine HT.cat_tup p1 p2 (fun z => hx (r1.nil_iff.mp z)) (fun z => ⟨.ref a, H, I, rfl, q1 (r2.nil_iff.mp z)⟩) (fun z => ?_) (by rw [← r1.length, ← r2.length]; exact hz)
  refine ⟨.ref s.heap.objs.size, _, I.laid (t' := s.toks) (o := .tup (xs ++ ys)) (fun b ob q => Heap.get?_push_of_some _ q) (Nat.le_refl _) ?_, rfl, q2 (fun w => z (r2.nil_iff.mpr w)) _ (I.hok.fresh (Nat.le_refl _))⟩
  exact ⟨by rw [List.length_append]; exact hz, _, r1.append r2, IsTup.new _ _⟩
/-- tuple(t) -/
theorem call_tupleT : CallR X (.type "tuple") (fun xs H Q => ∃ a ys, xs = [.ref a] ∧ SqT X.K H a ys ∧ Q (.ref a) H) := by
  intro pins s σ H xs us Q I r h
  obtain ⟨a, ys, rfl, ha, q⟩ := h
  obtain ⟨u, rfl, ru⟩ := vals1 r
  cases ru
  obtain ⟨its, _, p1, _⟩ := I.tuple ha
  exact call_tuple_same (items := its.toArray) p1 ⟨.ref a, H, I, rfl, q⟩
end
end L2

namespace L2
open PySem PySem.Spec PyProof.Rows

/-! ### places -/
/-- the place that an index of any sign means -/
def ixN (n : Nat) (i : Int) : Option Nat := if 0 ≤ i then (if i < n then some i.toNat else none) else if -(n : Int) ≤ i then some (i + n).toNat else none
def atI {α : Type} (xs : List α) (i : Int) : Option α := (ixN xs.length i).bind fun j => xs[j]?
theorem ixN_seq {n : Nat} {i : Int} {j : Nat} (h : ixN n i = some j) : seqIndex? i n = some j ∧ j < n ∧ -(n : Int) ≤ i ∧ i < n := by
  unfold ixN at h
  by_cases h0 : 0 ≤ i
  · rw [if_pos h0] at h
    by_cases h1 : i < n
    · rw [if_pos h1] at h
      have e : i.toNat = j := Option.some.inj h
      exact ⟨by rw [seqIndex_of h0 h1, e], by omega, by omega, h1⟩
    · rw [if_neg h1] at h; cases h
  · rw [if_neg h0] at h
    by_cases h1 : -(n : Int) ≤ i
    · rw [if_pos h1] at h
      have e : (i + n).toNat = j := Option.some.inj h
      exact ⟨by rw [seqIndex_neg (by omega) h1, e], by omega, h1, by omega⟩
    · rw [if_neg h1] at h; cases h
theorem atI_get {α : Type} {xs : List α} {i : Int} {v : α} (h : atI xs i = some v) : ∃ j, seqIndex? i xs.length = some j ∧ xs[j]? = some v ∧ j < xs.length ∧ -(xs.length : Int) ≤ i ∧ i < xs.length := by
  unfold atI at h
  cases e : ixN xs.length i with
  | none => rw [e] at h; cases h
  | some j =>
    rw [e] at h
    obtain ⟨h1, h2, h3, h4⟩ := ixN_seq e
    exact ⟨j, h1, h, h2, h3, h4⟩
theorem atI_nat {α : Type} {xs : List α} {j : Nat} {v : α} (h : xs[j]? = some v) : atI xs (j : Int) = some v := by
  have hj : j < xs.length := (List.getElem?_eq_some_iff.mp h).1
  have e : ixN xs.length (j : Int) = some j := by
    unfold ixN
    rw [if_pos (by omega), if_pos (by omega)]; simp
  unfold atI; rw [e]; exact h
theorem atI_last {α : Type} (xs : List α) (v : α) : atI (xs ++ [v]) (-1) = some v := by
  have hl : (xs ++ [v]).length = xs.length + 1 := by simp
  have e : ixN (xs ++ [v]).length (-1) = some xs.length := by
    unfold ixN
    rw [hl, if_neg (by decide), if_pos (by omega)]
    congr 1
    omega
  unfold atI
  rw [e]
  show (xs ++ [v])[xs.length]? = some v
  simp

/-! ### what may be subscripted -/
/-- what stands as an index of a plain subscript -/
def PlainIx (b : Expr) : Prop := ∀ o i, subscripted b false o i = operate [o, i] (getItem o i)
/-- a subscript by values -/
def IxR (X : Cx) (r : R2) : Prop :=
  ∀ (value slice : Expr) (pins : List (Addr × Obj)) (s : Shared) (σ : St) (H : Hp) (x y : V) (v u : Value) (Q : VK), Inv X pins σ H s → RelV x v → RelV y u → r x y H Q →
    subscripted slice false v u = operate [v, u] (getItem v u) → wpAny (model X.prog X.w) X.A (subscriptTail value slice v u) (EP X pins σ Q) X.xe s
/-- a call of a builtin's method by values: the receiver, the arguments -/
def MtR (X : Cx) (id : String) (r : V → List V → Hp → VK → Prop) : Prop :=
  ∀ (pins : List (Addr × Obj)) (s : Shared) (σ : St) (H : Hp) (x : V) (xs : List V) (v : Value) (us : List Value) (Q : VK), Inv X pins σ H s → RelV x v → Vals xs us → r x xs H Q →
    wpAny (model X.prog X.w) X.A (call (.builtin id) (v :: us)) (EP X pins σ Q) X.xe s
section
variable {X : Cx} {a b : Expr} {ta tb : TE} {pos : Pos}
theorem IxR.or {r r' : R2} (h : IxR X r) (h' : IxR X r') : IxR X (fun x y H Q => r x y H Q ∨ r' x y H Q) := by
  intro value slice pins s σ H x y v u Q I rx ry q hs
  rcases q with q | q
  · exact h value slice pins s σ H x y v u Q I rx ry q hs
  · exact h' value slice pins s σ H x y v u Q I rx ry q hs
theorem MtR.or {id : String} {r r' : V → List V → Hp → VK → Prop} (h : MtR X id r) (h' : MtR X id r') : MtR X id (fun x xs H Q => r x xs H Q ∨ r' x xs H Q) := by
  intro pins s σ H x xs v us Q I rx rs q
  rcases q with q | q
  · exact h pins s σ H x xs v us Q I rx rs q
  · exact h' pins s σ H x xs v us Q I rx rs q
/-- a[b] -/
theorem pe_ix {r : R2} (hr : IxR X r) (ha : PE X a ta) (hb : PE X b tb) (hs : PlainIx b) : PE X (.Subscript a b pos) (tOp r ta tb) := by
  intro pins s σ H Q I h
  exact Subscript_ (binT ha hb I h fun v u s2 x y H2 I2 rx ry q => hr a b pins s2 σ H2 x y v u Q I2 rx ry q (hs _ _))

def rIxL (K : PySem.W.Frag) : R2 := fun x y H Q => ∃ p xs i v, x = .ref p ∧ y = .int i ∧ SqL K H p xs ∧ atI xs i = some v ∧ Q v H
def rIxT (K : PySem.W.Frag) : R2 := fun x y H Q => ∃ p xs i v, x = .ref p ∧ y = .int i ∧ SqT K H p xs ∧ atI xs i = some v ∧ Q v H
def rIxS : R2 := fun x y H Q => ∃ z i c, x = .str z ∧ y = .int i ∧ z.length ≤ sizeLine ∧ atI z.cps.toList i = some c ∧ Q (.str ⟨#[c]⟩) H
theorem ix_list : IxR X (rIxL X.K) := by
  intro value slice pins s σ H x y v u Q I rx ry h hs
  obtain ⟨p, xs, i, z, rfl, rfl, hq, he, q⟩ := h
  cases rx
  obtain ⟨t, rfl⟩ := ry
  obtain ⟨its, r, pl, hz⟩ := I.list hq
  obtain ⟨j, h1, h2, h3, h4, h5⟩ := atI_get he
  obtain ⟨w, ew, rw'⟩ := r.get h2
  have hl := r.length
  have hn := line63
  have fin : EP X pins σ Q w s := ⟨z, H, I, rw', q⟩
  by_cases h0 : 0 ≤ i
  · have hj : i.toNat = j := by
      rw [seqIndex_of h0 h5] at h1
      exact Option.some.inj h1
    exact item_listR pl.isList h0 (by omega) (by rw [hj]; simpa using ew) fin hs
  · have hj : (i + (its.toArray.size : Int)).toNat = j := by
      rw [seqIndex_neg (by omega) h4] at h1
      rw [List.size_toArray, ← hl]
      exact Option.some.inj h1
    exact subscriptTail_builtinR (x := w) pl.isList.typeIs slot_list_getitem.lookup
      (wpAny_getItem_list_neg (Q := fun r s' => r = w ∧ EP X pins σ Q r s') pl.isList (by omega) (by rw [List.size_toArray] <;> omega) (by omega) (by rw [hj]; simpa using ew) ⟨rfl, fin⟩) hs
theorem ix_tup : IxR X (rIxT X.K) := by
  intro value slice pins s σ H x y v u Q I rx ry h hs
  obtain ⟨p, xs, i, z, rfl, rfl, hq, he, q⟩ := h
  cases rx
  obtain ⟨t, rfl⟩ := ry
  obtain ⟨its, r, pl, hz⟩ := I.tuple hq
  obtain ⟨j, h1, h2, h3, h4, h5⟩ := atI_get he
  obtain ⟨w, ew, rw'⟩ := r.get h2
  have hl := r.length
  have hn := line63
  have fin : EP X pins σ Q w s := ⟨z, H, I, rw', q⟩
  exact subscriptTail_builtinR (x := w) pl.typeIs slot_tuple_getitem.lookup
    (getItem_tuple (j := j) (Q := fun r s' => r = w ∧ EP X pins σ Q r s') pl (by omega) (by omega) (by rw [List.size_toArray, ← hl]; exact h1) (by simpa using ew) ⟨rfl, fin⟩) hs
theorem ix_str : IxR X rIxS := by
  intro value slice pins s σ H x y v u Q I rx ry h hs
  obtain ⟨z, i, c, rfl, rfl, hz, he, q⟩ := h
  obtain ⟨t, rfl⟩ := rx
  obtain ⟨t', rfl⟩ := ry
  obtain ⟨j, h1, h2, h3, h4, h5⟩ := atI_get he
  have hl : z.cps.toList.length = z.length := by simp [Str.length]
  rw [hl] at h1 h4 h5
  have hn := line63
  exact tail_any (typeIs_str s z t) slot_str_getitem.lookup (getItem_str (c := c) (by
    have e1 : decide (i < -(2 ^ 63 : Int)) = false := decide_eq_false (by omega)
    have e2 : decide (i ≥ 2 ^ 63) = false := decide_eq_false (by omega)
    rw [e1, e2, Bool.or_false]) (by rw [h1]; simpa using h2) ⟨.str ⟨#[c]⟩, H, I.tok _, ⟨_, rfl⟩, q⟩) hs
/-- list, tuple or str -/
def rIx (K : PySem.W.Frag) : R2 := fun x y H Q => rIxL K x y H Q ∨ rIxT K x y H Q ∨ rIxS x y H Q
theorem ix_seq : IxR X (rIx X.K) := ix_list.or (ix_tup.or ix_str)

/-! ### xs[i] = v, any sign -/
/-- the list's object behind a store -/
theorem mapSeq_set (its : List Value) (n j : Nat) (u : Value) : Obj.mapSeq (·.setIfInBounds j u) { cls := .type "list", data := .seq its.toArray n } = { cls := .type "list", data := .seq (its.set j u).toArray n } := by
  simp [Obj.mapSeq]
theorem Inv.lst {pins : List (Addr × Obj)} {σ : St} {H : Hp} {s : Shared} {p : Addr} {xs : List V} (I : Inv X pins σ H s) (h : H p = some (.lst xs)) :
    ∃ (its : List Value) (n : Nat), Vals xs its ∧ s.heap.get? p = some { cls := .type "list", data := .seq its.toArray n } ∧ xs.length ≤ sizeLine := by
  obtain ⟨z, its, n, r, e⟩ := I.hok p _ h
  exact ⟨its, n, r, e, z⟩
/-- the list at p is written by an update of its object -/
theorem Inv.lstUpd {pins : List (Addr × Obj)} {σ : St} {H : Hp} {s : Shared} {p : Addr} {xs ys : List V} {its its' : List Value} {n n' : Nat} {f : Obj → Obj} (I : Inv X pins σ H s) (h : H p = some (.lst xs))
    (ho : s.heap.get? p = some { cls := .type "list", data := .seq its.toArray n }) (hf : f { cls := .type "list", data := .seq its.toArray n } = { cls := .type "list", data := .seq its'.toArray n' }) (r : Vals ys its') (hz : ys.length ≤ sizeLine) (t : Nat) :
    Inv X pins σ (upd H p (.lst ys)) { s with heap := s.heap.update p f, toks := t } := by
  have e : (s.heap.update p f).get? p = some { cls := .type "list", data := .seq its'.toArray n' } := by
    rw [Heap.get?_update_self f ho (by rw [hf] <;> rfl), hf]
  refine I.write (x := p) (e := p) (by rw [h]; trivial) (.inl rfl) (fun b u hb q => (Heap.get?_update_other _ _ (Ne.symm hb)).trans q) ⟨_, e⟩ ?_
  exact ⟨hz, its', n', r, e⟩
def rSetL : V → V → V → Hp → (Hp → Prop) → Prop := fun o i v H Q => ∃ p xs k j, o = .ref p ∧ i = .int k ∧ H p = some (.lst xs) ∧ ixN xs.length k = some j ∧ Q (upd H p (.lst (xs.set j v)))
theorem set_list : PSet X rSetL := by
  intro pins s σ H o i v ov iv u Q I ro ri rv h
  obtain ⟨p, xs, k, j, rfl, rfl, hp, hj, q⟩ := h
  cases ro
  obtain ⟨t, rfl⟩ := ri
  obtain ⟨its, n, r, ho, hz⟩ := I.lst hp
  obtain ⟨h1, h2, h3, h4⟩ := ixN_seq hj
  have hl := r.length
  have hn := line63
  have I' : Inv X pins σ (upd H p (.lst (xs.set j v))) { s with heap := s.heap.update p (Obj.mapSeq (·.setIfInBounds j u)) } :=
    I.lstUpd hp ho (mapSeq_set its n j u) (r.set rv j) (by rw [List.length_set]; exact hz) s.toks
  by_cases h0 : 0 ≤ k
  · have hk : k.toNat = j := by
      rw [seqIndex_of h0 h4] at h1
      exact Option.some.inj h1
    exact PySem.W.ki_setAt ho h0 (by omega) (by rw [List.size_toArray, ← hl]; exact h4) (by rw [hk]; exact ⟨_, I', q⟩)
  · have hk : (k + (its.toArray.size : Int)).toNat = j := by
      rw [seqIndex_neg (by omega) h3] at h1
      rw [List.size_toArray, ← hl]
      exact Option.some.inj h1
    exact PySem.W.ki_setBack ho (by omega) (by rw [List.size_toArray, ← hl]; exact h3) (by omega) (by rw [hk]; exact ⟨_, I', q⟩)

/-! ### slices -/
theorem slice_bounds (lo hi : Option Int) (n : Nat) : (sliceBounds lo hi none n).1 = ((HT.sIx n 0 lo : Nat) : Int) ∧ (sliceBounds lo hi none n).2.1 = ((HT.sIx n n hi : Nat) : Int) ∧ (sliceBounds lo hi none n).2.2 = 1 := by
  refine ⟨?_, ?_, rfl⟩
  · cases lo with
    | none => simp [sliceBounds, HT.sIx]
    | some i =>
      simp only [sliceBounds, HT.sIx, Option.getD_none, show (1 : Int) > 0 by decide, if_true]
      by_cases h : i < 0
      · simp only [h, if_true] <;> omega
      · simp only [h, if_false] <;> omega
  · cases hi with
    | none => simp [sliceBounds, HT.sIx]
    | some i =>
      simp only [sliceBounds, HT.sIx, Option.getD_none, show (1 : Int) > 0 by decide, if_true]
      by_cases h : i < 0
      · simp only [h, if_true] <;> omega
      · simp only [h, if_false] <;> omega
theorem slicePick_cut (its : List Value) (lo hi : Option Int) : slicePick its.toArray lo hi none = ((its.drop (HT.sIx its.length 0 lo)).take (HT.sIx its.length its.length hi - HT.sIx its.length 0 lo)).toArray := by
  obtain ⟨h1, h2, h3⟩ := slice_bounds lo hi its.toArray.size
  unfold slicePick
  rw [h1, h2, h3]
  simp only [sliceRange_one, pick_run, List.size_toArray] <;> rfl
/-- xs[lo:hi] of a list: a new list -/
def rSlL (K : PySem.W.Frag) : V → Option Int → Option Int → Hp → VK → Prop := fun x lo hi H Q => ∃ a xs, x = .ref a ∧ SqL K H a xs ∧ ∀ p, H p = none → Q (.ref p) (upd H p (.lst (cutV xs lo hi)))
theorem sl_list : SlR X (rSlL X.K) := by
  intro pins s σ H x v vl vu lo hi sl Q I rx hs pl pu h
  obtain ⟨a, xs, rfl, hx, q⟩ := h
  cases rx
  obtain ⟨its, r, ht, hz⟩ := I.list hx
  have hlen := r.length
  refine ⟨"list", _, slot_list_getitem.lookup, ht.isList.typeIs, ?_⟩
  refine wpAny_getItem_list_slice ht.isList hs pl pu .none (by simp) ?_ (by rw [List.size_toArray] <;> omega)
  rw [slicePick_cut, ← hlen]
  refine ⟨.ref s.heap.objs.size, _, I.laid (t' := s.toks) (o := .lst (cutV xs lo hi)) (fun b ob q => Heap.get?_push_of_some _ q) (Nat.le_refl _) ?_, rfl, q _ (I.hok.fresh (Nat.le_refl _))⟩
  exact ⟨Nat.le_trans (cutV_length xs lo hi) hz, _, 0, (r.drop (HT.sIx xs.length 0 lo)).take (HT.sIx xs.length xs.length hi - HT.sIx xs.length 0 lo), Heap.get?_push_size _ rfl⟩

/-! ### in, not in: flat items -/
def flatV : V → Bool
  | .non => true
  | .bl _ => true
  | .int _ => true
  | .str _ => true
  | _ => false
/-- == of flat values -/
def eqV : V → V → Bool
  | .non, .non => true
  | .bl a, .bl b => a == b
  | .bl a, .int b => (if a then 1 else 0) == b
  | .int a, .bl b => a == (if b then 1 else 0)
  | .int a, .int b => a == b
  | .str a, .str b => a == b
  | _, _ => false
theorem eqAt_V {A : Around} {s : Shared} {y x : V} {u v : Value} (ry : RelV y u) (rx : RelV x v) (fy : flatV y = true) (fx : flatV x = true) : SeqAt.EqAt A s u v (eqV y x) := by
  cases y with
  | non =>
    cases ry
    cases x with
    | non => cases rx; exact SeqAt.EqAt.same _
    | bl b => cases rx; exact SeqAt.EqAt.none_bool b
    | int b => obtain ⟨t, rfl⟩ := rx; exact SeqAt.EqAt.none_int b t
    | str b => obtain ⟨t, rfl⟩ := rx; exact SeqAt.EqAt.none_str b t
    | _ => exact absurd (show false = true from fx) Bool.false_ne_true
  | bl a =>
    cases ry
    cases x with
    | non => cases rx; exact SeqAt.EqAt.bool_none a
    | bl b => cases rx; exact SeqAt.EqAt.bool_bool a b
    | int b => obtain ⟨t, rfl⟩ := rx; exact SeqAt.EqAt.bool_int a b t
    | str b => obtain ⟨t, rfl⟩ := rx; exact SeqAt.EqAt.bool_str a b t
    | _ => exact absurd (show false = true from fx) Bool.false_ne_true
  | int a =>
    obtain ⟨t', rfl⟩ := ry
    cases x with
    | non => cases rx; exact SeqAt.EqAt.int_none a t'
    | bl b => cases rx; exact SeqAt.EqAt.int_bool a t' b
    | int b => obtain ⟨t, rfl⟩ := rx; exact SeqAt.EqAt.int_int a t' b t
    | str b => obtain ⟨t, rfl⟩ := rx; exact SeqAt.EqAt.int_str a t' b t
    | _ => exact absurd (show false = true from fx) Bool.false_ne_true
  | str a =>
    obtain ⟨t', rfl⟩ := ry
    cases x with
    | non => cases rx; exact SeqAt.EqAt.str_none a t'
    | bl b => cases rx; exact SeqAt.EqAt.str_bool a t' b
    | int b => obtain ⟨t, rfl⟩ := rx; exact SeqAt.EqAt.str_int a t' b t
    | str b => obtain ⟨t, rfl⟩ := rx; exact SeqAt.EqAt.str_str a t' b t
    | _ => exact absurd (show false = true from fx) Bool.false_ne_true
  | _ => exact absurd (show false = true from fy) Bool.false_ne_true
/-- the items' answers, read off the values (a value's own answer does not lean on its token) -/
def eqU (x : V) (u : Value) : Bool := match u with
  | .none => eqV .non x
  | .bool b => eqV (.bl b) x
  | .int i _ => eqV (.int i) x
  | .str z _ => eqV (.str z) x
  | _ => false
theorem eqU_of {x y : V} {u : Value} (r : RelV y u) (f : flatV y = true) : eqU x u = eqV y x := by
  cases y with
  | non => cases r; rfl
  | bl b => cases r; rfl
  | int i => obtain ⟨t, rfl⟩ := r; rfl
  | str z => obtain ⟨t, rfl⟩ := r; rfl
  | _ => exact absurd (show false = true from f) Bool.false_ne_true
theorem any_eqU {x : V} : ∀ {xs : List V} {us : List Value}, Vals xs us → xs.all flatV = true → us.any (eqU x) = xs.any fun y => eqV y x
  | _, _, .nil, _ => rfl
  | y :: xs, u :: us, .cons r t, f => by
    rw [List.all_cons, Bool.and_eq_true] at f
    rw [List.any_cons, List.any_cons, eqU_of r f.1, any_eqU t f.2]
theorem mem_eqAt {A : Around} {s : Shared} {x : V} {v : Value} (rx : RelV x v) (fx : flatV x = true) : ∀ {xs : List V} {us : List Value}, Vals xs us → xs.all flatV = true → ∀ u ∈ us, SeqAt.EqAt A s u v (eqU x u)
  | _, _, .nil, _ => fun u hu => by cases hu
  | y :: xs, u :: us, .cons r t, f => fun u' hu => by
    rw [List.all_cons, Bool.and_eq_true] at f
    rcases List.mem_cons.mp hu with rfl | hu
    · rw [eqU_of r f.1]; exact eqAt_V r rx f.1 fx
    · exact mem_eqAt rx fx t f.2 u' hu
def inV (x : V) (xs : List V) : Bool := xs.any fun y => eqV y x
/-- x in a list or tuple of flat items -/
def rIn (K : PySem.W.Frag) (neg : Bool) : R2 := fun x y H Q => ∃ p xs, y = .ref p ∧ (SqL K H p xs ∨ SqT K H p xs) ∧ flatV x = true ∧ xs.all flatV = true ∧ Q (.bl (if neg then !inV x xs else inV x xs)) H
theorem op_in_seq : OpR X (compareOp .In) (rIn X.K false) := by
  intro pins s σ H x y v u Q I rx ry h
  obtain ⟨p, xs, rfl, hq, fx, fs, q⟩ := h
  cases ry
  rcases hq with hq | hq
  · obtain ⟨its, r, pl, hz⟩ := I.list hq
    refine SeqAt.in_listAt (eqU x) pl.isList (fun w hw => mem_eqAt rx fx r fs w (by simpa using hw)) ⟨.bl _, H, I, rfl, ?_⟩
    rw [show its.toArray.any (eqU x) = its.any (eqU x) by simp, any_eqU r fs]
    exact q
  · obtain ⟨its, r, pl, hz⟩ := I.tuple hq
    refine SeqAt.in_tupleAt (eqU x) pl (fun w hw => mem_eqAt rx fx r fs w (by simpa using hw)) ⟨.bl _, H, I, rfl, ?_⟩
    rw [show its.toArray.any (eqU x) = its.any (eqU x) by simp, any_eqU r fs]
    exact q
theorem op_notIn_seq : OpR X (compareOp .NotIn) (rIn X.K true) := by
  intro pins s σ H x y v u Q I rx ry h
  obtain ⟨p, xs, rfl, hq, fx, fs, q⟩ := h
  cases ry
  rcases hq with hq | hq
  · obtain ⟨its, r, pl, hz⟩ := I.list hq
    refine SeqAt.notIn_listAt (eqU x) pl.isList (fun w hw => mem_eqAt rx fx r fs w (by simpa using hw)) ⟨.bl _, H, I, rfl, ?_⟩
    rw [show its.toArray.any (eqU x) = its.any (eqU x) by simp, any_eqU r fs]
    exact q
  · obtain ⟨its, r, pl, hz⟩ := I.tuple hq
    refine SeqAt.notIn_tupleAt (eqU x) pl (fun w hw => mem_eqAt rx fx r fs w (by simpa using hw)) ⟨.bl _, H, I, rfl, ?_⟩
    rw [show its.toArray.any (eqU x) = its.any (eqU x) by simp, any_eqU r fs]
    exact q
theorem op_notIn_str : OpR X (compareOp .NotIn) (fun x y H Q => ∃ i j, x = .str i ∧ y = .str j ∧ Q (.bl (!(!(Builtin.Str.occurrences j i 0 j.length 1).isEmpty))) H) := by
  intro pins s σ H x y v u Q I rx ry h
  obtain ⟨i, j, rfl, rfl, q⟩ := h
  obtain ⟨t, rfl⟩ := rx
  obtain ⟨t', rfl⟩ := ry
  exact notIn_str ⟨.bl _, H, I, rfl, q⟩

/-! ### len, list(x), tuple(x) of any list or tuple that is read -/
theorem call_len_seq : CallR X (.builtin "len") (fun xs H Q => ∃ p ys, xs = [.ref p] ∧ (SqL X.K H p ys ∨ SqT X.K H p ys) ∧ Q (.int ys.length) H) := by
  intro pins s σ H xs us Q I r h
  obtain ⟨p, ys, rfl, hq, q⟩ := h
  obtain ⟨u, rfl, rx⟩ := vals1 r
  cases rx
  have hn := line63
  rcases hq with hq | hq
  · obtain ⟨its, r', pl, hz⟩ := I.list hq
    have hlen := r'.length
    exact Calls.call_len_list pl.isList (by simp only [List.size_toArray] <;> omega) ⟨.int ys.length, H, I.tok _, ⟨s.toks + 1, by rw [List.size_toArray, hlen]⟩, q⟩
  · obtain ⟨its, r', pl, hz⟩ := I.tuple hq
    have hlen := r'.length
    exact len_tuple pl (by simp only [List.size_toArray] <;> omega) ⟨.int ys.length, H, I.tok _, ⟨s.toks + 1, by rw [List.size_toArray, hlen]⟩, q⟩
theorem call_len_str : CallR X (.builtin "len") (fun xs H Q => ∃ z, xs = [.str z] ∧ z.length ≤ sizeLine ∧ Q (.int z.length) H) := by
  intro pins s σ H xs us Q I r h
  obtain ⟨z, rfl, hz, q⟩ := h
  obtain ⟨u, rfl, t, rfl⟩ := vals1 r
  have hn := line63
  exact len_str (by omega) ⟨.int z.length, H, I.tok _, ⟨_, rfl⟩, q⟩
theorem CallR.or {f : Value} {r r' : List V → Hp → VK → Prop} (h : CallR X f r) (h' : CallR X f r') : CallR X f (fun xs H Q => r xs H Q ∨ r' xs H Q) := by
  intro pins s σ H xs us Q I rs q
  rcases q with q | q
  · exact h pins s σ H xs us Q I rs q
  · exact h' pins s σ H xs us Q I rs q
theorem call_list_of : CallR X (.type "list") (fun xs H Q => ∃ p ys, xs = [.ref p] ∧ (SqL X.K H p ys ∨ SqT X.K H p ys) ∧ ∀ l, H l = none → Q (.ref l) (upd H l (.lst ys))) := by
  intro pins s σ H xs us Q I r h
  obtain ⟨p, ys, rfl, hq, q⟩ := h
  obtain ⟨u, rfl, rx⟩ := vals1 r
  cases rx
  have fin : ∀ (its : List Value), Vals ys its → ys.length ≤ sizeLine → ∀ (h' : Heap) (c' : Nat), (∀ b o', s.heap.get? b = some o' → h'.get? b = some o') →
      h'.get? s.heap.objs.size = some { cls := .type "list", dict := none, data := .seq its.toArray c', slots := #[] } → EP X pins σ Q (.ref s.heap.objs.size) { s with heap := h' } := fun its r' hz h' c' kp e =>
    ⟨.ref s.heap.objs.size, _, I.laid (t' := s.toks) kp (Nat.le_refl _) (show ObjOk X.prog X.w _ h' _ (.lst ys) from ⟨hz, its, c', r', e⟩), rfl, q _ (I.hok.fresh (Nat.le_refl _))⟩
  rcases hq with hq | hq
  · obtain ⟨its, r', pl, hz⟩ := I.list hq
    have hlen := r'.length
    obtain ⟨o, ho, hc, n, hd⟩ := pl.isList
    exact call_list_seq p (.inl rfl) ho hc hd (fun h' c' kp e => fin its r' hz h' c' kp e) (by simp only [List.size_toArray] <;> omega)
  · obtain ⟨its, r', pl, hz⟩ := I.tuple hq
    have hlen := r'.length
    obtain ⟨o, ho, hc, n, hd⟩ := pl
    exact call_list_seq p (.inr rfl) ho hc hd (fun h' c' kp e => fin its r' hz h' c' kp e) (by simp only [List.size_toArray] <;> omega)
theorem call_tuple_of : CallR X (.type "tuple") (fun xs H Q => ∃ p ys, xs = [.ref p] ∧ ((SqL X.K H p ys ∧ ∀ l, H l = none → Q (.ref l) (upd H l (.tup ys))) ∨ (SqT X.K H p ys ∧ Q (.ref p) H))) := by
  intro pins s σ H xs us Q I r h
  obtain ⟨p, ys, rfl, h⟩ := h
  obtain ⟨u, rfl, rx⟩ := vals1 r
  cases rx
  rcases h with ⟨hq, q⟩ | ⟨hq, q⟩
  · obtain ⟨its, r', pl, hz⟩ := I.list hq
    have hlen := r'.length
    refine call_tuple_list pl.isList (fun h' kp => ?_) (by simp only [List.size_toArray] <;> omega)
    have I1 : Inv X pins σ H { s with heap := h' } := I.kept (t' := s.toks) kp
    have I2 : Inv X pins σ (upd H h'.objs.size (.tup ys)) { s with heap := h'.push { cls := .type "tuple", data := .seq its.toArray } } :=
      I1.laid (t' := s.toks) (fun b o e => Heap.get?_push_of_some _ e) (Nat.le_refl _) (show ObjOk X.prog X.w _ _ _ (.tup ys) from ⟨hz, its, r', IsTup.new _ _⟩)
    exact ⟨.ref h'.objs.size, _, I2, rfl, q _ (I1.hok.fresh (Nat.le_refl _))⟩
  · obtain ⟨its, r', pl, hz⟩ := I.tuple hq
    exact call_tuple_same pl ⟨.ref p, H, I, rfl, q⟩

/-! ### the call of a builtin's method: o.m(..) -/
/-- the value is of that builtin type -/
def tyV (K : PySem.W.Frag) (T : String) (x : V) (H : Hp) : Prop := match x with
  | .str _ => T = "str"
  | .int _ => T = "int"
  | .ref p => (T = "list" ∧ ∃ xs, SqL K H p xs) ∨ (T = "tuple" ∧ ∃ o, K.lookup p = some o ∧ o.cls = .type "tuple" ∧ o.dict = none) ∨
      (T = "dict" ∧ ((∃ kvs, H p = some (.dK kvs)) ∨ ∃ kvs, H p = some (.dT kvs))) ∨ (T = "set" ∧ ∃ S n, H p = some (.set S n))
  | _ => False
theorem tyV_is {pins : List (Addr × Obj)} {σ : St} {H : Hp} {s : Shared} {T : String} {x : V} {v : Value} (I : Inv X pins σ H s) (r : RelV x v) (ty : tyV X.K T x H) :
    s.TypeIs v T ∧ ∀ a, v = .ref a → ∃ ob, s.heap.get? a = some ob ∧ ob.dict = none := by
  cases x with
  | str z =>
    obtain ⟨t, rfl⟩ := r
    cases (show T = "str" from ty)
    exact ⟨typeIs_str s z t, fun _ e => nomatch e⟩
  | int i =>
    obtain ⟨t, rfl⟩ := r
    cases (show T = "int" from ty)
    exact ⟨typeIs_int s i t, fun _ e => nomatch e⟩
  | ref p =>
    cases r
    rcases ty with ⟨rfl, xs, hq⟩ | ⟨rfl, o, hk, hc, hd⟩ | ⟨rfl, hk⟩ | ⟨rfl, S, n, hk⟩
    · obtain ⟨its, _, pl, _⟩ := I.list hq
      refine ⟨pl.isList.typeIs, fun a e => ?_⟩
      cases e
      obtain ⟨o, n, e, c, hd, _⟩ := pl
      exact ⟨o, e, hd⟩
    · refine ⟨⟨o, I.kIn p o hk, hc⟩, fun a e => ?_⟩
      cases e
      exact ⟨o, I.kIn _ o hk, hd⟩
    · have z : ∃ o, s.heap.get? p = some o ∧ o.ExactDict := by
        rcases hk with ⟨kvs, hk⟩ | ⟨kvs, hk⟩
        · obtain ⟨_, _, _, _, o, _, _, e, ex, _⟩ := I.hok p _ hk
          exact ⟨o, e, ex⟩
        · obtain ⟨_, _, _, _, o, _, _, e, ex, _⟩ := I.hok p _ hk
          exact ⟨o, e, ex⟩
      obtain ⟨o, e, ex⟩ := z
      refine ⟨⟨o, e, ex.1⟩, fun a e2 => ?_⟩
      cases e2
      exact ⟨o, e, ex.2.1⟩
    · obtain ⟨o, _, _, _, e, ex, _⟩ := I.hok p _ hk
      refine ⟨⟨o, e, ex.1⟩, fun a e2 => ?_⟩
      cases e2
      exact ⟨o, e, ex.2.1⟩
  | _ => exact False.elim ty
def tBM0 (K : PySem.W.Frag) (T : String) (r : V → List V → Hp → VK → Prop) (to : TE) : TE := fun σ H Q => to σ H fun x H1 => tyV K T x H1 ∧ r x [] H1 Q
def tBM (K : PySem.W.Frag) (T : String) (r : V → List V → Hp → VK → Prop) (to : TE) (t : TA) : TE := fun σ H Q => to σ H fun x H1 => tyV K T x H1 ∧ t σ H1 fun xs H2 => r x xs H2 Q
variable {o e : Expr} {es : List Expr} {to : TE} {t : TA} {name : Str} {apos cpos : Pos} {T id : String} {r : V → List V → Hp → VK → Prop}
theorem pe_bm0 (pa : PlainAttrs T) (slot : Slot T name id) (hty : typeOf (.builtin id) = pure (.type "method_descriptor")) (hm : MtR X id r) (ho : PE X o to)
    (hbase : attributeBase o name X.env (eval o X.env) = eval o X.env := by rfl) (hline : (apos.endLine == cpos.line) = true := by rfl) : PE X (.Call (.Attribute o name apos) [] [] cpos) (tBM0 X.K T r to) := by
  intro pins s σ H Q I h
  refine wpAny_Call_method0_late hbase hline (thn (ho pins s σ H _ I h) fun v s1 ⟨x, H1, I1, r1, ty, q1⟩ => ?_)
  obtain ⟨h1, h2⟩ := tyV_is I1 r1 ty
  exact ⟨T, id, pa, slot, hty, h1, h2, Calls.callWith_builtin rfl (PySem.evalArgs_none (hm pins s1 σ H1 x [] v [] Q I1 r1 .nil q1))⟩
theorem pe_bm (pa : PlainAttrs T) (slot : Slot T name id) (hty : typeOf (.builtin id) = pure (.type "method_descriptor")) (hm : MtR X id r) (ho : PE X o to) (ha : PA X (e :: es) t)
    (hbase : attributeBase o name X.env (eval o X.env) = eval o X.env := by rfl)
    (hfew : ((backTo cpos (starEach (e :: es) X.env)).all (fun x => !x.1) && (backToKw cpos (keywordEach [] X.env)).all (fun x => x.1.isSome)
      && decide ((e :: es).length + ([] : List Keyword).length + (if ([] : List Keyword).isEmpty then 0 else 1) < 30)) = true := by rfl)
    (hline : (apos.endLine == cpos.line) = true := by rfl) (hs : starEach (e :: es) X.env = (false, eval e X.env) :: starEach es X.env := by rfl) (hplain : (backTo cpos (starEach es X.env)).any (·.1) = false := by rfl) :
    PE X (.Call (.Attribute o name apos) (e :: es) [] cpos) (tBM X.K T r to t) := by
  intro pins s σ H Q I h
  refine wpAny_Call_method_late hbase hfew hline rfl (thn (ho pins s σ H _ I h) fun v s1 ⟨x, H1, I1, r1, ty, q1⟩ => ?_)
  obtain ⟨h1, h2⟩ := tyV_is I1 r1 ty
  refine ⟨T, id, pa, slot, hty, h1, h2, ?_⟩
  have hA := ha cpos pins s1 σ H1 _ I1 q1
  rw [hs] at hA ⊢
  refine Calls.callWith_builtin (by show (false || (backTo cpos (starEach es X.env)).any (·.1)) = false; rw [hplain] <;> rfl) (Calls.evalArgs_plain ?_)
  exact thn hA fun us s2 ⟨vs, H2, I2, r2, q2⟩ => hm pins s2 σ H2 x vs v us Q I2 r1 r2 q2
/- xs.append(e), list.index on a module's tuple .. are MtR facts of 06m -/
end
end L2

namespace L2
open PySem PySem.Spec PyProof.Rows

def MtM (X : Cx) (id : String) (r : V → List V → Hp → VK → Prop) : Prop :=
  ∀ (pins : List (Addr × Obj)) (s : Shared) (σ : St) (H : Hp) (x : V) (xs : List V) (v : Value) (us : List Value) (Q : VK), Inv X pins σ H s → RelV x v → Vals xs us → r x xs H Q →
    wpAny (model X.prog X.w) X.A (call (.builtin id) (v :: us)) (EP X pins σ Q) X.xe s

/-! ### lists of values -/
theorem Vals.one : ∀ {x : V} {us : List Value}, Vals [x] us → ∃ u, us = [u] ∧ RelV x u
  | _, _, .cons r .nil => ⟨_, rfl, r⟩
theorem Vals.two : ∀ {x y : V} {us : List Value}, Vals [x, y] us → ∃ u v, us = [u, v] ∧ RelV x u ∧ RelV y v
  | _, _, _, .cons r (.cons q .nil) => ⟨_, _, rfl, r, q⟩
theorem Vals.zero : ∀ {us : List Value}, Vals [] us → us = []
  | _, .nil => rfl
theorem Vals.dropLast {xs : List V} {us : List Value} (h : Vals xs us) : Vals xs.dropLast us.dropLast := by
  induction h with
  | nil => exact .nil
  | cons r t ih =>
    cases t with
    | nil => exact .nil
    | cons q t' => exact .cons r ih
theorem Vals.eraseIdx : ∀ {xs : List V} {us : List Value} (i : Nat), Vals xs us → Vals (xs.eraseIdx i) (us.eraseIdx i)
  | _, _, _, .nil => .nil
  | _, _, 0, .cons _ t => t
  | _, _, i + 1, .cons r t => .cons r (Vals.eraseIdx i t)
theorem Vals.reverse {xs : List V} {us : List Value} (h : Vals xs us) : Vals xs.reverse us.reverse := by
  induction h with
  | nil => exact .nil
  | cons r t ih => rw [List.reverse_cons, List.reverse_cons]; exact Vals.append ih (.cons r .nil)
theorem Vals.rep {xs : List V} {us : List Value} (h : Vals xs us) : ∀ k : Nat, Vals (List.replicate k xs).flatten (List.replicate k us).flatten
  | 0 => .nil
  | k + 1 => by
    rw [List.replicate_succ, List.replicate_succ, List.flatten_cons, List.flatten_cons]
    exact Vals.append h (Vals.rep h k)
theorem erase_last {α : Type} (l : List α) : l.eraseIdx (l.length - 1) = l.dropLast := by
  induction l with
  | nil => rfl
  | cons a r ih =>
    cases r with
    | nil => rfl
    | cons b r =>
      have e : (a :: b :: r).length - 1 = ((b :: r).length - 1) + 1 := by
        have h1 : (a :: b :: r).length = r.length + 2 := rfl
        have h2 : (b :: r).length = r.length + 1 := rfl
        omega
      rw [e, List.eraseIdx_cons_succ, ih]
      all_goals rfl
theorem len_erase {α : Type} : ∀ (l : List α) (i : Nat), (l.eraseIdx i).length ≤ l.length
  | [], _ => Nat.le_refl _
  | _ :: _, 0 => Nat.le_succ _
  | _ :: r, i + 1 => Nat.succ_le_succ (len_erase r i)
theorem foldl_rep (its : List Value) : ∀ (k : Nat) (acc : List Value),
    List.foldl (fun x1 x2 => x1 ++ x2) acc.toArray (List.replicate k its.toArray) = (acc ++ (List.replicate k its).flatten).toArray
  | 0, acc => by simp
  | k + 1, acc => by
    have e : acc.toArray ++ its.toArray = (acc ++ its).toArray := by simp
    have e2 : (acc ++ its) ++ (List.replicate k its).flatten = acc ++ (List.replicate (k + 1) its).flatten := by
      rw [List.replicate_succ, List.flatten_cons, List.append_assoc]
    rw [← e2, ← foldl_rep its k (acc ++ its), ← e, List.replicate_succ, List.foldl_cons]

section
variable {X : Cx} {pins : List (Addr × Obj)} {σ : St} {H : Hp} {s : Shared} {l b : Addr} {xs ys zs : List V}

/-! ### the two steps: a tracked list is rewritten, a new list is laid -/
theorem Inv.lset {its its' : List Value} {n : Nat} {f : Array Value → Array Value} {t' : Nat} (I : Inv X pins σ H s) (hH : H l = some (.lst xs))
    (e : s.heap.get? l = some { cls := .type "list", data := .seq its.toArray n }) (hf : f its.toArray = its'.toArray) (hv : Vals ys its') (hz : ys.length ≤ sizeLine) :
    Inv X pins σ (upd H l (.lst ys)) { s with heap := s.heap.update l (Obj.mapSeq f), toks := t' } := by
  have q := PySem.IsL.update e f
  rw [hf] at q
  refine I.write (x := l) (e := l) (by rw [hH]; exact trivial) (.inl rfl) (fun b' u hb hu => (Heap.get?_update_other s.heap (Obj.mapSeq f) (Ne.symm hb)).trans hu) ⟨_, q⟩ ?_
  exact ⟨hz, its', _, hv, q⟩
theorem Inv.lnew {its : List Value} {t' : Nat} (I : Inv X pins σ H s) (hv : Vals ys its) (hz : ys.length ≤ sizeLine) :
    Inv X pins σ (upd H s.heap.objs.size (.lst ys)) { s with heap := s.heap.push { cls := .type "list", data := .seq its.toArray }, toks := t' } :=
  I.laid (fun _ _ q => Heap.get?_push_of_some _ q) (Nat.le_refl _) ⟨hz, its, 0, hv, Heap.get?_push_size _ rfl⟩
theorem Inv.fresh (I : Inv X pins σ H s) : H s.heap.objs.size = none := I.hok.fresh (Nat.le_refl _)
theorem Inv.lstM (I : Inv X pins σ H s) (hH : H l = some (.lst xs)) : xs.length ≤ sizeLine ∧ ∃ (its : List Value) (n : Nat), Vals xs its ∧ xs.length = its.length ∧ s.heap.get? l = some { cls := .type "list", data := .seq its.toArray n } := by
  obtain ⟨z, its, n, r, e⟩ := I.hok l _ hH
  exact ⟨z, its, n, r, r.length, e⟩

theorem notLongL {n : Nat} (h : n ≤ sizeLine) : Builtin.List.listTooLong n = false := by
  unfold Builtin.List.listTooLong
  exact decide_eq_false (by omega)
end

section
variable {X : Cx}

/-! ### methods -/
def rAppend : V → List V → Hp → VK → Prop := fun x vs H Q => ∃ l xs y, x = .ref l ∧ vs = [y] ∧ H l = some (.lst xs) ∧ xs.length < sizeLine ∧ Q .non (upd H l (.lst (xs ++ [y])))
theorem mt_append : MtM X "list.append" rAppend := by
  intro pins s σ H x vs v us Q I rx rv h
  obtain ⟨l, xs, y, rfl, rfl, hH, hz, q⟩ := h
  cases rx
  obtain ⟨u, rfl, ru⟩ := rv.one
  obtain ⟨z, its, n, r, hl, e⟩ := I.lstM hH
  refine call_meets F.slot_list_append ⟨_, e, rfl⟩ F.entry_list_append (F.args_list_append_2 _ _) (PySem.list_append l its.toArray n u (by rw [List.size_toArray]; omega)) ⟨e, ?_⟩
  refine ⟨.non, _, I.lset (its' := its ++ [u]) hH e (by simp) (r.append (.cons ru .nil)) ?_, rfl, q⟩
  rw [List.length_append, List.length_singleton]
  omega

def rExtend : V → List V → Hp → VK → Prop := fun x vs H Q => ∃ l b xs zs, x = .ref l ∧ vs = [.ref b] ∧ H l = some (.lst xs) ∧ H b = some (.lst zs) ∧ xs.length + zs.length ≤ sizeLine ∧ Q .non (upd H l (.lst (xs ++ zs)))
theorem mt_extend : MtM X "list.extend" rExtend := by
  intro pins s σ H x vs v us Q I rx rv h
  obtain ⟨l, b, xs, zs, rfl, rfl, hH, hB, hz, q⟩ := h
  cases rx
  obtain ⟨u, rfl, ru⟩ := rv.one
  cases ru
  obtain ⟨z, its, n, r, hl, e⟩ := I.lstM hH
  obtain ⟨z2, its2, n2, r2, hl2, e2⟩ := I.lstM hB
  have hsz : its.toArray.size + its2.toArray.size ≤ sizeLine := by rw [List.size_toArray, List.size_toArray]; omega
  have hlong : ¬ (!its.toArray.isEmpty && Builtin.List.listTooLong (its.toArray.size + its2.toArray.size)) = true := by
    rw [notLongL hsz, Bool.and_false]
    exact Bool.false_ne_true
  refine call_meets F.slot_list_extend ⟨_, e, rfl⟩ F.entry_list_extend (F.args_list_extend_2 _ _)
    (AutoSeq1.list_extend_list_list_0 l its.toArray n b its2.toArray n2 hlong (by rw [List.size_toArray]; omega) (by omega)) ⟨e, e2, ?_⟩
  refine ⟨.non, _, I.lset (its' := its ++ its2) hH e (by simp) (r.append r2) ?_, rfl, q⟩
  rw [List.length_append]
  omega

def rPop : V → List V → Hp → VK → Prop := fun x vs H Q => ∃ l xs y, x = .ref l ∧ vs = [] ∧ H l = some (.lst xs) ∧ xs[xs.length - 1]? = some y ∧ Q y (upd H l (.lst xs.dropLast))
theorem mt_pop : MtM X "list.pop" rPop := by
  intro pins s σ H x vs v us Q I rx rv h
  obtain ⟨l, xs, y, rfl, rfl, hH, hy, q⟩ := h
  cases rx
  have hus := rv.zero
  subst hus
  obtain ⟨z, its, n, r, hl, e⟩ := I.lstM hH
  obtain ⟨u, hu, ru⟩ := r.get hy
  have hy' : its.toArray[its.toArray.size - 1]? = some u := by
    show its.toArray[its.length - 1]? = some u
    rw [← Array.getElem?_toList, ← hl]
    exact hu
  refine call_meets F.slot_list_pop ⟨_, e, rfl⟩ F.entry_list_pop (F.args_list_pop_1 _) (MeetsSeq.list_pop_last l its.toArray n u hy' (by rw [List.size_toArray]; omega)) ⟨e, ?_⟩
  refine ⟨y, _, I.lset (its' := its.dropLast) hH e ?_ r.dropLast ?_, ru, q⟩
  · show its.toArray.eraseIdxIfInBounds (its.toArray.size - 1) = its.dropLast.toArray
    rw [List.size_toArray, List.eraseIdxIfInBounds_toArray, erase_last]
  · rw [List.length_dropLast]
    omega

def rPopAt : V → List V → Hp → VK → Prop := fun x vs H Q => ∃ l xs i k y, x = .ref l ∧ vs = [.int i] ∧ H l = some (.lst xs) ∧ -(2 ^ 63) ≤ i ∧ i < 2 ^ 63 ∧ seqIndex? i xs.length = some k ∧ xs[k]? = some y ∧ Q y (upd H l (.lst (xs.eraseIdx k)))
theorem mt_popAt : MtM X "list.pop" rPopAt := by
  intro pins s σ H x vs v us Q I rx rv h
  obtain ⟨l, xs, i, k, y, rfl, rfl, hH, h1, h2, hk, hy, q⟩ := h
  cases rx
  obtain ⟨u, rfl, ru⟩ := rv.one
  obtain ⟨t, rfl⟩ := ru
  obtain ⟨z, its, n, r, hl, e⟩ := I.lstM hH
  obtain ⟨w, hw, rw'⟩ := r.get hy
  refine call_meets F.slot_list_pop ⟨_, e, rfl⟩ F.entry_list_pop (F.args_list_pop_2 _ _)
    (MeetsSeq.list_pop_at l its.toArray n i t k w (fitsIndex_both h1 h2) (by rw [List.size_toArray, ← hl]; exact hk) (by rw [← Array.getElem?_toList]; exact hw) (by rw [List.size_toArray]; omega)) ⟨e, ?_⟩
  refine ⟨y, _, I.lset (its' := its.eraseIdx k) hH e ?_ (r.eraseIdx k) ?_, rw', q⟩
  · show its.toArray.eraseIdxIfInBounds k = (its.eraseIdx k).toArray
    rw [List.eraseIdxIfInBounds_toArray]
  · have := len_erase xs k
    omega

def rReverse : V → List V → Hp → VK → Prop := fun x vs H Q => ∃ l xs, x = .ref l ∧ vs = [] ∧ H l = some (.lst xs) ∧ Q .non (upd H l (.lst xs.reverse))
theorem mt_reverse : MtM X "list.reverse" rReverse := by
  intro pins s σ H x vs v us Q I rx rv h
  obtain ⟨l, xs, rfl, rfl, hH, q⟩ := h
  cases rx
  have hus := rv.zero
  subst hus
  obtain ⟨z, its, n, r, hl, e⟩ := I.lstM hH
  refine call_meets F.slot_list_reverse ⟨_, e, rfl⟩ F.entry_list_reverse (F.args_list_reverse_1 _) (AutoSeq1.list_reverse_list_0 l its.toArray n (by rw [List.size_toArray]; omega)) ⟨e, ?_⟩
  refine ⟨.non, _, I.lset (its' := its.reverse) hH e (by simp) r.reverse ?_, rfl, q⟩
  rw [List.length_reverse]
  omega

def rClear : V → List V → Hp → VK → Prop := fun x vs H Q => ∃ l xs, x = .ref l ∧ vs = [] ∧ H l = some (.lst xs) ∧ Q .non (upd H l (.lst []))
theorem mt_clear : MtM X "list.clear" rClear := by
  intro pins s σ H x vs v us Q I rx rv h
  obtain ⟨l, xs, rfl, rfl, hH, q⟩ := h
  cases rx
  have hus := rv.zero
  subst hus
  obtain ⟨z, its, n, r, hl, e⟩ := I.lstM hH
  refine call_meets F.slot_list_clear ⟨_, e, rfl⟩ F.entry_list_clear (F.args_list_clear_1 _) (AutoSeq1.list_clear_list_0 l its.toArray n (by rw [List.size_toArray]; omega)) ⟨e, ?_⟩
  exact ⟨.non, _, I.lset (its' := []) (ys := []) hH e rfl .nil (Nat.zero_le _), rfl, q⟩

/-! ### list + list, list += list, list * int -/
def rCat : R2 := fun x y H Q => ∃ l b xs zs, x = .ref l ∧ y = .ref b ∧ H l = some (.lst xs) ∧ H b = some (.lst zs) ∧ xs.length + zs.length ≤ sizeLine ∧ ∀ p, H p = none → Q (.ref p) (upd H p (.lst (xs ++ zs)))
theorem op_cat : OpR X (binaryOp .Add) rCat := by
  intro pins s σ H x y v u Q I rx ry h
  obtain ⟨l, b, xs, zs, rfl, rfl, hH, hB, hz, q⟩ := h
  cases rx
  cases ry
  obtain ⟨z, its, n, r, hl, e⟩ := I.lstM hH
  obtain ⟨z2, its2, n2, r2, hl2, e2⟩ := I.lstM hB
  refine PySem.P.add_list e e2 ?_ (by rw [List.size_toArray, List.size_toArray]; omega)
  have ea : its.toArray ++ its2.toArray = (its ++ its2).toArray := by simp
  rw [ea]
  exact ⟨.ref _, _, I.lnew (t' := s.toks) (r.append r2) (by rw [List.length_append]; omega), rfl, q _ I.fresh⟩
/-- a list times an int (a negative one is nothing) -/
def rRep : R2 := fun x y H Q => ∃ l k xs, x = .ref l ∧ y = .int k ∧ H l = some (.lst xs) ∧ -(2 ^ 63) ≤ k ∧ k < 2 ^ 63 ∧ xs.length * k.toNat ≤ sizeLine ∧
  ∀ p, H p = none → Q (.ref p) (upd H p (.lst (List.replicate k.toNat xs).flatten))
theorem len_rep {α : Type} (xs : List α) (k : Nat) : (List.replicate k xs).flatten.length = k * xs.length := by
  induction k with
  | zero => simp
  | succ k ih => rw [List.replicate_succ, List.flatten_cons, List.length_append, ih, Nat.succ_mul, Nat.add_comm]
theorem op_rep : OpR X (binaryOp .Mult) rRep := by
  intro pins s σ H x y v u Q I rx ry h
  obtain ⟨l, k, xs, rfl, rfl, hH, h1, h2, hz, q⟩ := h
  cases rx
  obtain ⟨t, rfl⟩ := ry
  obtain ⟨z, its, n, r, hl, e⟩ := I.lstM hH
  have hlen : its.toArray.size * k.toNat ≤ sizeLine := by rw [List.size_toArray, ← hl]; exact hz
  have hcap : ¬ its.toArray.size * k.toNat > (2 ^ 63 - 1) / 8 := by
    have : (sizeLine : Nat) ≤ (2 ^ 63 - 1) / 8 := by decide
    omega
  have hfit : ¬ (!Builtin.List.listFitsIndex k) = true := by
    rw [fitsIndex_both h1 h2]
    exact Bool.false_ne_true
  have hlong : ¬ Builtin.List.listTooLong (its.toArray.size * k.toNat) = true := by
    rw [notLongL hlen]
    exact Bool.false_ne_true
  have hnew : List.foldl (fun x1 x2 => x1 ++ x2) #[] (List.replicate (if its.toArray.isEmpty = true then 0 else k.toNat) its.toArray) = (List.replicate k.toNat its).flatten.toArray := by
    have f0 : ∀ m : Nat, List.foldl (fun x1 x2 => x1 ++ x2) #[] (List.replicate m its.toArray) = (List.replicate m its).flatten.toArray := fun m => by
      have := foldl_rep its m []
      rw [List.nil_append] at this
      exact this
    rw [f0]
    cases its with
    | nil => simp
    | cons a r' => rw [if_neg (by simp)]
  refine wpAny_binaryOp_repeat_ref (T := "list") (U := "int") (by decide) ⟨_, e, rfl⟩ (fun s' => typeIs_int s' k t) noFill_list_mul F.fills_int_mul F.slot_int_rmul repeat_list F.slot_int_index.lookup
    (call_meets F.slot_int_rmul (typeIs_int s k t) F.entry_int_rmul (F.args_int_rmul_2 _ _) (int___rmul___int_list k t l its.toArray n)
      ⟨e, rfl, ⟨_, e, rfl⟩, call_meets F.slot_list_mul ⟨_, e, rfl⟩ F.entry_list_mul (F.args_list_mul_2 _ _) (AutoListH.list___mul___list_int_3 l its.toArray n k t hfit hcap hlong) ⟨e, ?_⟩⟩)
  rw [hnew]
  exact ⟨.ref _, _, I.lnew (t' := s.toks) (r.rep k.toNat) (by rw [len_rep, Nat.mul_comm]; exact hz), rfl, q _ I.fresh⟩

/-! ### del xs[i] -/
theorem del_list {pins : List (Addr × Obj)} {s : Shared} {σ : St} {H : Hp} {l : Addr} {xs : List V} {i : Int} {t : Tok} {k : Nat} {Q : Unit → Shared → Prop} (I : Inv X pins σ H s) (hH : H l = some (.lst xs))
    (h1 : -(2 ^ 63) ≤ i) (h2 : i < 2 ^ 63) (hk : seqIndex? i xs.length = some k) (h : ∀ s', Inv X pins σ (upd H l (.lst (xs.eraseIdx k))) s' → Q () s') :
    wpAny (model X.prog X.w) X.A (delItem (.ref l) (.int i t)) Q X.xe s := by
  obtain ⟨z, its, n, r, hl, e⟩ := I.lstM hH
  refine PySem.P.delItem_list (k := k) e (fitsIndex_both h1 h2) (by rw [List.size_toArray, ← hl]; exact hk) (h _ ?_) (by rw [List.size_toArray]; omega)
  refine I.lset (its' := its.eraseIdx k) (t' := s.toks) hH e ?_ (r.eraseIdx k) ?_
  · show its.toArray.eraseIdxIfInBounds k = (its.eraseIdx k).toArray
    rw [List.eraseIdxIfInBounds_toArray]
  · have := len_erase xs k
    omega
end

/-! ### xs[a:b] = ys -/
section
variable {prog : Program} {w : World} {A : Around} {E : Value → Shared → Prop} {s : Shared}
theorem splice_eq (its its2 : List Value) (a c : Nat) : its.toArray.extract 0 a ++ its2.toArray ++ its.toArray.extract c its.toArray.size = (its.take a ++ its2 ++ its.drop c).toArray := by
  apply Array.toList_inj.mp
  first
    | (simp
       exact List.take_of_length_le (by simp))
    | simp [List.take_of_length_le]
    | simp
theorem bounds_run {a c n : Nat} (hac : a ≤ c) (hc : c ≤ n) : sliceBounds (some (a : Int)) (some (c : Int)) none n = ((a : Int), (c : Int), 1) := by
  simp only [sliceBounds, Option.getD_none]
  have h1 : ¬ ((a : Int) < 0) := by omega
  have h2 : ¬ ((c : Int) < 0) := by omega
  simp only [h1, h2, if_false, show (1 : Int) > 0 by decide, if_true]
  congr 1
  · omega
  · congr 1; omega
set_option maxRecDepth 100000 in
/-- list.__setitem__ with a slice of step one and another list -/
theorem setItem_slice {l b sl : Addr} {items new : Array Value} {n n2 : Nat} {vl vu : Value} {a c : Nat} {Q : Unit → Shared → Prop}
    (e : s.heap.get? l = some { cls := .type "list", data := .seq items n }) (e2 : s.heap.get? b = some { cls := .type "list", data := .seq new n2 }) (hne : l ≠ b)
    (hs : s.heap.IsSliceOf sl vl vu .none) (pl : IsPart vl (some (a : Int))) (pu : IsPart vu (some (c : Int))) (hac : a ≤ c) (hc : c ≤ items.size)
    (hsz : items.size + new.size ≤ sizeLine) (h : Q () { s with heap := s.heap.update l (Obj.mapSeq fun xs => xs.extract 0 a ++ new ++ xs.extract c xs.size) }) :
    wpAny (model prog w) A (setItem (.ref l) (.ref sl) (.ref b)) Q E s := by
  have hl : s.heap.IsList l items := PySem.IsL.isList e
  have hb : s.heap.IsList b new := PySem.IsL.isList e2
  obtain ⟨os, hos, hcs, hds⟩ := id hs
  have hTs : s.TypeIs (.ref sl) "slice" := ⟨os, hos, hcs⟩
  have hstep : ¬ ((rawPart none == rawInt 0) = true) := Bool.false_ne_true
  have hsame : Builtin.List.listSameRef (.ref l) (.ref b) = false := by
    unfold Builtin.List.listSameRef
    exact beq_eq_false_iff_ne.mpr hne
  have hmax : (max (a : Int) (c : Int)).toNat = c := by omega
  have hz' : ((fun xs : Array Value => xs.extract 0 a ++ new ++ xs.extract c xs.size) items).size ≤ sizeLine + 1 := by
    simp only [Array.size_append, Array.size_extract]
    omega
  unfold setItem
  try with_reducible refine wpAny_holding ?_
  first | refine wpAny_bind (wpAny_pure ?_) | skip
  refine wpAny_bind (wpAny_sequenceKey hl.typeIs (by decide) ?_)
  refine wpAny_bind (wpAny_callSpecial?_slot (name := Str.ofString "__setitem__") hl.typeIs slot_list_setitem
    (wpAny_call_entry slot_list_setitem hl.typeIs entry_list_setitem ?_ (args_list_setitem _ _ _)))
  show wpAny _ _ (Builtin.List.listSubscript? (.ref sl) >>= _) _ _ s
  refine wpAny_bind ?_
  unfold Builtin.List.listSubscript?
  refine wpAny_bind (wpAny_specialOf hTs slice_no_index ?_)
  simp only [Option.isNone_none, if_true]
  refine wpAny_pure ?_
  show wpAny _ _ (typeOf (.ref sl) >>= _) _ _ s
  refine wpAny_bind (wpAny_typeOf hTs ?_)
  first
    | rw [if_neg (by decide)]
    | refine PySem.W.KFB.if_not (by decide) ?_
  rw [listSliceParts_eq]
  refine wpAny_bind (wpAny_bind (wpAny_field hos hds (x := .none) rfl (wpAny_bind (wpAny_listPart .none ?_))))
  rw [if_neg hstep]
  refine wpAny_bind (wpAny_field hos hds (x := vl) rfl (wpAny_bind (wpAny_listPart pl ?_)))
  refine wpAny_bind (wpAny_field hos hds (x := vu) rfl (wpAny_bind (wpAny_listPart pu (wpAny_pure ?_))))
  first
    | simp only [hsame, Bool.false_eq_true, if_false]
    | refine PySem.W.KFB.if_not hsame ?_
    | (dsimp only
       rw [if_neg (by rw [hsame]; exact Bool.false_ne_true)])
  refine wpAny_bind (m := Builtin.List.listAllItems (.ref b) "must assign iterable to extended slice") ?_
  unfold Builtin.List.listAllItems
  refine wpAny_bind (wpAny_typeOf hb.typeIs ?_)
  first
    | refine PySem.W.KFB.if_so (by decide) ?_
    | rw [if_pos (by decide)]
    | simp only [beq_self_eq_true, Bool.true_or, if_true]
  unfold Builtin.List.listItems
  refine wpAny_bind (wpAny_seqItems e2 rfl (wpAny_pure ?_))
  refine wpAny_bind (wpAny_bind (wpAny_seqItems e rfl (wpAny_pure ?_)))
  refine wpAny_bind (wpAny_of_eq ((sliceIndices_raw (some (a : Int)) (some (c : Int)) none items.size (by simp)).trans (congrArg (pure : Int × Int × Int → Sem (Int × Int × Int)) (bounds_run hac hc))) ?_)
  show wpAny _ _ (if ((1 : Int) == 1) = true then _ else _) _ _ s
  rw [if_pos (by decide)]
  refine wpAny_bind (wpAny_rule ?_)
  first
    | simp only [notLongL hsz, Bool.false_eq_true, if_false]
    | refine PySem.W.KFB.if_not (notLongL hsz) ?_
  first | refine wpAny_bind (wpAny_pure ?_) | skip
  show wpAny _ _ (updateSeq l (fun xs => xs.extract 0 ((a : Int)).toNat ++ new ++ xs.extract (max (a : Int) (c : Int)).toNat xs.size) >>= _) _ _ s
  rw [hmax, Int.toNat_natCast]
  refine wpAny_bind (wpAny_updateSeq (hz := Nat.le_trans (Nat.le_add_right _ _) hsz) (_hz' := hz') e rfl ?_)
  refine wpAny_bind (wpAny_letGo ?_)
  first
    | exact wpAny_bind (wpAny_pure (wpAny_pure ⟨.none, rfl, wpAny_pure h⟩))
    | exact wpAny_pure ⟨.none, rfl, wpAny_pure h⟩
end

section
variable {X : Cx}
/-- xs[a:c] = ys of another list, at the value level: sl is the slice object that was just made -/
theorem set_slice {pins : List (Addr × Obj)} {s : Shared} {σ : St} {H : Hp} {l b sl : Addr} {xs ys : List V} {a c : Int} {vl vu : Value} {Q : Unit → Shared → Prop} (I : Inv X pins σ H s)
    (hH : H l = some (.lst xs)) (hB : H b = some (.lst ys)) (hne : l ≠ b) (hs : s.heap.IsSliceOf sl vl vu .none) (ra : RelV (.int a) vl) (rc : RelV (.int c) vu) (h0 : 0 ≤ a) (hac : a ≤ c) (hc : c ≤ xs.length)
    (hz : xs.length + ys.length ≤ sizeLine) (h : ∀ s', Inv X pins σ (upd H l (.lst (xs.take a.toNat ++ ys ++ xs.drop c.toNat))) s' → Q () s') :
    wpAny (model X.prog X.w) X.A (setItem (.ref l) (.ref sl) (.ref b)) Q X.xe s := by
  obtain ⟨ta, rfl⟩ := ra
  obtain ⟨tc, rfl⟩ := rc
  obtain ⟨z, its, n, r, hl, e⟩ := I.lstM hH
  obtain ⟨z2, its2, n2, r2, hl2, e2⟩ := I.lstM hB
  obtain ⟨a', rfl⟩ := Int.eq_ofNat_of_zero_le h0
  obtain ⟨c', rfl⟩ := Int.eq_ofNat_of_zero_le (Int.le_trans h0 hac)
  simp only [Int.toNat_natCast] at h
  refine setItem_slice (a := a') (c := c') e e2 hne hs (.int _ _) (.int _ _) (by omega) (by rw [List.size_toArray]; omega) (by rw [List.size_toArray, List.size_toArray]; omega) (h _ ?_)
  refine I.lset (its' := its.take a' ++ its2 ++ its.drop c') (t' := s.toks) hH e ?_ (Vals.append (Vals.append (r.take _) r2) (r.drop _)) ?_
  · exact splice_eq its its2 a' c'
  · rw [List.length_append, List.length_append, List.length_take, List.length_drop]
    omega
end
end L2

namespace L2
open PySem PySem.Spec PyProof.Rows

/-! ### lists of pairs as tables -/
section
variable {κ : Type} [DecidableEq κ]
def valV (kvs : List (κ × V)) (k : κ) : Option V := (kvs.find? fun kv => decide (kv.1 = k)).map (·.2)
/-- in its place, or at the end -/
def putK (kvs : List (κ × V)) (k : κ) (v : V) : List (κ × V) :=
  if (kvs.any fun kv => decide (kv.1 = k)) = true then kvs.map (fun kv => if kv.1 = k then (kv.1, v) else kv) else kvs ++ [(k, v)]
def dropK (kvs : List (κ × V)) (k : κ) : List (κ × V) := kvs.filter fun kv => decide (kv.1 ≠ k)

theorem valV_nil {k : κ} : valV ([] : List (κ × V)) k = none := rfl
theorem valV_pos {p : κ × V} {r : List (κ × V)} {k : κ} (e : p.1 = k) : valV (p :: r) k = some p.2 := by simp [valV, List.find?_cons, e]
theorem valV_neg {p : κ × V} {r : List (κ × V)} {k : κ} (e : ¬ p.1 = k) : valV (p :: r) k = valV r k := by simp [valV, List.find?_cons, e]
theorem valV_any (k : κ) : ∀ kvs : List (κ × V), (kvs.any fun kv => decide (kv.1 = k)) = (valV kvs k).isSome
  | [] => rfl
  | p :: r => by
    rw [List.any_cons]
    by_cases e : p.1 = k
    · simp only [valV_pos e, decide_eq_true e, Bool.true_or, Option.isSome_some]
    · rw [valV_neg e, decide_eq_false e, Bool.false_or]; exact valV_any k r
theorem valV_map (k j : κ) (y : V) : ∀ kvs : List (κ × V), valV (kvs.map fun kv => if kv.1 = k then (kv.1, y) else kv) j = (valV kvs j).map fun x => if j = k then y else x
  | [] => rfl
  | p :: r => by
    have ih := valV_map k j y r
    rw [List.map_cons]
    by_cases h : p.1 = k
    · rw [if_pos h]
      by_cases e : p.1 = j
      · rw [valV_pos (p := (p.1, y)) e, valV_pos e, Option.map_some, if_pos (e.symm.trans h)]
      · rw [valV_neg (p := (p.1, y)) e, valV_neg e, ih]
    · rw [if_neg h]
      by_cases e : p.1 = j
      · rw [valV_pos (p := p) e, valV_pos e, Option.map_some, if_neg (fun z => h (e.trans z))]
      · rw [valV_neg (p := p) e, valV_neg e, ih]
theorem valV_snoc (k j : κ) (y : V) : ∀ kvs : List (κ × V), valV kvs k = none → valV (kvs ++ [(k, y)]) j = if j = k then some y else valV kvs j
  | [], _ => by
    by_cases e : k = j
    · rw [if_pos e.symm]; exact valV_pos (p := (k, y)) e
    · rw [if_neg (fun z => e z.symm)]; exact valV_neg (p := (k, y)) e
  | p :: r, hn => by
    rw [List.cons_append]
    have hk : ¬ p.1 = k := fun z => by rw [valV_pos z] at hn; cases hn
    rw [valV_neg hk] at hn
    have ih := valV_snoc k j y r hn
    by_cases e : p.1 = j
    · rw [valV_pos e, valV_pos e, if_neg (fun z => hk (e.trans z))]
    · rw [valV_neg e, valV_neg e, ih]
theorem valV_put (kvs : List (κ × V)) (k j : κ) (y : V) : valV (putK kvs k y) j = if j = k then some y else valV kvs j := by
  unfold putK
  by_cases a : (kvs.any fun kv => decide (kv.1 = k)) = true
  · rw [if_pos a, valV_map]
    rw [valV_any] at a
    by_cases e : j = k
    · obtain ⟨x, hx⟩ := Option.isSome_iff_exists.mp a
      rw [if_pos e, e, hx, Option.map_some, if_pos rfl]
    · rw [if_neg e]
      cases valV kvs j with
      | none => rfl
      | some x => rw [Option.map_some, if_neg e]
  · rw [if_neg a]
    refine valV_snoc k j y kvs ?_
    rw [valV_any] at a
    cases q : valV kvs k with
    | none => rfl
    | some x => rw [q] at a; exact (a rfl).elim
theorem length_putK (kvs : List (κ × V)) (k : κ) (v : V) : (putK kvs k v).length ≤ kvs.length + 1 := by
  unfold putK
  split
  · rw [List.length_map]; omega
  · rw [List.length_append, List.length_cons, List.length_nil]; omega
theorem putK_new {kvs : List (κ × V)} {k : κ} (v : V) (h : valV kvs k = none) : putK kvs k v = kvs ++ [(k, v)] := by
  unfold putK
  rw [valV_any, h]
  exact if_neg (by decide)

theorem RelO.isSome_eq {o : Option V} {u : Option Value} (r : RelO o u) : o.isSome = u.isSome := by
  cases o with
  | none => cases u with
    | none => rfl
    | some _ => exact (show False from r).elim
  | some _ => cases u with
    | none => exact (show False from r).elim
    | some _ => rfl
theorem RelO.getD {o : Option V} {u : Option Value} {d : V} {d' : Value} (r : RelO o u) (rd : RelV d d') : RelV (o.getD d) (u.getD d') := by
  cases o with
  | none => cases u with
    | none => exact rd
    | some _ => exact (show False from r).elim
  | some _ => cases u with
    | none => exact (show False from r).elim
    | some _ => exact r

/-- raw tables of the same keys -/
theorem KV.val {kvs : List (κ × V)} {vs : List (κ × Value)} (r : KV kvs vs) (k : κ) : RelO (valV kvs k) (valueAt vs k) := by
  unfold KV at r
  induction r with
  | nil => exact True.intro
  | @cons p q ps qs h t ih =>
    obtain ⟨h1, h2⟩ := h
    by_cases e : p.1 = k
    · have e' : q.1 = k := h1.symm.trans e
      have b : valueAt (q :: qs) k = some q.2 := by simp [valueAt, List.find?_cons, e']
      rw [valV_pos e, b]; exact h2
    · have e' : ¬ q.1 = k := fun z => e (h1.trans z)
      have b : valueAt (q :: qs) k = valueAt qs k := by simp [valueAt, List.find?_cons, e']
      rw [valV_neg e, b]; exact ih
theorem KV.any {kvs : List (κ × V)} {vs : List (κ × Value)} (r : KV kvs vs) (k : κ) : (kvs.any fun kv => decide (kv.1 = k)) = vs.any fun kv => decide (kv.1 = k) := by
  unfold KV at r
  induction r with
  | nil => rfl
  | cons h t ih => rw [List.any_cons, List.any_cons, ih, h.1]
theorem KV.repl {kvs : List (κ × V)} {vs : List (κ × Value)} (r : KV kvs vs) (k : κ) {y : V} {u : Value} (ry : RelV y u) :
    KV (kvs.map fun kv => if kv.1 = k then (kv.1, y) else kv) (vs.map fun kv => if kv.1 = k then (kv.1, u) else kv) := by
  unfold KV at r ⊢
  induction r with
  | nil => exact .nil
  | @cons p q ps qs h t ih =>
    rw [List.map_cons, List.map_cons]
    refine .cons ?_ ih
    obtain ⟨h1, h2⟩ := h
    by_cases e : p.1 = k
    · rw [if_pos e, if_pos (h1.symm.trans e)]; exact ⟨h1, ry⟩
    · rw [if_neg e, if_neg (fun z => e (h1.trans z))]; exact ⟨h1, h2⟩
theorem KV.put {kvs : List (κ × V)} {vs : List (κ × Value)} (r : KV kvs vs) (k : κ) {y : V} {u : Value} (ry : RelV y u) : KV (putK kvs k y) (stored vs k u) := by
  unfold putK stored
  rw [r.any k]
  by_cases e : (vs.any fun kv => decide (kv.1 = k)) = true
  · rw [if_pos e, if_pos e]; exact r.repl k ry
  · rw [if_neg e, if_neg e]; exact Paired.snoc r ⟨rfl, ry⟩
theorem KV.drop {kvs : List (κ × V)} {vs : List (κ × Value)} (r : KV kvs vs) (k : κ) : KV (dropK kvs k) (without vs k) := by
  unfold KV at r ⊢
  unfold dropK without
  induction r with
  | nil => exact .nil
  | @cons p q ps qs h t ih =>
    obtain ⟨h1, h2⟩ := h
    rw [List.filter_cons, List.filter_cons]
    by_cases e : p.1 = k
    · have a : ¬ decide (p.1 ≠ k) = true := by simp [e]
      have b : ¬ decide (q.1 ≠ k) = true := by simp [h1.symm.trans e]
      rw [if_neg a, if_neg b]; exact ih
    · have e' : ¬ q.1 = k := fun z => e (h1.trans z)
      have a : decide (p.1 ≠ k) = true := by simp [e]
      have b : decide (q.1 ≠ k) = true := by simp [e']
      rw [if_pos a, if_pos b]; exact .cons ⟨h1, h2⟩ ih
theorem KV.keys {kvs : List (κ × V)} {vs : List (κ × Value)} (r : KV kvs vs) : kvs.map (·.1) = vs.map (·.1) := by
  unfold KV at r
  induction r with
  | nil => rfl
  | cons h t ih => rw [List.map_cons, List.map_cons, ih, h.1]
theorem KV.length {kvs : List (κ × V)} {vs : List (κ × Value)} (r : KV kvs vs) : kvs.length = vs.length := Paired.length r
theorem dropK_le (kvs : List (κ × V)) (k : κ) : (dropK kvs k).length ≤ kvs.length := List.length_filter_le _ _
end


/-! ### a tracked dict, its keys ints and texts or tuples of these -/
theorem kV_is {P : Program} {w : World} {k : Key} {u : Value} (r : RelV (kV k) u) : (mixKind P w).is k u = true := by
  cases k with
  | inl i => obtain ⟨t, e⟩ := (show ∃ t, u = Value.int i t from r); subst e; exact mixKind_int P w i t
  | inr x => obtain ⟨t, e⟩ := (show ∃ t, u = Value.str x t from r); subst e; exact mixKind_str P w x t
theorem kV_inj {a b : Key} (e : kV a = kV b) : a = b := by
  cases a with
  | inl i => cases b with
    | inl j => have e' : V.int i = V.int j := e; injection e' with e'; rw [e']
    | inr y => exact nomatch (show V.int i = V.str y from e)
  | inr x => cases b with
    | inl j => exact nomatch (show V.str x = V.int j from e)
    | inr y => have e' : V.str x = V.str y := e; injection e' with e'; rw [e']
theorem kVs_inj : ∀ {a b : List Key}, a.map kV = b.map kV → a = b
  | [], [], _ => rfl
  | [], _ :: _, e => by simp at e
  | _ :: _, [], e => by simp at e
  | x :: xs, y :: ys, e => by
    rw [List.map_cons, List.map_cons] at e
    injection e with e1 e2
    rw [kV_inj e1, kVs_inj e2]
theorem items_are {P : Program} {w : World} : ∀ {ks : List Key} {us : List Value}, Vals (ks.map kV) us → ItemsAre (mixKind P w) ks us
  | [], _, r => by rw [List.map_nil] at r; cases r; exact .nil
  | k :: ks, _, r => by
    rw [List.map_cons] at r
    cases r with
    | cons h t => exact .cons (kV_is h) (items_are t)

/-- raw entries of a dict with tuple keys -/
abbrev KT (H : Hp) : List (List Key × V) → List (List Key × Addr × Value) → Prop := Paired fun p q => p.1 = q.1 ∧ H q.2.1 = some (.tup (p.1.map kV)) ∧ RelV p.2 q.2.2
theorem KT.val {H : Hp} {kvs : List (List Key × V)} {xs : List (List Key × Addr × Value)} (r : KT H kvs xs) (k : List Key) : RelO (valV kvs k) ((atKey xs k).map (·.2)) := by
  induction r with
  | nil => exact True.intro
  | @cons p q ps qs h t ih =>
    obtain ⟨h1, _, h2⟩ := h
    by_cases e : p.1 = k
    · have e' : q.1 = k := h1.symm.trans e
      have b : atKey (q :: qs) k = some q.2 := by simp [atKey, List.find?_cons, e']
      rw [valV_pos e, b]; exact h2
    · have e' : ¬ q.1 = k := fun z => e (h1.trans z)
      have b : atKey (q :: qs) k = atKey qs k := by simp [atKey, List.find?_cons, e']
      rw [valV_neg e, b]; exact ih
theorem KT.repl {H : Hp} {kvs : List (List Key × V)} {xs : List (List Key × Addr × Value)} (r : KT H kvs xs) (k : List Key) {y : V} {u : Value} (ry : RelV y u) :
    KT H (kvs.map fun kv => if kv.1 = k then (kv.1, y) else kv) (xs.map (putAt k u)) := by
  induction r with
  | nil => exact .nil
  | @cons p q ps qs h t ih =>
    rw [List.map_cons, List.map_cons]
    refine .cons ?_ ih
    obtain ⟨h1, h2, h3⟩ := h
    unfold putAt
    by_cases e : p.1 = k
    · rw [if_pos e, if_pos (h1.symm.trans e)]; exact ⟨h1, h2, ry⟩
    · rw [if_neg e, if_neg (fun z => e (h1.trans z))]; exact ⟨h1, h2, h3⟩
theorem KT.put {H : Hp} {kvs : List (List Key × V)} {xs : List (List Key × Addr × Value)} (r : KT H kvs xs) (k : List Key) {b : Addr} {y : V} {u : Value} (hb : H b = some (.tup (k.map kV))) (ry : RelV y u) :
    KT H (putK kvs k y) (storedH xs k b u) := by
  have e : (kvs.any fun kv => decide (kv.1 = k)) = (atKey xs k).isSome := by
    rw [valV_any, (r.val k).isSome_eq, Option.isSome_map]
  unfold putK storedH
  rw [e]
  by_cases q : (atKey xs k).isSome = true
  · rw [if_pos q, if_pos q]; exact r.repl k ry
  · rw [if_neg q, if_neg q]; exact Paired.snoc r ⟨rfl, hb, ry⟩
theorem KT.keeps {H H' : Hp} {kvs : List (List Key × V)} {xs : List (List Key × Addr × Value)} (r : KT H kvs xs) (ht : ∀ b ys, H b = some (.tup ys) → H' b = some (.tup ys)) : KT H' kvs xs :=
  Paired.mapP r fun _ _ z => ⟨z.1, ht _ _ z.2.1, z.2.2⟩

section
variable {P : Program} {w : World} {H : Hp} {h : Heap} {a : Addr}
theorem rd_of {u : HO} (ok : HOk P w H h) (e : Rd H a u) : ObjOk P w H h a u := e.ok ok
theorem dk_rd {kvs : List (Key × V)} (ok : HOk P w H h) (e : Rd H a (.dK kvs)) : kvs.length ≤ sizeLine ∧ (a == sysModules) = false ∧ ∃ vs, KV kvs vs ∧ h.DictOf (mixKind P w) a vs :=
  show ObjOk P w H h a (.dK kvs) from rd_of ok e
theorem dk_of {kvs : List (Key × V)} (ok : HOk P w H h) (e : H a = some (.dK kvs)) : kvs.length ≤ sizeLine ∧ (a == sysModules) = false ∧ ∃ vs, KV kvs vs ∧ h.DictOf (mixKind P w) a vs := dk_rd ok (.inl e)
/-- a tracked tuple of ints and texts is a key -/
theorem key_of {ks : List Key} (ok : HOk P w H h) (e : H a = some (.tup (ks.map kV))) : (tupleKind (mixKind P w)).is h ks a := by
  obtain ⟨_, its, r, o, h1, h2, n, h3⟩ := (show ObjOk P w H h a (.tup (ks.map kV)) from ok a _ e)
  exact ⟨o, its.toArray, n, h1, h2, h3, by simpa using items_are r⟩
theorem dt_rd {kvs : List (List Key × V)} (ok : HOk P w H h) (e : Rd H a (.dT kvs)) : kvs.length ≤ sizeLine ∧ (a == sysModules) = false ∧
    ∃ xs, KT H kvs xs ∧ h.DictOfH (tupleKind (mixKind P w)) a xs := by
  obtain ⟨z, y, xs, r, o, es, ep, h1, h2, h3, h4, h5⟩ := (show ObjOk P w H h a (.dT kvs) from rd_of ok e)
  refine ⟨z, y, xs, r, o, es, ep, h1, h2, h3, h4, fun x hx => ?_, h5⟩
  have all : ∀ {l : List (List Key × V)} {m : List (List Key × Addr × Value)}, KT H l m → ∀ x ∈ m, (tupleKind (mixKind P w)).is h x.1 x.2.1 := by
    intro l m q
    induction q with
    | nil => intro x hx; exact nomatch hx
    | @cons p q ps qs hq t ih =>
      intro x hx
      rcases List.mem_cons.mp hx with e | hx
      · subst e
        exact key_of ok (by rw [← hq.1]; exact hq.2.1)
      · exact ih x hx
  exact all r x hx
theorem dt_of {kvs : List (List Key × V)} (ok : HOk P w H h) (e : H a = some (.dT kvs)) : kvs.length ≤ sizeLine ∧ (a == sysModules) = false ∧
    ∃ xs, KT H kvs xs ∧ h.DictOfH (tupleKind (mixKind P w)) a xs := dt_rd ok (.inl e)
end

/-- what the dict at a holds at the key y -/
def DGet (H : Hp) (a : Addr) (y : V) (r : Option V) : Prop :=
  (∃ kvs k, Rd H a (.dK kvs) ∧ y = kV k ∧ r = valV kvs k) ∨ ∃ kvs k b, Rd H a (.dT kvs) ∧ y = .ref b ∧ H b = some (.tup (k.map kV)) ∧ r = valV kvs k
/-- the heap behind a[y] = v -/
def DPut (H : Hp) (a : Addr) (y v : V) (H' : Hp) : Prop :=
  (∃ kvs k, H a = some (.dK kvs) ∧ y = kV k ∧ kvs.length < sizeLine ∧ H' = upd H a (.dK (putK kvs k v))) ∨
  ∃ kvs k b, H a = some (.dT kvs) ∧ y = .ref b ∧ H b = some (.tup (k.map kV)) ∧ kvs.length < sizeLine ∧ H' = upd H a (.dT (putK kvs k v))
theorem DGet.k {H : Hp} {a : Addr} {kvs : List (Key × V)} {k : Key} (e : H a = some (.dK kvs)) : DGet H a (kV k) (valV kvs k) := .inl ⟨kvs, k, .inl e, rfl, rfl⟩
theorem DGet.t {H : Hp} {a b : Addr} {kvs : List (List Key × V)} {k : List Key} (e : H a = some (.dT kvs)) (eb : H b = some (.tup (k.map kV))) : DGet H a (.ref b) (valV kvs k) := .inr ⟨kvs, k, b, .inl e, rfl, eb, rfl⟩
theorem DPut.k {H : Hp} {a : Addr} {kvs : List (Key × V)} {k : Key} {v : V} (e : H a = some (.dK kvs)) (hl : kvs.length < sizeLine) : DPut H a (kV k) v (upd H a (.dK (putK kvs k v))) := .inl ⟨kvs, k, e, rfl, hl, rfl⟩
theorem DPut.t {H : Hp} {a b : Addr} {kvs : List (List Key × V)} {k : List Key} {v : V} (e : H a = some (.dT kvs)) (eb : H b = some (.tup (k.map kV))) (hl : kvs.length < sizeLine) :
    DPut H a (.ref b) v (upd H a (.dT (putK kvs k v))) := .inr ⟨kvs, k, b, e, rfl, eb, hl, rfl⟩


section
variable {X : Cx} {pins : List (Addr × Obj)} {σ : St} {H : Hp} {s : Shared} {a : Addr} {y v : V} {u r : Value} {o : Option V} {A : Around} {E : Value → Shared → Prop}

theorem Inv.big (I : Inv X pins σ H s) : sysModules < s.heap.objs.size := by
  have h : mainGlobals < s.heap.objs.size := (I.mod.glob.keeps I.bk).lt
  exact Nat.lt_trans (by decide) h

/-- d[y], there -/
theorem d_getItem {Q : Value → Shared → Prop} (hu : A.units + 1 < cLine) (I : Inv X pins σ H s) (g : DGet H a y (some v)) (ry : RelV y u) (h : ∀ w' s', Inv X pins σ H s' → RelV v w' → Q w' s') :
    wpAny (model X.prog X.w) A (getItem (.ref a) u) Q E s := by
  rcases g with ⟨kvs, k, e, ey, l⟩ | ⟨kvs, k, b, e, ey, eb, l⟩
  · subst ey
    obtain ⟨z, hd, vs, rel, dd⟩ := dk_rd I.hok e
    obtain ⟨w', hw, rw'⟩ := RelO.some_of (v := v) (o := valueAt vs k) (by rw [l]; exact rel.val k)
    exact wpAny_getItem_of (kV_is ry) dd.mapOf hw (h w' _ (I.tok _) rw')
  · subst ey
    cases (show u = Value.ref b from ry)
    obtain ⟨z, hd, xs, rel, dd⟩ := dt_rd I.hok e
    obtain ⟨w', hw, rw'⟩ := RelO.some_of (v := v) (o := (atKey xs k).map (·.2)) (by rw [l]; exact rel.val k)
    obtain ⟨p, hp, hp2⟩ := Option.map_eq_some_iff.mp hw
    refine wpAny_getItem_heap (tupleKind_room_in1 hu) (key_of I.hok eb) dd hp ?_
    rw [hp2]
    exact h w' _ (I.tok _) rw'
/-- y in d -/
theorem d_in {Q : Value → Shared → Prop} (hu : A.units + 1 < cLine) (I : Inv X pins σ H s) (g : DGet H a y o) (ry : RelV y u) (h : ∀ s', Inv X pins σ H s' → Q (.bool o.isSome) s') :
    wpAny (model X.prog X.w) A (compareOp .In u (.ref a)) Q E s := by
  rcases g with ⟨kvs, k, e, ey, l⟩ | ⟨kvs, k, b, e, ey, eb, l⟩
  · subst ey
    obtain ⟨z, hd, vs, rel, dd⟩ := dk_rd I.hok e
    refine wpAny_in_of (kV_is ry) hd dd.mapOf ?_
    rw [← (rel.val k).isSome_eq, ← l]
    exact h _ (I.tok _)
  · subst ey
    cases (show u = Value.ref b from ry)
    obtain ⟨z, hd, xs, rel, dd⟩ := dt_rd I.hok e
    refine wpAny_in_heap (tupleKind_room_in1 hu) (key_of I.hok eb) hd dd ?_
    have q := (rel.val k).isSome_eq
    rw [Option.isSome_map] at q
    rw [← q, ← l]
    exact h _ (I.tok _)
theorem d_notIn {Q : Value → Shared → Prop} (hu : A.units + 1 < cLine) (I : Inv X pins σ H s) (g : DGet H a y o) (ry : RelV y u) (h : ∀ s', Inv X pins σ H s' → Q (.bool (!o.isSome)) s') :
    wpAny (model X.prog X.w) A (compareOp .NotIn u (.ref a)) Q E s := by
  rcases g with ⟨kvs, k, e, ey, l⟩ | ⟨kvs, k, b, e, ey, eb, l⟩
  · subst ey
    obtain ⟨z, hd, vs, rel, dd⟩ := dk_rd I.hok e
    refine wpAny_notIn_of (kV_is ry) hd dd.mapOf ?_
    rw [← (rel.val k).isSome_eq, ← l]
    exact h _ (I.tok _)
  · subst ey
    cases (show u = Value.ref b from ry)
    obtain ⟨z, hd, xs, rel, dd⟩ := dt_rd I.hok e
    refine wpAny_notIn_heap (tupleKind_room_in1 hu) (key_of I.hok eb) hd dd ?_
    have q := (rel.val k).isSome_eq
    rw [Option.isSome_map] at q
    rw [← q, ← l]
    exact h _ (I.tok _)
/-- a dict's object is replaced -/
theorem d_write {h' : Heap} {t' : Nat} {ob : HO} (I : Inv X pins σ H s) (mu : Mut (H a)) (hs : Heap.SameBut a s.heap h') (he : ∃ q, h'.get? a = some q) (new : ObjOk X.prog X.w (upd H a ob) h' a ob) :
    Inv X pins σ (upd H a ob) { s with heap := h', toks := t' } :=
  I.write (x := a) (e := a) mu (.inl rfl) (fun b q hb z => (hs.2 b hb).trans z) he new
theorem dk_new {P : Program} {w : World} {H' : Hp} {h' : Heap} {kvs : List (Key × V)} {vs : List (Key × Value)} (z : kvs.length ≤ sizeLine) (hd : (a == sysModules) = false) (rel : KV kvs vs) (dd : h'.DictOf (mixKind P w) a vs) :
    ObjOk P w H' h' a (.dK kvs) := ⟨z, hd, vs, rel, dd⟩
/-- d[y] = v -/
theorem d_setItem {H' : Hp} {Q : Unit → Shared → Prop} (hu : A.units + 1 < cLine) (I : Inv X pins σ H s) (g : DPut H a y v H') (ry : RelV y u) (rv : RelV v r) (h : ∀ s', Inv X pins σ H' s' → Q () s') :
    wpAny (model X.prog X.w) A (setItem (.ref a) u r) Q E s := by
  rcases g with ⟨kvs, k, e, ey, l, eH⟩ | ⟨kvs, k, b, e, ey, eb, l, eH⟩
  · subst ey eH
    obtain ⟨z, hd, vs, rel, dd⟩ := dk_of I.hok e
    have hz : vs.length ≤ sizeLine := by rw [← rel.length]; exact z
    have hl : (putK kvs k v).length ≤ sizeLine := by have := length_putK kvs k v; omega
    refine wpAny_setItem_pairs (hsz := hz) (kV_is ry) dd fun h' dd' hs => h _ ?_
    have he : ∃ q, h'.get? a = some q := let ⟨q, _, _, hq, _⟩ := dd'; ⟨q, hq⟩
    exact d_write I (by rw [e]; exact True.intro) hs he (dk_new hl hd (rel.put k rv) dd')
  · subst ey eH
    cases (show u = Value.ref b from ry)
    obtain ⟨z, hd, xs, rel, dd⟩ := dt_of I.hok e
    have hz : xs.length ≤ sizeLine := by rw [← Paired.length rel]; exact z
    have hl : (putK kvs k v).length ≤ sizeLine := by have := length_putK kvs k v; omega
    refine wpAny_setItem_heap (hsz := hz) (tupleKind_room_in1 hu) (key_of I.hok eb) dd fun h' dd' hs => h _ ?_
    obtain ⟨q, es, ep, hq, h2, h3, h4, _, h5⟩ := dd'
    refine d_write I (by rw [e]; exact True.intro) hs ⟨q, hq⟩ ⟨hl, hd, _, (rel.put k eb rv).keeps fun c ys ec => ?_, q, es, ep, hq, h2, h3, h4, h5⟩
    rw [upd_ne (ne_of ec e (fun z => nomatch z))]
    exact ec
end

section
variable {X : Cx} {pins : List (Addr × Obj)} {σ : St} {H : Hp} {s : Shared} {a : Addr} {kvs : List (Key × V)} {k : Key} {u : Value} {A : Around} {E : Value → Shared → Prop}
/-- del d[k] -/
theorem d_delItem {Q : Unit → Shared → Prop} (I : Inv X pins σ H s) (e : H a = some (.dK kvs)) (ry : RelV (kV k) u) (l : (valV kvs k).isSome = true) (h : ∀ s', Inv X pins σ (upd H a (.dK (dropK kvs k))) s' → Q () s') :
    wpAny (model X.prog X.w) A (delItem (.ref a) u) Q E s := by
  obtain ⟨z, hd, vs, rel, dd⟩ := dk_of I.hok e
  refine wpAny_delItem_slot dd.typeIs (by decide) PySem.F.slot_dict_delitem
    (call_meetsIn PySem.F.slot_dict_delitem dd.typeIs PySem.F.entry_dict_delitem (PySem.F.args_dict_delitem_2 _ _) (meets_dict_delitem_pairs (mixKind X.prog X.w) a (kV_is ry)) ⟨vs, dd, by rw [← rel.length]; exact z, by rw [← (rel.val k).isSome_eq]; exact l, fun h' dd' hs => h _ ?_⟩)
  have he : ∃ q, h'.get? a = some q := let ⟨q, _, _, hq, _⟩ := dd'; ⟨q, hq⟩
  exact d_write I (by rw [e]; exact True.intro) hs he (dk_new (Nat.le_trans (dropK_le kvs k) z) hd (rel.drop k) dd')
/-- d.pop(k[, x]), there -/
theorem d_pop {v : V} {more : List Value} {Q : Value → Shared → Prop} (I : Inv X pins σ H s) (e : H a = some (.dK kvs)) (ry : RelV (kV k) u) (l : valV kvs k = some v) (hm : more = [] ∨ ∃ x, more = [x])
    (h : ∀ w' s', Inv X pins σ (upd H a (.dK (dropK kvs k))) s' → RelV v w' → Q w' s') : wpAny (model X.prog X.w) A (call (.builtin "dict.pop") (.ref a :: u :: more)) Q E s := by
  obtain ⟨z, hd, vs, rel, dd⟩ := dk_of I.hok e
  obtain ⟨w', hw, rw'⟩ := RelO.some_of (v := v) (o := valueAt vs k) (by rw [← l]; exact rel.val k)
  have hp : (keyPart u).isSome = true := by
    cases k with
    | inl i => obtain ⟨t, q⟩ := (show ∃ t, u = Value.int i t from ry); subst q; rfl
    | inr x => obtain ⟨t, q⟩ := (show ∃ t, u = Value.str x t from ry); subst q; rfl
  have ha : argsOk "dict.pop" ⟨.ref a :: u :: more, []⟩ := by
    rcases hm with q | ⟨x, q⟩
    · subst q; exact PySem.F.args_dict_pop_2 _ _
    · subst q; exact PySem.F.args_dict_pop_3 _ _ _
  refine call_meetsIn PySem.F.slot_dict_pop dd.typeIs PySem.F.entry_dict_pop ha (meets_dict_pop_there (mixKind X.prog X.w) a (kV_is ry) more hm hp)
    ⟨vs, w', dd, by rw [← rel.length]; exact z, hw, fun h' dd' hs => h w' _ ?_ rw'⟩
  have he : ∃ q, h'.get? a = some q := let ⟨q, _, _, hq, _⟩ := dd'; ⟨q, hq⟩
  exact d_write I (by rw [e]; exact True.intro) hs he (dk_new (Nat.le_trans (dropK_le kvs k) z) hd (rel.drop k) dd')
/-- d.pop(k, x), not there -/
theorem d_popD {r : Value} {Q : Value → Shared → Prop} (I : Inv X pins σ H s) (e : H a = some (.dK kvs)) (ry : RelV (kV k) u) (l : valV kvs k = none) (h : ∀ s', Inv X pins σ H s' → Q r s') :
    wpAny (model X.prog X.w) A (call (.builtin "dict.pop") [.ref a, u, r]) Q E s := by
  obtain ⟨z, hd, vs, rel, dd⟩ := dk_of I.hok e
  have hn : valueAt vs k = none := RelO.none_of (by rw [← l]; exact rel.val k)
  have hp : (keyPart u).isSome = true := by
    cases k with
    | inl i => obtain ⟨t, q⟩ := (show ∃ t, u = Value.int i t from ry); subst q; rfl
    | inr x => obtain ⟨t, q⟩ := (show ∃ t, u = Value.str x t from ry); subst q; rfl
  exact call_meetsIn PySem.F.slot_dict_pop dd.typeIs PySem.F.entry_dict_pop (PySem.F.args_dict_pop_3 _ _ _) (meets_dict_pop_default (mixKind X.prog X.w) a (kV_is ry) hd hp r) ⟨vs, dd, hn, h _ (I.tok _)⟩
/-- d.clear() -/
theorem d_clear {Q : Value → Shared → Prop} (I : Inv X pins σ H s) (e : H a = some (.dK kvs)) (h : ∀ s', Inv X pins σ (upd H a (.dK [])) s' → Q .none s') : wpAny (model X.prog X.w) A (call (.builtin "dict.clear") [.ref a]) Q E s := by
  obtain ⟨z, hd, vs, rel, dd⟩ := dk_of I.hok e
  refine call_meetsIn PySem.F.slot_dict_clear dd.typeIs PySem.F.entry_dict_clear (PySem.F.args_dict_clear_1 _) (meets_dict_clear (mixKind X.prog X.w) a) ⟨vs, dd, by rw [← rel.length]; exact z, fun h' dd' hs => h _ ?_⟩
  have he : ∃ q, h'.get? a = some q := let ⟨q, _, _, hq, _⟩ := dd'; ⟨q, hq⟩
  exact d_write (t' := s.toks) I (by rw [e]; exact True.intro) hs he (dk_new (Nat.zero_le _) hd .nil dd')
/-- len(d) -/
theorem d_len {Q : Value → Shared → Prop} (I : Inv X pins σ H s) (e : Rd H a (.dK kvs)) (h : ∀ t s', Inv X pins σ H s' → Q (.int kvs.length t) s') : wpAny (model X.prog X.w) A (call (.builtin "len") [.ref a]) Q E s := by
  obtain ⟨z, hd, vs, rel, dd⟩ := dk_rd I.hok e
  refine call_len_dict hd dd (by rw [← rel.length]; rw [sizeLine_eq] at z; omega) ?_
  rw [← rel.length]
  exact h _ _ (I.tok _)
/-- if d -/
theorem d_truth {Q : Bool → Shared → Prop} (I : Inv X pins σ H s) (e : Rd H a (.dK kvs)) (h : ∀ s', Inv X pins σ H s' → Q (!kvs.isEmpty) s') : wpAny (model X.prog X.w) A (truthy (.ref a)) Q E s := by
  obtain ⟨z, hd, vs, rel, dd⟩ := dk_rd I.hok e
  refine wpAny_truthy_dict hd dd (by rw [← rel.length]; rw [sizeLine_eq] at z; omega) ?_
  have q : kvs.isEmpty = vs.isEmpty := by cases rel <;> rfl
  rw [← q]
  exact h _ (I.tok _)
end


/-! ### readings and rules -/
/-- the element of a subscription, not a slice -/
def NoSl (i : Expr) : Prop := ∀ ov iv, subscripted i false ov iv = operate [ov, iv] (getItem ov iv)
theorem subD_of {prog : Program} {w : World} {A : Around} {E : Value → Shared → Prop} {s : Shared} {env : Env} {value slice : Expr} {pos : Pos} {T id : String} {Q : Value → Shared → Prop}
    (hl : typeLookup (.type T) "__getitem__" = pure (some (.builtin id))) (hs : NoSl slice)
    (h : wpAny (model prog w) A (eval value env) (fun o s₁ => wpAny (model prog w) A (eval slice env) (fun i s₂ => s₂.TypeIs o T ∧ wpAny (model prog w) A (getItem o i) Q E s₂) E s₁) E s) :
    wpAny (model prog w) A (eval (.Subscript value slice pos) env) Q E s := by
  refine Subscript_ (wpAny_mono h (fun o s₁ h₁ => wpAny_mono h₁ (fun i s₂ h₂ => ?_) fun _ _ x => x) fun _ _ x => x)
  obtain ⟨hT, h₂⟩ := h₂
  unfold subscriptTail
  refine wpAny_bind ?_
  rw [getitemInPython_of_ne hT.not_modules]
  refine wpAny_bind (wpAny_specialOf hT hl ?_)
  have fin : wpAny (model prog w) A (subscripted slice false o i) (fun r s₃ => wpAny (model prog w) A (letTemporaryGo value o r >>= fun _ => pure r) Q E s₃) E s₂ := by
    rw [hs o i]
    exact wpAny_operating (wpAny_mono h₂ (fun r s₃ h₃ => wpAny_bind (wpAny_letTemporaryGo (wpAny_pure h₃))) fun _ _ x => x)
  first
    | exact wpAny_pure (wpAny_bind fin)
    | exact wpAny_bind (wpAny_pure (wpAny_bind fin))
    | exact wpAny_bind fin

theorem dict_typeIs {X : Cx} {pins : List (Addr × Obj)} {σ : St} {H : Hp} {s : Shared} {a : Addr} {y : V} {o : Option V} (I : Inv X pins σ H s) (g : DGet H a y o) : s.TypeIs (.ref a) "dict" := by
  rcases g with ⟨kvs, k, e, _, _⟩ | ⟨kvs, k, b, e, _, _, _⟩
  · obtain ⟨_, _, vs, _, dd⟩ := dk_rd I.hok e
    exact dd.typeIs
  · obtain ⟨_, _, xs, _, dd⟩ := dt_rd I.hok e
    exact dd.typeIs
theorem dict_noDict {X : Cx} {pins : List (Addr × Obj)} {σ : St} {H : Hp} {s : Shared} {a : Addr} {y : V} {o : Option V} (I : Inv X pins σ H s) (g : DGet H a y o) :
    ∀ b, Value.ref a = .ref b → ∃ ob, s.heap.get? b = some ob ∧ ob.dict = none := fun b q => by
  cases q
  rcases g with ⟨kvs, k, e, _, _⟩ | ⟨kvs, k, b, e, _, _, _⟩
  · obtain ⟨_, _, vs, _, ob, _, _, h1, h2, _⟩ := dk_rd I.hok e
    exact ⟨ob, h1, h2.2.1⟩
  · obtain ⟨_, _, xs, _, ob, _, _, h1, h2, _⟩ := dt_rd I.hok e
    exact ⟨ob, h1, h2.2.1⟩

/-- d[y] -/
def tDGet (td ty : TE) : TE := fun σ H Q => td σ H fun x H1 => ty σ H1 fun y H2 => ∃ a v, x = .ref a ∧ DGet H2 a y (some v) ∧ Q v H2
/-- y in d, y not in d -/
def tDIn (ty td : TE) : TE := fun σ H Q => ty σ H fun y H1 => td σ H1 fun x H2 => ∃ a o, x = .ref a ∧ DGet H2 a y o ∧ Q (.bl o.isSome) H2
def tDNotIn (ty td : TE) : TE := fun σ H Q => ty σ H fun y H1 => td σ H1 fun x H2 => ∃ a o, x = .ref a ∧ DGet H2 a y o ∧ Q (.bl (!o.isSome)) H2
/-- d[y] = v -/
def sDPut (td ty tv : TE) : TS := fun D σ H => tv σ H fun v H1 => td σ H1 fun x H2 => ty σ H2 fun y H3 => ∃ a H4, x = .ref a ∧ DPut H3 a y v H4 ∧ D.nx σ H4
/-- d[y] op= v -/
def sDAug (td ty tv : TE) (rd : V → V → Hp → VK → Prop) : TS := fun D σ H => td σ H fun x H1 => ty σ H1 fun y H2 => ∃ a v, x = .ref a ∧ DGet H2 a y (some v) ∧
  tv σ H2 fun y2 H3 => rd v y2 H3 fun z H4 => ∃ H5, DPut H4 a y z H5 ∧ D.nx σ H5
/-- del d[y] -/
def sDDel (td ty : TE) : TS := fun D σ H => td σ H fun x H1 => ty σ H1 fun y H2 => ∃ a kvs k, x = .ref a ∧ H2 a = some (.dK kvs) ∧ y = kV k ∧ (valV kvs k).isSome = true ∧ D.nx σ (upd H2 a (.dK (dropK kvs k)))

section
variable {X : Cx} {o i e value : Expr} {pos pos' tpos : Pos} {td ty tv : TE}
theorem pe_dget (hu : X.A.units + 1 < cLine) (ho : PE X o td) (hi : PE X i ty) (hs : NoSl i) : PE X (.Subscript o i pos) (tDGet td ty) := by
  intro pins s σ H Q I h
  refine subD_of PySem.F.slot_dict_getitem.lookup hs (thn (ho pins s σ H _ I h) fun u s1 ⟨x, H1, I1, rx, q1⟩ => thn (hi pins s1 σ H1 _ I1 q1) fun iv s2 ⟨y, H2, I2, ry, a, v, ex, g, q2⟩ => ?_)
  subst ex
  obtain rfl : u = Value.ref a := rx
  exact ⟨dict_typeIs I2 g, d_getItem hu I2 g ry fun w' s3 I3 rw' => ⟨v, H2, I3, rw', q2⟩⟩
theorem pc_din (hu : X.A.units + 1 < cLine) (hi : PE X i ty) (ho : PE X o td) : PC X .In i o (tDIn ty td) := by
  intro pins s σ H Q I h
  refine thn (hi pins s σ H _ I h) fun iv s1 ⟨y, H1, I1, ry, q1⟩ => thn (ho pins s1 σ H1 _ I1 q1) fun u s2 ⟨x, H2, I2, rx, a, ov, ex, g, q2⟩ => ?_
  subst ex
  obtain rfl : u = Value.ref a := rx
  exact d_in hu I2 g ry fun s3 I3 => ⟨.bl ov.isSome, H2, I3, rfl, q2⟩
theorem pc_dnotin (hu : X.A.units + 1 < cLine) (hi : PE X i ty) (ho : PE X o td) : PC X .NotIn i o (tDNotIn ty td) := by
  intro pins s σ H Q I h
  refine thn (hi pins s σ H _ I h) fun iv s1 ⟨y, H1, I1, ry, q1⟩ => thn (ho pins s1 σ H1 _ I1 q1) fun u s2 ⟨x, H2, I2, rx, a, ov, ex, g, q2⟩ => ?_
  subst ex
  obtain rfl : u = Value.ref a := rx
  exact d_notIn hu I2 g ry fun s3 I3 => ⟨.bl (!ov.isSome), H2, I3, rfl, q2⟩
theorem ps_dput (hu : X.A.units + 1 < cLine) (ho : PE X o td) (hi : PE X i ty) (hv : PE X value tv) (hs : swapsWith value (some (.Subscript o i pos')) pos.line X.env = pure false) :
    PS X (.Assign [.Subscript o i pos'] value pos) (sDPut td ty tv) := by
  intro pins s σ H D I h
  refine wpAny_Assign_Subscript (thn (hv pins s σ H _ I h) fun r s1 ⟨v, H1, I1, rv, q1⟩ => thn (ho pins s1 σ H1 _ I1 q1) fun u s2 ⟨x, H2, I2, rx, q2⟩ => thn (hi pins s2 σ H2 _ I2 q2) fun iv s3 ⟨y, H3, I3, ry, a, H4, ex, g, q3⟩ => ?_) hs
  subst ex
  obtain rfl : u = Value.ref a := rx
  exact d_setItem hu I3 g ry rv fun s4 I4 => ⟨σ, H4, I4, q3⟩
theorem ps_daug {op : Operator} {rd : V → V → Hp → VK → Prop} (hu : X.A.units + 1 < cLine) (ho : PE X o td) (hi : PE X i ty) (hv : PE X value tv) (hop : InOp X op rd)
    (ha : ∀ ov iv new, augStore i ov iv new = (do holding [new, ov, iv] (setItem ov iv new); release [new, ov, iv] []; pure .next)) : PS X (.AugAssign (.Subscript o i tpos) op value pos) (sDAug td ty tv rd) := by
  intro pins s σ H D I h
  refine wpAny_AugAssign_SubscriptAny (thn (ho pins s σ H _ I h) fun u s1 ⟨x, H1, I1, rx, q1⟩ => thn (hi pins s1 σ H1 _ I1 q1) fun iv s2 ⟨y, H2, I2, ry, a, v, ex, g, q2⟩ => ?_) ha
  subst ex
  obtain rfl : u = Value.ref a := rx
  refine d_getItem hu I2 g ry fun w' s3 I3 rw' => thn (hv pins s3 σ H2 _ I3 q2) fun w2 s4 ⟨y2, H3, I4, ry2, q3⟩ => thn (hop pins s4 σ H3 v y2 w' w2 _ I4 rw' ry2 q3) fun w3 s5 ⟨z, H4, I5, rz, H5, g5, q4⟩ => ?_
  exact d_setItem hu I5 g5 ry rz fun s6 I6 => ⟨σ, H5, I6, q4⟩
theorem ps_ddel (ho : PE X o td) (hi : PE X i ty) : PS X (.Delete [.Subscript o i tpos] pos) (sDDel td ty) := by
  intro pins s σ H D I h
  refine wpAny_Delete (wpAny_deleteEach_cons (wpAny_delete_Subscript (thn (ho pins s σ H _ I h) fun u s1 ⟨x, H1, I1, rx, q1⟩ => thn (hi pins s1 σ H1 _ I1 q1) fun iv s2 ⟨y, H2, I2, ry, a, kvs, k, ex, e, ey, l, q2⟩ => ?_)))
  subst ex ey
  obtain rfl : u = Value.ref a := rx
  exact d_delItem I2 e ry l fun s3 I3 => wpAny_deleteEach_nil ⟨σ, _, I3, q2⟩
end


/-! ### displays -/
theorem dk_empty {P : Program} {w : World} {H : Hp} (h : Heap) (hb : sysModules < h.objs.size) : ObjOk P w H (h.push { cls := .type "dict", data := .dict #[] }) h.objs.size (.dK []) :=
  ⟨Nat.zero_le _, beq_eq_false_iff_ne.mpr (Ne.symm (Nat.ne_of_lt hb)), [], .nil, Heap.DictOf.new h⟩
theorem dt_empty {P : Program} {w : World} {H : Hp} (h : Heap) (hb : sysModules < h.objs.size) : ObjOk P w H (h.push { cls := .type "dict", data := .dict #[] }) h.objs.size (.dT []) :=
  ⟨Nat.zero_le _, beq_eq_false_iff_ne.mpr (Ne.symm (Nat.ne_of_lt hb)), [], .nil, _, #[], 0, Heap.get?_push_size _ rfl, ⟨rfl, rfl, rfl⟩, rfl, rfl, List.nodup_nil⟩
/-- {}, to be a dict of the kind that is wanted -/
def tDNewK : TE := fun _ H Q => ∀ p, H p = none → Q (.ref p) (upd H p (.dK []))
def tDNewT : TE := fun _ H Q => ∀ p, H p = none → Q (.ref p) (upd H p (.dT []))
section
variable {X : Cx} {pos : Pos}
theorem pe_dnewK : PE X (.Dict [] [] pos) tDNewK := fun pins s σ H Q I h =>
  wpAny_Dict_empty ⟨.ref s.heap.objs.size, _, I.laid (a := s.heap.objs.size) (o := .dK []) (t' := s.toks) (fun _ _ q => Heap.get?_push_of_some _ q) (Nat.le_refl _) (dk_empty s.heap I.big), rfl, h _ (I.hok.fresh (Nat.le_refl _))⟩
theorem pe_dnewT : PE X (.Dict [] [] pos) tDNewT := fun pins s σ H Q I h =>
  wpAny_Dict_empty ⟨.ref s.heap.objs.size, _, I.laid (a := s.heap.objs.size) (o := .dT []) (t' := s.toks) (fun _ _ q => Heap.get?_push_of_some _ q) (Nat.le_refl _) (dt_empty s.heap I.big), rfl, h _ (I.hok.fresh (Nat.le_refl _))⟩
end

/-- the pairs of a display, from the left -/
def tPairs : List (TE × TE) → St → Hp → (List (V × V) → Hp → Prop) → Prop
  | [], _, H, Q => Q [] H
  | (tk, tv) :: r, σ, H, Q => tk σ H fun x H1 => tv σ H1 fun y H2 => tPairs r σ H2 fun ps H3 => Q ((x, y) :: ps) H3
abbrev VV : List (V × V) → List (Value × Value) → Prop := Paired fun p q => RelV p.1 q.1 ∧ RelV p.2 q.2
def PPs (X : Cx) (pos : Pos) (keys : List (Option Expr)) (values : List Expr) (trs : List (TE × TE)) : Prop :=
  ∀ (pins : List (Addr × Obj)) (s : Shared) (σ : St) (H : Hp) (Q : List (V × V) → Hp → Prop), Inv X pins σ H s → tPairs trs σ H Q →
    wpAny (model X.prog X.w) X.A (evalPairs (pairTrees keys values X.env pos)) (fun vs s' => ∃ ps H', Inv X pins σ H' s' ∧ VV ps vs ∧ Q ps H') X.xe s
theorem pps_nil {X : Cx} {pos : Pos} : PPs X pos [] [] [] := fun pins s σ H Q I h => pairTrees_nil_walk ⟨[], H, I, .nil, h⟩
theorem pps_cons {X : Cx} {pos : Pos} {k v : Expr} {ks : List (Option Expr)} {vs : List Expr} {tk tv : TE} {trs : List (TE × TE)} (hk : PE X k tk) (hv : PE X v tv) (hr : PPs X pos ks vs trs) :
    PPs X pos (some k :: ks) (v :: vs) ((tk, tv) :: trs) := fun pins s σ H Q I h =>
  pairTrees_cons_walk (thn (hk pins s σ H _ I h) fun u s1 ⟨x, H1, I1, rx, q1⟩ => thn (hv pins s1 σ H1 _ I1 q1) fun w2 s2 ⟨y, H2, I2, ry, q2⟩ =>
    thn (hr pins s2 σ H2 _ I2 q2) fun ws s3 ⟨ps, H3, I3, rel, q3⟩ => ⟨(x, y) :: ps, H3, I3, .cons ⟨rx, ry⟩ rel, q3⟩)

def mergeK (kvs more : List (Key × V)) : List (Key × V) := more.foldl (fun acc kv => putK acc kv.1 kv.2) kvs
theorem KV.merge : ∀ {more : List (Key × V)} {rs : List (Key × Value)} {kvs : List (Key × V)} {vs : List (Key × Value)}, KV more rs → KV kvs vs → KV (mergeK kvs more) (merged vs rs) := by
  intro more rs kvs vs r
  unfold KV at r
  induction r generalizing kvs vs with
  | nil => intro q; exact q
  | @cons p q ps qs h t ih =>
    intro r0
    have e : KV (putK kvs p.1 p.2) (stored vs q.1 q.2) := by
      have := r0.put p.1 h.2
      rw [← h.1]; exact this
    exact ih e
theorem length_mergeK : ∀ (more kvs : List (Key × V)), (mergeK kvs more).length ≤ kvs.length + more.length
  | [], kvs => by show kvs.length ≤ kvs.length + 0; omega
  | p :: r, kvs => by
    have h1 := length_mergeK r (putK kvs p.1 p.2)
    have h2 := length_putK kvs p.1 p.2
    show (mergeK (putK kvs p.1 p.2) r).length ≤ _
    rw [List.length_cons]; omega
theorem carries_of {P : Program} {w : World} : ∀ {kvs : List (Key × V)} {ws : List (Value × Value)}, VV (kvs.map fun kv => (kV kv.1, kv.2)) ws → ∃ rs, Carries (mixKind P w) ws rs ∧ KV kvs rs
  | [], _, r => by rw [List.map_nil] at r; cases r; exact ⟨[], True.intro, .nil⟩
  | p :: kvs, _, r => by
    rw [List.map_cons] at r
    cases r with
    | @cons a b as bs h t =>
      obtain ⟨rs, c, q⟩ := carries_of (P := P) (w := w) t
      obtain ⟨b1, b2⟩ := b
      exact ⟨(p.1, b2) :: rs, ⟨kV_is h.1, rfl, c⟩, .cons ⟨rfl, h.2⟩ q⟩
/-- {k: v, ..} with keys ints and texts; the new dict stands empty while the pairs are made -/
def tDisp (trs : List (TE × TE)) : TE := fun σ H Q => ∀ p, H p = none → tPairs trs σ (upd H p (.dK [])) fun ps H2 => H2 p = some (.dK []) ∧ ∃ kvs : List (Key × V), ps = kvs.map (fun kv => (kV kv.1, kv.2)) ∧ kvs.length ≤ 15 ∧ Q (.ref p) (upd H2 p (.dK (mergeK [] kvs)))
theorem pe_disp {X : Cx} {pos : Pos} {keys : List (Option Expr)} {values : List Expr} {trs : List (TE × TE)} (h : PPs X pos keys values trs) (hall : keys.all (·.isSome) = true) (hl : keys.length = values.length) (h0 : keys ≠ [])
    (h15 : keys.length ≤ 15) : PE X (.Dict keys values pos) (tDisp trs) := by
  intro pins s σ H Q I q
  have hn := I.hok.fresh (Nat.le_refl s.heap.objs.size)
  have I1 := I.laid (a := s.heap.objs.size) (o := .dK []) (h' := s.heap.push { cls := .type "dict", data := .dict #[] }) (t' := s.toks) (fun _ _ q => Heap.get?_push_of_some _ q) (Nat.le_refl _) (dk_empty s.heap I.big)
  refine wpAny_Dict_walk (knd := mixKind X.prog X.w) hall hl h0 h15 (thn (h pins _ σ _ _ I1 (q _ hn)) fun ws s2 ⟨ps, H2, I2, rel, e, kvs, ep, lk, q2⟩ => ?_)
  subst ep
  obtain ⟨rs, c, rk⟩ := carries_of (P := X.prog) (w := X.w) rel
  obtain ⟨z, hd, vs0, r0, dd⟩ := dk_of I2.hok e
  cases r0
  refine ⟨rs, c, dd, fun h' dd' hs => ⟨.ref s.heap.objs.size, _, ?_, rfl, q2⟩⟩
  have hz : (mergeK [] kvs).length ≤ sizeLine := by
    have h1 := length_mergeK kvs []
    rw [List.length_nil] at h1
    rw [sizeLine_eq]; omega
  have he : ∃ q, h'.get? s.heap.objs.size = some q := let ⟨q, _, _, hq, _⟩ := dd'; ⟨q, hq⟩
  exact d_write I2 (by rw [e]; exact True.intro) hs he (dk_new hz hd (rk.merge .nil) dd')


/-! ### methods -/
/-- a method call o.m(e) of a built-in, with one argument: what must be seen of the text -/
structure M1 (X : Cx) (o : Expr) (m : Str) (apos : Pos) (e : Expr) (cpos : Pos) : Prop where
  base : attributeBase o m X.env (eval o X.env) = eval o X.env
  few : ((backTo cpos (starEach [e] X.env)).all (fun x => !x.1) && (backToKw cpos (keywordEach [] X.env)).all (fun x => x.1.isSome)
    && decide (([e] : List Expr).length + ([] : List Keyword).length + (if ([] : List Keyword).isEmpty then 0 else 1) < 30)) = true
  line : (apos.endLine == cpos.line) = true
  trees : backTo cpos (starEach [e] X.env) = [(false, eval e X.env)]
structure M2 (X : Cx) (o : Expr) (m : Str) (apos : Pos) (e f : Expr) (cpos : Pos) : Prop where
  base : attributeBase o m X.env (eval o X.env) = eval o X.env
  few : ((backTo cpos (starEach [e, f] X.env)).all (fun x => !x.1) && (backToKw cpos (keywordEach [] X.env)).all (fun x => x.1.isSome)
    && decide (([e, f] : List Expr).length + ([] : List Keyword).length + (if ([] : List Keyword).isEmpty then 0 else 1) < 30)) = true
  line : (apos.endLine == cpos.line) = true
  trees : backTo cpos (starEach [e, f] X.env) = [(false, eval e X.env), (false, eval f X.env)]

/-- a is a dict, whatever its keys -/
def IsD (H : Hp) (a : Addr) : Prop := (∃ kvs, Rd H a (.dK kvs)) ∨ ∃ kvs, Rd H a (.dT kvs)
theorem isD_at {X : Cx} {pins : List (Addr × Obj)} {σ : St} {H : Hp} {s : Shared} {a : Addr} (I : Inv X pins σ H s) (d : IsD H a) :
    s.TypeIs (.ref a) "dict" ∧ (∀ b, Value.ref a = .ref b → ∃ ob, s.heap.get? b = some ob ∧ ob.dict = none) ∧ (a == sysModules) = false := by
  rcases d with ⟨kvs, e⟩ | ⟨kvs, e⟩
  · obtain ⟨_, hd, vs, _, dd⟩ := dk_rd I.hok e
    refine ⟨dd.typeIs, fun b q => ?_, hd⟩
    cases q
    obtain ⟨ob, _, _, h1, h2, _⟩ := dd
    exact ⟨ob, h1, h2.2.1⟩
  · obtain ⟨_, hd, xs, _, dd⟩ := dt_rd I.hok e
    refine ⟨dd.typeIs, fun b q => ?_, hd⟩
    cases q
    obtain ⟨ob, _, _, h1, h2, _⟩ := dd
    exact ⟨ob, h1, h2.2.1⟩

section
variable {X : Cx} {pins : List (Addr × Obj)} {σ : St} {H : Hp} {s : Shared} {a : Addr} {y d : V} {u r : Value} {o : Option V} {A : Around} {E : Value → Shared → Prop}
/-- d.get(y) -/
theorem d_get1 {Q : Value → Shared → Prop} (hu : A.units + 1 < cLine) (I : Inv X pins σ H s) (g : DGet H a y o) (ry : RelV y u) (h : ∀ w' s', Inv X pins σ H s' → RelV (o.getD .non) w' → Q w' s') :
    wpAny (model X.prog X.w) A (call (.builtin "dict.get") [.ref a, u]) Q E s := by
  rcases g with ⟨kvs, k, e, ey, l⟩ | ⟨kvs, k, b, e, ey, eb, l⟩
  · subst ey
    obtain ⟨z, hd, vs, rel, dd⟩ := dk_rd I.hok e
    refine call_meetsIn PySem.F.slot_dict_get dd.typeIs PySem.F.entry_dict_get (PySem.F.args_dict_get_2 _ _) (meets_dict_get (mixKind X.prog X.w) a (kV_is ry) hd) ⟨_, dd.mapOf, h _ _ (I.tok _) ?_⟩
    rw [l]
    exact (rel.val k).getD rfl
  · subst ey
    cases (show u = Value.ref b from ry)
    obtain ⟨z, hd, xs, rel, dd⟩ := dt_rd I.hok e
    refine call_meetsIn PySem.F.slot_dict_get dd.typeIs PySem.F.entry_dict_get (PySem.F.args_dict_get_2 _ _) (meetsH_dict_get (tupleKind (mixKind X.prog X.w)) a b hd) ⟨tupleKind_room_in1 hu, k, xs, key_of I.hok eb, dd, h _ _ (I.tok _) ?_⟩
    rw [l]
    exact (rel.val k).getD rfl
/-- d.get(y, x) -/
theorem d_get2 {Q : Value → Shared → Prop} (hu : A.units + 1 < cLine) (I : Inv X pins σ H s) (g : DGet H a y o) (ry : RelV y u) (rd : RelV d r) (h : ∀ w' s', Inv X pins σ H s' → RelV (o.getD d) w' → Q w' s') :
    wpAny (model X.prog X.w) A (call (.builtin "dict.get") [.ref a, u, r]) Q E s := by
  rcases g with ⟨kvs, k, e, ey, l⟩ | ⟨kvs, k, b, e, ey, eb, l⟩
  · subst ey
    obtain ⟨z, hd, vs, rel, dd⟩ := dk_rd I.hok e
    refine call_meetsIn PySem.F.slot_dict_get dd.typeIs PySem.F.entry_dict_get (PySem.F.args_dict_get_3 _ _ _) (meets_dict_get_default (mixKind X.prog X.w) a (kV_is ry) hd r) ⟨_, dd.mapOf, h _ _ (I.tok _) ?_⟩
    rw [l]
    exact (rel.val k).getD rd
  · subst ey
    cases (show u = Value.ref b from ry)
    obtain ⟨z, hd, xs, rel, dd⟩ := dt_rd I.hok e
    refine call_meetsIn PySem.F.slot_dict_get dd.typeIs PySem.F.entry_dict_get (PySem.F.args_dict_get_3 _ _ _) (meetsH_dict_get_default (tupleKind (mixKind X.prog X.w)) a b hd r) ⟨tupleKind_room_in1 hu, k, xs, key_of I.hok eb, dd, h _ _ (I.tok _) ?_⟩
    rw [l]
    exact (rel.val k).getD rd
end

def tDGet1 (td ty : TE) : TE := fun σ H Q => td σ H fun x H1 => ∃ a, x = .ref a ∧ IsD H1 a ∧ ty σ H1 fun y H2 => ∃ o, DGet H2 a y o ∧ Q (o.getD .non) H2
def tDGet2 (td ty tx : TE) : TE := fun σ H Q => td σ H fun x H1 => ∃ a, x = .ref a ∧ IsD H1 a ∧ ty σ H1 fun y H2 => tx σ H2 fun z H3 => ∃ o, DGet H3 a y o ∧ Q (o.getD z) H3
/-- d.pop(k): there; d.pop(k, x): there or not -/
def tDPop1 (td ty : TE) : TE := fun σ H Q => td σ H fun x H1 => ∃ a, x = .ref a ∧ IsD H1 a ∧ ty σ H1 fun y H2 => ∃ kvs k v, H2 a = some (.dK kvs) ∧ y = kV k ∧ valV kvs k = some v ∧ Q v (upd H2 a (.dK (dropK kvs k)))
def tDPop2 (td ty tx : TE) : TE := fun σ H Q => td σ H fun x H1 => ∃ a, x = .ref a ∧ IsD H1 a ∧ ty σ H1 fun y H2 => tx σ H2 fun z H3 => ∃ kvs k, H3 a = some (.dK kvs) ∧ y = kV k ∧
  (∀ v, valV kvs k = some v → Q v (upd H3 a (.dK (dropK kvs k)))) ∧ (valV kvs k = none → Q z H3)
section
variable {X : Cx} {o e f : Expr} {apos cpos : Pos} {td ty tx : TE}
theorem pe_dget1 (hu : X.A.units + 1 < cLine) (ho : PE X o td) (he : PE X e ty) (m : M1 X o "get" apos e cpos) : PE X (.Call (.Attribute o "get" apos) [e] [] cpos) (tDGet1 td ty) := by
  intro pins s σ H Q I h
  refine wpAny_Call_method m.base m.few m.line PySem.F.plainAttrs_dict PySem.F.slot_dict_get PySem.F.type_dict_get (thn (ho pins s σ H _ I h) fun u s1 ⟨x, H1, I1, rx, a, ex, d, q1⟩ => ?_)
  subst ex
  obtain rfl : u = Value.ref a := rx
  obtain ⟨t1, t2, _⟩ := isD_at I1 d
  refine ⟨t1, t2, ?_⟩
  rw [m.trees]
  refine Calls.callWith_builtin rfl (Calls.evalArgs_plain (Calls.spliced_cons (thn (he pins s1 σ H1 _ I1 q1) fun iv s2 ⟨y, H2, I2, ry, ov, g, q2⟩ => Calls.spliced_nil ?_)))
  exact d_get1 hu I2 g ry fun w' s3 I3 rw' => ⟨_, H2, I3, rw', q2⟩
theorem pe_dget2 (hu : X.A.units + 1 < cLine) (ho : PE X o td) (he : PE X e ty) (hf : PE X f tx) (m : M2 X o "get" apos e f cpos) : PE X (.Call (.Attribute o "get" apos) [e, f] [] cpos) (tDGet2 td ty tx) := by
  intro pins s σ H Q I h
  refine wpAny_Call_method m.base m.few m.line PySem.F.plainAttrs_dict PySem.F.slot_dict_get PySem.F.type_dict_get (thn (ho pins s σ H _ I h) fun u s1 ⟨x, H1, I1, rx, a, ex, d, q1⟩ => ?_)
  subst ex
  obtain rfl : u = Value.ref a := rx
  obtain ⟨t1, t2, _⟩ := isD_at I1 d
  refine ⟨t1, t2, ?_⟩
  rw [m.trees]
  refine Calls.callWith_builtin rfl (Calls.evalArgs_plain (Calls.spliced_cons (thn (he pins s1 σ H1 _ I1 q1) fun iv s2 ⟨y, H2, I2, ry, q2⟩ =>
    Calls.spliced_cons (thn (hf pins s2 σ H2 _ I2 q2) fun fv s3 ⟨z, H3, I3, rz, ov, g, q3⟩ => Calls.spliced_nil ?_))))
  exact d_get2 hu I3 g ry rz fun w' s4 I4 rw' => ⟨_, H3, I4, rw', q3⟩
theorem pe_dpop1 (ho : PE X o td) (he : PE X e ty) (m : M1 X o "pop" apos e cpos) : PE X (.Call (.Attribute o "pop" apos) [e] [] cpos) (tDPop1 td ty) := by
  intro pins s σ H Q I h
  refine wpAny_Call_method m.base m.few m.line PySem.F.plainAttrs_dict PySem.F.slot_dict_pop PySem.F.type_dict_pop (thn (ho pins s σ H _ I h) fun u s1 ⟨x, H1, I1, rx, a, ex, d, q1⟩ => ?_)
  subst ex
  obtain rfl : u = Value.ref a := rx
  obtain ⟨t1, t2, _⟩ := isD_at I1 d
  refine ⟨t1, t2, ?_⟩
  rw [m.trees]
  refine Calls.callWith_builtin rfl (Calls.evalArgs_plain (Calls.spliced_cons (thn (he pins s1 σ H1 _ I1 q1) fun iv s2 ⟨y, H2, I2, ry, kvs, k, v, ea, ey, l, q2⟩ => Calls.spliced_nil ?_)))
  subst ey
  exact d_pop I2 ea ry l (.inl rfl) fun w' s3 I3 rw' => ⟨v, _, I3, rw', q2⟩
theorem pe_dpop2 (ho : PE X o td) (he : PE X e ty) (hf : PE X f tx) (m : M2 X o "pop" apos e f cpos) : PE X (.Call (.Attribute o "pop" apos) [e, f] [] cpos) (tDPop2 td ty tx) := by
  intro pins s σ H Q I h
  refine wpAny_Call_method m.base m.few m.line PySem.F.plainAttrs_dict PySem.F.slot_dict_pop PySem.F.type_dict_pop (thn (ho pins s σ H _ I h) fun u s1 ⟨x, H1, I1, rx, a, ex, d, q1⟩ => ?_)
  subst ex
  obtain rfl : u = Value.ref a := rx
  obtain ⟨t1, t2, _⟩ := isD_at I1 d
  refine ⟨t1, t2, ?_⟩
  rw [m.trees]
  refine Calls.callWith_builtin rfl (Calls.evalArgs_plain (Calls.spliced_cons (thn (he pins s1 σ H1 _ I1 q1) fun iv s2 ⟨y, H2, I2, ry, q2⟩ =>
    Calls.spliced_cons (thn (hf pins s2 σ H2 _ I2 q2) fun fv s3 ⟨z, H3, I3, rz, kvs, k, ea, ey, q3, q4⟩ => Calls.spliced_nil ?_))))
  subst ey
  cases l : valV kvs k with
  | some v => exact d_pop I3 ea ry l (.inr ⟨fv, rfl⟩) fun w' s4 I4 rw' => ⟨v, _, I4, rw', q3 v l⟩
  | none => exact d_popD I3 ea ry l fun s4 I4 => ⟨z, H3, I4, rz, q4 l⟩
end

/-! ### dict(d): a copy -/
section
variable {X : Cx} {pins : List (Addr × Obj)} {σ : St} {H : Hp} {s : Shared} {a : Addr} {kvs : List (Key × V)} {A : Around} {E : Value → Shared → Prop}
theorem d_copyOf {Q : Value → Shared → Prop} (I : Inv X pins σ H s) (e : Rd H a (.dK kvs)) (h : ∀ p s', H p = none → Inv X pins σ (upd H p (.dK kvs)) s' → Q (.ref p) s') : wpAny (model X.prog X.w) A (call (.type "dict") [.ref a]) Q E s := by
  obtain ⟨z, hd, vs, rel, dd⟩ := dk_rd I.hok e
  refine kt_call_dict hd dd (by rw [← rel.length]; exact z) fun h' dd' hs => ?_
  refine h _ _ (I.hok.fresh (Nat.le_refl _)) (I.laid (a := s.heap.objs.size) (o := .dK kvs) (t' := s.toks) (fun b q hq => ?_) (Nat.le_refl _) (dk_new z (beq_eq_false_iff_ne.mpr (Ne.symm (Nat.ne_of_lt I.big))) rel dd'))
  exact (hs.2 b (Nat.ne_of_lt (Heap.lt_size hq))).trans (Heap.get?_push_of_some _ hq)
end


section
variable {X : Cx} {pins : List (Addr × Obj)} {σ : St} {H : Hp} {s : Shared} {a : Addr} {y : V} {u : Value} {A : Around} {E : Value → Shared → Prop}
/-- d[y], not there: a KeyError -/
theorem d_missing {Q : Value → Shared → Prop} (hu : A.units + 1 < cLine) (hh : A.handled = none) (I : Inv X pins σ H s) (g : DGet H a y none) (ry : RelV y u)
    (h : ∀ h' e t', Heap.NewExc s.heap h' e "KeyError" → E (.ref e) { s with heap := h', toks := t' }) : wpAny (model X.prog X.w) A (getItem (.ref a) u) Q E s := by
  rcases g with ⟨kvs, k, e, ey, l⟩ | ⟨kvs, k, b, e, ey, eb, l⟩
  · subst ey
    obtain ⟨z, hd, vs, rel, dd⟩ := dk_rd I.hok e
    have hn : valueAt vs k = none := RelO.none_of (by rw [l]; exact rel.val k)
    exact wpAny_getItem_missing_of (kV_is ry) hd hh dd.mapOf hn fun h' ex ne => h h' ex _ ne
  · subst ey
    cases (show u = Value.ref b from ry)
    obtain ⟨z, hd, xs, rel, dd⟩ := dt_rd I.hok e
    have hn : (atKey xs k).map (·.2) = none := RelO.none_of (by rw [l]; exact rel.val k)
    exact wpAny_getItem_missing_heap (tupleKind_room_in1 hu) (key_of I.hok eb) hd hh dd (Option.map_eq_none_iff.mp hn) fun h' ex ne => h h' ex _ ne
end
end L2

namespace Att
open PySem PySem.W PySem.Calls PyProof.Rows

/-! ### the script -/
theorem ints_of_wellAll {P : Params} {h : Heap} : ∀ (ns : List Int) (vs : List Value), WellAll P h vs (ns.map WData.int) → IntsAre vs ns := by
  intro ns
  induction ns with
  | nil =>
    intro vs w
    rw [List.map_nil] at w
    cases w
    exact .nil
  | cons n ns ih =>
    intro vs w
    rw [List.map_cons] at w
    cases w with
    | cons a b =>
      cases a
      exact .cons _ _ (ih _ b)

theorem script_of {l : OpenLaw} {n : Nat} (hn : l.most = some n) {P : Params} {h : Heap} {args : List WData} {vals : List Value}
    (hpre : l.row.toRowW.claim.pre args = true) (hwl : WellAll P h vals args) :
    ∃ a vs ns, vals = [Value.ref a] ∧ args = [WData.list (ns.map WData.int)] ∧ h.get? a = some { cls := .type "list", data := .seq vs.toArray } ∧ IntsAre vs ns ∧ ns.length ≤ n := by
  have hsh : WShape.hasAll [] args [.list .int] = true := (pre_splitW hpre).1
  have hc : l.pre.holds [] { args := args } = true := (pre_splitW hpre).2
  obtain ⟨d, r, rfl, h1, h2⟩ := hasAllW_cons hsh
  obtain rfl := hasAllW_nil h2
  obtain ⟨xs, rfl, h3⟩ := hasW_list h1
  obtain ⟨ns, rfl⟩ := items_int h3
  have hlen : ns.length ≤ n := by
    unfold OpenLaw.pre at hc
    have h4 : (WTm.not (.lt (.lit (.int (n : Int))) (.len (.arg 0)))).holds [] { args := [.list (ns.map .int)] } = true := by
      have h4 := (holds_andW hc).1
      rw [hn] at h4
      exact h4
    have h5 := condW_of h4 (w_not (w_lt w_lit (w_len_list (w_arg rfl))))
    rw [List.length_map] at h5
    refine Nat.le_of_not_lt fun q => ?_
    have q' : (n : Int) < ((ns.length : Nat) : Int) := by omega
    first
      | (rw [decide_eq_true q'] at h5; exact absurd h5 (by decide))
      | (simp at h5; omega)
  cases hwl with
  | cons w1 w2 =>
    cases w2
    cases w1 with
    | list ho hall => exact ⟨_, _, ns, rfl, rfl, ho, ints_of_wellAll ns _ hall, hlen⟩

theorem post_true (l : OpenLaw) (args : List WData) : l.row.toRowW.claim.post args (.bool true) args = true :=
  postW_of (r := l.row.toRowW) (X := (true == true))
    (show WShape.has [] (.bool true) .bool = true by first | rfl | decide | simp [WShape.has, WShape.arms, WShape.armsAll])
    (show (WTm.eq .res (.lit (.bool true))).value [] { args := args, res := some (.bool true), after := args } = some (.bool (true == true)) from w_eq_bool (w_res rfl) w_lit) rfl

/-! ### the attachment: holds_open's last premise (the goal 'hc' behind k_head) from a wpAny of the law's body -/
theorem attach {l : OpenLaw} {n : Nat} {q : Program} {loose : List Str} {XP : (Str → Option Value) → Heap → Prop} {YP : World → Heap → Prop} {d : DefRec} {x : Str}
    (hn : l.most = some n) (hdf : d.params.defaults = [])
    (hbind : ∀ pm cd doc v : Value, bindArgs (docDef d.name d.params d.body d.scope pm cd doc) ⟨[v], []⟩ = pure [(x, v)])
    (hx : d.scope.names.lookup x = some .local ∨ d.scope.names.lookup x = some .cell)
    (hk : d.scope.kind = .function) (hco : d.scope.isCoroutine = false) (hgen : d.scope.isGenerator = false)
    (body : ∀ (w : World) (s₀ s₁ s : Shared) (mg mb : Str → Option Value) (fa : Addr) (o : Obj) (pm cd doc : Value) (a : Addr) (vs : List Value) (ns : List Int),
      Ground q loose [] XP w s₀ mg mb s₁.heap → YP w s₁.heap →
      s₁.heap.get? fa = some o → o.data = .func (docDef d.name d.params d.body d.scope pm cd doc) → s₁.heap.CodeRec cd d.name → mg d.name = some (.ref fa) →
      s₁.heap.get? a = some { cls := .type "list", data := .seq vs.toArray } → IntsAre vs ns → ns.length ≤ n →
      s.gens = #[] → s.os = s₁.os →
      Fr s₁.heap s₁.heap.objs.size s.heap (bindL (envOfC d.name d.scope s₁.heap.objs.size fa cd).kindOf [(x, .ref a)] fun _ => none) →
      Cl s₁.heap.objs.size (cellsFrom (s₁.heap.objs.size + 1) d.scope.names []) s.heap (bindC (envOfC d.name d.scope s₁.heap.objs.size fa cd).kindOf [(x, .ref a)] fun _ => none) →
      wpAny (model l.prog w) (callerA.deeper (envOfC d.name d.scope s₁.heap.objs.size fa cd)) (execs d.body (envOfC d.name d.scope s₁.heap.objs.size fa cd))
        (fun f s' => f = .ret (.bool true) ∧ OldK s₁.heap s'.heap ∧ s'.os = s₁.os ∧ AllBare s'.gens) (fun _ _ => False) s) :
    WalkO q loose XP YP l.row.toRowW d [] (fun f vs => PySem.call f vs) := by
  intro w s₀ s₁ mg mb G Y fa o pm cd doc dV kV ho hd hcd hD hmg hg args vals as hpre hlay hrd hwl hlo
  obtain rfl : dV = .none := Dflts.none hD hdf
  obtain rfl : kV = .none := Dflts.noKw hD
  obtain ⟨a, vs, ns, rfl, rfl, hobj, hints, hlen⟩ := script_of hn hpre hwl
  refine enter_call ?_
  refine call_cells_ret (o := o) (by rw [depth_caller]; decide) ho (fd_plain hd) G.T.nolimit hcd (hbind pm cd doc (.ref a)) (fun y hy => ?_) (fun h₁ tk F X => ?_) hco hgen hk
  · obtain rfl : y = (x, Value.ref a) := List.mem_singleton.mp hy
    rcases hx with e | e
    · exact .inl e
    · exact .inr ⟨e, cellsFrom_some _ _ _ (.inl e)⟩
  · refine wpAny_mono (body w s₀ s₁ { s₁ with heap := h₁, toks := tk } mg mb fa o pm cd doc a vs ns G Y ho (fd_plain hd) hcd hmg hobj hints hlen hg rfl F X) (fun f s' hq => ?_) (fun _ _ hq => hq)
    obtain ⟨rfl, h2, h3, h4⟩ := hq
    exact ⟨.inl ⟨.bool true, .bool true, [], rfl, fun _ => rfl, .bool true, post_true l _, fun _ => ⟨List.Pairwise.nil, fun _ hm => (nomatch hm)⟩⟩, h2, h3, h4⟩

/-- the same from a codeAny of the CALL (for a layer whose function contracts speak of calls) -/
theorem attach_call {l : OpenLaw} {n : Nat} {q : Program} {loose : List Str} {XP : (Str → Option Value) → Heap → Prop} {YP : World → Heap → Prop} {d : DefRec}
    (hn : l.most = some n) (hdf : d.params.defaults = [])
    (call : ∀ (w : World) (s₀ s₁ : Shared) (mg mb : Str → Option Value) (fa : Addr) (o : Obj) (pm cd doc : Value) (a : Addr) (vs : List Value) (ns : List Int),
      Ground q loose [] XP w s₀ mg mb s₁.heap → YP w s₁.heap →
      s₁.heap.get? fa = some o → o.data = .func (docDef d.name d.params d.body d.scope pm cd doc) → s₁.heap.CodeRec cd d.name → mg d.name = some (.ref fa) →
      s₁.heap.get? a = some { cls := .type "list", data := .seq vs.toArray } → IntsAre vs ns → ns.length ≤ n → s₁.gens = #[] →
      codeAny (model l.prog w) callerA (.call (.ref fa) ⟨[.ref a], []⟩) (fun r s' => r = .ok (.ret (.bool true)) ∧ OldK s₁.heap s'.heap ∧ s'.os = s₁.os ∧ AllBare s'.gens) s₁) :
    WalkO q loose XP YP l.row.toRowW d [] (fun f vs => PySem.call f vs) := by
  intro w s₀ s₁ mg mb G Y fa o pm cd doc dV kV ho hd hcd hD hmg hg args vals as hpre hlay hrd hwl hlo
  obtain rfl : dV = .none := Dflts.none hD hdf
  obtain rfl : kV = .none := Dflts.noKw hD
  obtain ⟨a, vs, ns, rfl, rfl, hobj, hints, hlen⟩ := script_of hn hpre hwl
  refine enter_call (codeAny_mono (call w s₀ s₁ mg mb fa o pm cd doc a vs ns G Y ho (fd_plain hd) hcd hmg hobj hints hlen hg) fun r s' hq => ?_)
  obtain ⟨rfl, h2, h3, h4⟩ := hq
  exact ⟨.inl ⟨.bool true, .bool true, [], rfl, fun _ => rfl, .bool true, post_true l _, fun _ => ⟨List.Pairwise.nil, fun _ hm => (nomatch hm)⟩⟩, h2, h3, h4⟩

/-- the same where the top left finished generators (o_head chose holds_openN): nothing may have changed at all and no generator may be left -/
theorem attachN {l : OpenLaw} {n : Nat} {q : Program} {loose : List Str} {XP : (Str → Option Value) → Heap → Prop} {YP : World → Heap → Prop} {d : DefRec} {x : Str}
    (hn : l.most = some n) (hdf : d.params.defaults = [])
    (hbind : ∀ pm cd doc v : Value, bindArgs (docDef d.name d.params d.body d.scope pm cd doc) ⟨[v], []⟩ = pure [(x, v)])
    (hx : d.scope.names.lookup x = some .local ∨ d.scope.names.lookup x = some .cell)
    (hk : d.scope.kind = .function) (hco : d.scope.isCoroutine = false) (hgen : d.scope.isGenerator = false)
    (body : ∀ (w : World) (s₀ s₁ s : Shared) (mg mb : Str → Option Value) (fa : Addr) (o : Obj) (pm cd doc : Value) (a : Addr) (vs : List Value) (ns : List Int),
      Ground q loose [] XP w s₀ mg mb s₁.heap → YP w s₁.heap →
      s₁.heap.get? fa = some o → o.data = .func (docDef d.name d.params d.body d.scope pm cd doc) → s₁.heap.CodeRec cd d.name → mg d.name = some (.ref fa) →
      s₁.heap.get? a = some { cls := .type "list", data := .seq vs.toArray } → IntsAre vs ns → ns.length ≤ n →
      s.gens = #[] → s.os = s₁.os →
      Fr s₁.heap s₁.heap.objs.size s.heap (bindL (envOfC d.name d.scope s₁.heap.objs.size fa cd).kindOf [(x, .ref a)] fun _ => none) →
      Cl s₁.heap.objs.size (cellsFrom (s₁.heap.objs.size + 1) d.scope.names []) s.heap (bindC (envOfC d.name d.scope s₁.heap.objs.size fa cd).kindOf [(x, .ref a)] fun _ => none) →
      wpAny (model l.prog w) (callerA.deeper (envOfC d.name d.scope s₁.heap.objs.size fa cd)) (execs d.body (envOfC d.name d.scope s₁.heap.objs.size fa cd))
        (fun f s' => f = .ret (.bool true) ∧ (∀ b o, s₁.heap.get? b = some o → s'.heap.get? b = some o) ∧ s'.os = s₁.os ∧ s'.gens = #[]) (fun _ _ => False) s) :
    WalkN q loose XP YP l.row.toRowW d [] (fun f vs => PySem.call f vs) := by
  intro w s₀ s₁ mg mb G Y fa o pm cd doc dV kV ho hd hcd hD hmg hg args vals as hpre hlay hrd hwl hlo
  obtain rfl : dV = .none := Dflts.none hD hdf
  obtain rfl : kV = .none := Dflts.noKw hD
  obtain ⟨a, vs, ns, rfl, rfl, hobj, hints, hlen⟩ := script_of hn hpre hwl
  refine enter_callW ?_
  refine call_cells_ret (o := o) (by rw [depth_caller]; decide) ho (fd_plain hd) G.T.nolimit hcd (hbind pm cd doc (.ref a)) (fun y hy => ?_) (fun h₁ tk F X => ?_) hco hgen hk
  · obtain rfl : y = (x, Value.ref a) := List.mem_singleton.mp hy
    rcases hx with e | e
    · exact .inl e
    · exact .inr ⟨e, cellsFrom_some _ _ _ (.inl e)⟩
  · refine wpAny_mono (body w s₀ s₁ { s₁ with heap := h₁, toks := tk } mg mb fa o pm cd doc a vs ns G Y ho (fd_plain hd) hcd hmg hobj hints hlen hg rfl F X) (fun f s' hq => ?_) (fun _ _ hq => hq)
    obtain ⟨rfl, h2, h3, h4⟩ := hq
    exact ⟨.inl ⟨.bool true, .bool true, [], rfl, fun _ => rfl, .bool true, post_true l _, fun _ => ⟨List.Pairwise.nil, fun _ hm => (nomatch hm)⟩⟩, h2, h3, h4⟩

/-! ### rules over ANY heap (no ledger) from facts about the written part K: the library's own take a ledger (News) for what they write -/
section
variable {prog : Program} {w : World} {A : Around} {E : Value → Shared → Prop} {s : Shared} {K : Frag}

/-- a def of the module, or a method (qual 'C.m'), entered: the frame is the next address; cells behind it -/
theorem call_fn {R : Result → Shared → Prop} {name qual : Str} {params : Arguments} {body : List Stmt} {scope : Scope} {dV kV doc pm cdv ct oc : Value} {an od : Option Addr} {osl : Array (Option Value)} {f : Addr} {args : Args} {binds : List (Str × Value)}
    (X : K.In s.heap) (hlim : s.heap.NoLimit) (ho : K.lookup f = some ⟨oc, od, .func (fnOf name qual params body scope dV kV doc pm an cdv ct), osl⟩) (hcd : codeIn K cdv qual = true) (hroom : A.depth < recursionLimit)
    (hbind : BindsTo s (fnOf name qual params body scope dV kV doc pm an cdv ct) args binds)
    (hkind : (binds.all fun y => scope.names.lookup y.1 == some .local || scope.names.lookup y.1 == some .cell) = true)
    (h : ∀ s₁, InCallC s s.heap.objs.size (bindL (envOfC qual scope s.heap.objs.size f cdv).kindOf binds fun _ => none) (cellsFrom (s.heap.objs.size + 1) scope.names [])
        (bindC (envOfC qual scope s.heap.objs.size f cdv).kindOf binds fun _ => none) s₁ →
      wpAny (model prog w) (A.deeper (envOfC qual scope s.heap.objs.size f cdv)) (execs body (envOfC qual scope s.heap.objs.size f cdv))
        (fun fl s' => R (.ok (.ret (match fl with | .ret v => v | _ => .none))) s')
        (fun e s' => wpAny (model prog w) (A.deeper (envOfC qual scope s.heap.objs.size f cdv)) (leaving (envOfC qual scope s.heap.objs.size f cdv) e) (fun _ s'' => R (.error e) s'') (fun e' s'' => R (.error e') s'') s') s₁)
    (hco : scope.isCoroutine = false) (hgen : scope.isGenerator = false) (hk : scope.kind = .function) : codeAny (model prog w) A (.call (.ref f) args) R s := by
  refine codeAny_call_function hroom (X _ _ ho) rfl hco hgen rfl (codeRec_of X hcd) (hbind _ _ _ _ ?_)
  refine wpAny_newFunctionEnv_cells hk (kindsX hkind _) fun env he s₁ x => ?_
  subst he
  exact ⟨hlim.keeps x.toInCall.keep, codeAny_func (h s₁ x)⟩

/-- C(..): dict at size, instance at size + 1, then __init__ -/
theorem make_obj {R : Result → Shared → Prop} {C fI : Addr} {rest : List Value} {kw : List (Str × Value)}
    (X : K.In s.heap) (hm : makesIn K C = true) (hi : findIn K (.ref C) "__init__" = some (some (.ref fI))) (hf : isFn K (.ref fI) = true)
    (h : codeAny (model prog w) (A.under (.builtin "type.__call__" ⟨.ref C :: rest, kw⟩)) (.call (.ref fI) ⟨.ref (s.heap.objs.size + 1) :: rest, kw⟩) (InitBack (s.heap.objs.size + 1) R)
      { s with heap := (s.heap.push emptyDict).push (instObj C s.heap.objs.size) }) : codeAny (model prog w) A (.call (.ref C) ⟨rest, kw⟩) R s := by
  obtain ⟨hh, g, d, t, os⟩ := s
  exact make_core (makes_of X hm) (looks_findIn X hi) (fun self => bind_fn X self (beq_iff_eq.mp hf)) (.inl rfl) h

/-- x.name where the instance's dict holds the name and the class does not -/
theorem get_field {x C : Addr} {ox : Obj} {es : List DictEntry} {n : Nat} {name : Str} {expr : Bool} {v : Value} {Q : Value → Shared → Prop}
    (X : K.In s.heap) (I : PySem.W.InstAt s.heap x ox C (some (dictOf es n))) (hg : plainGet K C name = true) (hh : hasDictIn K C = true) (ha : findIn K (.ref C) name = some none)
    (hl : getL name es = some (some v)) (hv : handedIn v = true) (h : Q v { s with toks := s.toks + 1 }) : wpAny (model prog w) A (getAttr (.ref x) name expr) Q E s :=
  get_value X I (plainGet_of hg).1 (findObj_own hh ha rfl hl) hv h

/-- x.m(..): the method found in the class -/
theorem get_method {x C f : Addr} {ox : Obj} {es : List DictEntry} {n : Nat} {name : Str} {pl : Sem Bool} {Q : Value × List Value → Shared → Prop}
    (X : K.In s.heap) (I : PySem.W.InstAt s.heap x ox C (some (dictOf es n))) (hg : plainGet K C name = true) (hf : findIn K (.ref C) name = some (some (.ref f))) (ht : isFn K (.ref f) = true)
    (hl : getL name es = some none) (h : Q (.ref f, [.ref x]) s) : wpAny (model prog w) A (getMethod (.ref x) name pl) Q E s :=
  method_fn X I (plainGet_of hg).1 (plainGet_of hg).2 hf (beq_iff_eq.mp ht) (by show (lookIn name (dictOf es n)).map _ = _; rw [lookIn_dict, hl]; rfl) h

/-! the whole heap as the ledger: makes every rule that writes through a ledger a rule over any heap -/
def noObjs (h : Heap) : Heap := { h with objs := #[] }
theorem noObjs_get (h : Heap) (b : Addr) : (noObjs h).get? b = none := by
  cases e : (noObjs h).get? b with
  | none => rfl
  | some o => exact absurd (Heap.lt_size e) (Nat.not_lt_zero _)
def ledger (h : Heap) (L d : Addr) : List (Addr × Obj) := (List.range h.objs.size).filterMap fun a => if a = L ∨ a = d then none else (h.get? a).map fun o => (a, o)
theorem mem_ledger {h : Heap} {L d a : Addr} {o : Obj} : (a, o) ∈ ledger h L d ↔ a ≠ L ∧ a ≠ d ∧ h.get? a = some o := by
  unfold ledger
  rw [List.mem_filterMap]
  constructor
  · rintro ⟨b, _, e⟩
    split at e
    · cases e
    · rename_i hb
      obtain ⟨o', ho, e'⟩ := Option.map_eq_some_iff.mp e
      cases e'
      exact ⟨fun q => hb (.inl q), fun q => hb (.inr q), ho⟩
  · rintro ⟨n1, n2, ho⟩
    refine ⟨a, List.mem_range.mpr (Heap.lt_size ho), ?_⟩
    rw [if_neg (show ¬ (a = L ∨ a = d) from fun q => q.elim n1 n2), ho] <;> rfl
theorem news_ledger {h : Heap} {L d : Addr} {od : Obj} (hne : d ≠ L) (ho : h.get? d = some od) : News (noObjs h) L h ([] ++ (d, od) :: ledger h L d) := by
  rintro ⟨a, o⟩ hp
  rcases List.mem_cons.mp hp with e | hp
  · cases e
    exact ⟨ho, hne, noObjs_get _ _⟩
  · obtain ⟨n1, n2, e⟩ := mem_ledger.mp hp
    exact ⟨e, n1, noObjs_get _ _⟩
theorem fr_all {h : Heap} {L : Addr} {m : Str → Option Value} (n : h.Ns L m) : Fr (noObjs h) L h m :=
  ⟨n, fun b o e => (by rw [noObjs_get] at e; cases e), Nat.zero_le _⟩
/-- Upd of the head entry (for append_K, setItem_K ..) -/
theorem upd_ledger {h : Heap} {L d : Addr} {o o' : Obj} : Upd d o o' ((d, o) :: ledger h L d) ((d, o') :: ledger h L d) :=
  .head fun ⟨_, _⟩ hp => (mem_ledger.mp hp).2.1

/-- x.name = v over any heap: L is any namespace of the heap (the frame's, say): its map stays, its object is not told; all else but the dict stays -/
theorem set_field {x C dx L : Addr} {ox : Obj} {m : Str → Option Value} {es es' : List DictEntry} {n n' : Nat} {name : Str} {v : Value} {Q : Unit → Shared → Prop}
    (X : K.In s.heap) (I : PySem.W.InstAt s.heap x ox C (some (dictOf es n))) (hd : ox.dict = some dx) (hL : s.heap.Ns L m) (hne : dx ≠ L)
    (hs : findIn K (.ref C) "__setattr__" = some (some (.builtin "object.__setattr__"))) (hp : plainOver K C = true) (ht : takerIn K C name = some none) (hh : hasDictIn K C = true) (hl : (getL name es).isSome = true)
    (e : (putL name (PyData.keyHash w.params name) (.str name (s.toks + 1)) v es, putN name es n) = (es', n')) (hz : es'.length ≤ 1000)
    (h : ∀ h' : Heap, h'.Ns L m → h'.get? dx = some (dictOf es' n') → (∀ b o, b ≠ dx → b ≠ L → s.heap.get? b = some o → h'.get? b = some o) → Q () { s with heap := h', toks := s.toks + 2 }) :
    wpAny (model prog w) A (setAttr (.ref x) name v) Q E s := by
  obtain ⟨e1, e2⟩ := Prod.mk.inj e
  have hdx : s.heap.get? dx = some (dictOf es n) := by
    have := I.dict
    rw [hd] at this
    exact this
  refine set_plain X I hs (osa_dict (s := { s with toks := s.toks + 1 }) (h₀ := noObjs s.heap) (L := L) (m := m) (od := dictOf es n) (od' := dictOf es' n') (es := es') (n := n') (pre := []) (post := ledger s.heap L dx)
    (fr_all hL) (news_ledger hne hdx) X I hd hp ht hh hl (fun _ q => nomatch q) (fun ⟨_, _⟩ q => (mem_ledger.mp q).2.1) (by rw [putName_dict, e1, e2]) rfl hz fun h' F' N' => ?_)
  exact h h' F'.ns (N'.get (List.Mem.head _)) fun b o n1 n2 ho => N'.get (List.Mem.tail _ (mem_ledger.mpr ⟨n2, n1, ho⟩))
end
end Att

namespace L2
open PySem PySem.Spec PyProof.Rows

theorem vals_ints : ∀ {vs : List Value} {ns : List Int}, IntsAre vs ns → Vals (ns.map V.int) vs
  | _, _, .nil => .nil
  | _, _, .cons n t h => .cons ⟨t, rfl⟩ (vals_ints h)

/-- nothing is tracked but the script, known to the object (or it is an object of the module) -/
def Only (H : Hp) : Prop := ∀ b, H b = none ∨ ∃ o xs, H b = some (.frz o (.lst xs))

/-- THE HEAD: the law's promise, at the heap behind the top. F, the promise of the law's def, may use that base is part of the heap (so K.In base, base.Ns mainGlobals mg stand in Mod) -/
theorem law_call {P : Program} {w : World} {K : PySem.W.Frag} {mg mb : Str → Option Value} {CX : CXT} {k : Nat} {fa a : Addr} {fd : FuncData} {x : Str} {sp : Sp} {s₁ : Shared} {vs : List Value} {ns : List Int}
    (KX : K.In s₁.heap) (hns : s₁.heap.Ns mainGlobals mg) (hb : s₁.heap.Ns builtinsNs mb) (hbb : ∀ x : Str, x ≠ "__name__" → mb x = bootBuiltins x) (hlim : s₁.heap.NoLimit) (hg : s₁.gens = #[])
    (ha : s₁.heap.get? a = some { cls := .type "list", data := .seq vs.toArray }) (hi : IntsAre vs ns) (hl : ns.length ≤ sizeLine) (hr : Room k callerA)
    (F : ∀ base : Heap, K.In base → base.Ns mainGlobals mg → FnOk P w K mg base CX k fa fd [x] sp) (hbind : ∀ (s : Shared) (u : Value), BindsTo s fd ⟨[u], []⟩ [(x, u)])
    (hsp : ∀ H : Hp, Only H → SqL K H a (ns.map V.int) → sp [.ref a] H (fun v _ => v = .bl true) fun _ _ _ => False)
    (hCX : ∀ H e s', CX [] H s₁ (fun _ _ _ => False) e s' → False) :
    codeAny (model P w) callerA (.call (.ref fa) ⟨[.ref a], []⟩) (fun r s' => r = .ok (.ret (.bool true)) ∧ OldK s₁.heap s'.heap ∧ s'.os = s₁.os ∧ AllBare s'.gens) s₁ := by
  have rv := vals_ints hi
  have lenV := hi.length
  -- from an abstract heap in which nothing but the script may be tracked
  have core : ∀ H : Hp, Only H → SqL K H a (ns.map V.int) → HOk P w H s₁.heap → (∀ b, H b ≠ none → b = a) → (H a ≠ none → K.lookup a = none) →
      codeAny (model P w) callerA (.call (.ref fa) ⟨[.ref a], []⟩) (fun r s' => r = .ok (.ret (.bool true)) ∧ OldK s₁.heap s'.heap ∧ s'.os = s₁.os ∧ AllBare s'.gens) s₁ := by
    intro H hO hS hok hA hK
    have base_of : ∀ {b : Addr} {o : Obj}, s₁.heap.get? b = some o → H b = none → (hidT s₁.heap H).get? b = some o := fun e n => hidT_get e n
    have noA : ∀ {b : Addr} {o : Obj} {es : Array DictEntry} {ep : Nat}, s₁.heap.get? b = some o → o.data = .dict es ep → H b = none := fun {b o es ep} e d => by
      cases q : H b with
      | none => rfl
      | some u =>
        have e' : b = a := hA b (by rw [q]; simp)
        subst e'
        rw [ha] at e; cases e
        have d' : Data.seq vs.toArray _ = Data.dict es ep := d
        cases d'
    have nsK : ∀ {b : Addr} {m : Str → Option Value}, s₁.heap.Ns b m → (hidT s₁.heap H).Ns b m := fun {b m} ⟨o, es, ep, e, d, r⟩ => ⟨o, es, ep, base_of e (noA e d), d, r⟩
    have hKb : K.In (hidT s₁.heap H) := fun b o e => base_of (KX b o e) (by
      cases q : H b with
      | none => rfl
      | some u =>
        have e' : b = a := hA b (by rw [q]; simp)
        subst e'
        rw [hK (by rw [q]; simp)] at e; cases e)
    have hM : Mod K mg (hidT s₁.heap H) := ⟨hKb, nsK hns, ⟨mb, nsK hb, hbb⟩, let ⟨mc, h1, h2⟩ := hlim; ⟨mc, nsK h1, h2⟩⟩
    have e0 : Env0 P w K mg (hidT s₁.heap H) callerA [] s₁ H := ⟨rfl, hM, fun b o e => of_hidT e, Nat.le_of_eq (hidT_size _ _), trivial, fun b hb => absurd (show b ∈ ([] : List Addr) from hb) (by simp), hok, .of_eq hg⟩
    refine codeAny_mono ((F _ hKb (nsK hns)).run callerA [] s₁ H ⟨[.ref a], []⟩ [.ref a] [.ref a] _ _ hr e0 (hbind s₁ (.ref a)) (.cons rfl .nil) (hsp H hO hS)) fun r s' h => ?_
    cases r with
    | error e => exact (hCX H e s' h).elim
    | ok fl =>
      cases fl with
      | next => exact False.elim h
      | brk => exact False.elim h
      | cont => exact False.elim h
      | ret u =>
        obtain ⟨v, H', os, bare, un, hok', r', q⟩ := h
        have q' : v = .bl true := q
        subst q'
        obtain rfl : u = Value.bool true := r'
        refine ⟨rfl, OldK.of_keep fun b o e => ?_, os, bare⟩
        cases q : H b with
        | none => exact un.keep b o e q (by intro z; exact absurd (show b ∈ ([] : List Addr) from z) (by simp)) (by simp)
        | some u =>
          rcases hO b with z | ⟨ob, xs, z⟩
          · rw [q] at z; cases z
          · have z2 := un.frzs b ob _ z
            obtain ⟨e1, _⟩ := hok b _ z
            obtain ⟨e2, _⟩ := hok' b _ z2
            rw [e] at e1; cases e1
            exact e2
  cases hk : K.lookup a with
  | some o =>
    -- the script is one of the module's own objects
    have e := KX a o hk
    rw [ha] at e
    cases e
    refine core (fun _ => none) (fun _ => .inl rfl) (.inr ⟨_, vs.toArray, _, hk, rfl, rfl, rfl, by rw [List.size_toArray, lenV]; exact hl, by simpa using rv⟩) (fun b u z => by have z' : (none : Option HO) = some u := z; cases z') (fun b z => absurd rfl z) fun z => absurd rfl z
  | none =>
    refine core (fun b => if b = a then some (.frz { cls := .type "list", data := .seq vs.toArray } (.lst (ns.map V.int))) else none) (fun b => ?_) (.inl (.inr ⟨{ cls := .type "list", data := .seq vs.toArray }, if_pos rfl⟩)) (fun b u z => ?_) (fun b z => ?_) fun _ => hk
    · by_cases hb : b = a
      · exact .inr ⟨_, _, if_pos hb⟩
      · exact .inl (if_neg hb)
    · by_cases hb : b = a
      · have z' := (if_pos hb).symm.trans z
        cases z'
        subst hb
        exact ⟨ha, by rw [List.length_map]; exact hl, vs, _, rv, ha⟩
      · have z' := (if_neg hb).symm.trans z
        cases z'
    · by_cases hb : b = a
      · exact hb
      · exact absurd (if_neg hb) z
end L2

namespace L2
open PySem PySem.Spec PyProof.Rows

abbrev KOf {K : PySem.W.Frag} {h : Heap} (_ : K.In h) : PySem.W.Frag := K

/-- the goal that k_head leaves (case hc), from the law's promise. F gives the function object fd (K's own) once, then the promise over every base -/
theorem walk_of {l : PySem.W.OpenLaw} {n k : Nat} {q : Program} {loose : List Str} {XP : (Str → Option Value) → Heap → Prop} {YP : World → Heap → Prop} {d : DefRec} {K : Params → PySem.W.Frag} {CX : World → CXT} {sp : World → Sp} {x : Str}
    (hn : l.most = some n) (hn2 : n ≤ sizeLine) (hdf : d.params.defaults = []) (hr : Room k callerA)
    (hY : ∀ (w : World) (h : Heap), YP w h → (K w.params).In h)
    (F : ∀ (w : World) (mg : Str → Option Value) (fa : Addr) (h : Heap), (K w.params).In h → h.Ns mainGlobals mg → mg d.name = some (.ref fa) →
      ∃ fd : FuncData, (∀ (s : Shared) (u : Value), BindsTo s fd ⟨[u], []⟩ [(x, u)]) ∧
        ∀ base : Heap, (K w.params).In base → base.Ns mainGlobals mg → FnOk l.prog w (K w.params) mg base (CX w) k fa fd [x] (sp w))
    (hsp : ∀ (w : World) (H : Hp) (a : Addr) (ns : List Int), ns.length ≤ n → Only H → SqL (K w.params) H a (ns.map V.int) → sp w [.ref a] H (fun v _ => v = .bl true) fun _ _ _ => False)
    (hCX : ∀ (w : World) (H : Hp) (s : Shared) (e : Value) (s' : Shared), CX w [] H s (fun _ _ _ => False) e s' → False) :
    PySem.W.WalkO q loose XP YP l.row.toRowW d [] (fun f vs => PySem.call f vs) := by
  refine Att.attach_call hn hdf fun w s₀ s₁ mg mb fa o pm cd doc a vs ns G Y ho hd hcd hmg hobj hints hlen hg => ?_
  have KX := hY w _ Y
  obtain ⟨fd, hb, hF⟩ := F w mg fa _ KX G.T.g hmg
  exact law_call KX G.T.g G.T.b G.T.builtins G.T.nolimit hg hobj hints (Nat.le_trans hlen hn2) hr hF hb (fun H hO hS => hsp w H a ns hlen hO hS) fun H e s' => hCX w H s₁ e s'
/-- the same where the promise hangs on the written part alone: (sp := My.sp_law), no hole under a binder -/
theorem walk_ofK {l : PySem.W.OpenLaw} {n k : Nat} {q : Program} {loose : List Str} {XP : (Str → Option Value) → Heap → Prop} {YP : World → Heap → Prop} {d : DefRec} {K : Params → PySem.W.Frag} {CX : CXT} {sp : PySem.W.Frag → Sp} {x : Str}
    (hn : l.most = some n) (hn2 : n ≤ sizeLine) (hdf : d.params.defaults = []) (hr : Room k callerA)
    (hY : ∀ (w : World) (h : Heap), YP w h → (K w.params).In h)
    (F : ∀ (w : World) (mg : Str → Option Value) (fa : Addr) (h : Heap), (K w.params).In h → h.Ns mainGlobals mg → mg d.name = some (.ref fa) →
      ∃ fd : FuncData, (∀ (s : Shared) (u : Value), BindsTo s fd ⟨[u], []⟩ [(x, u)]) ∧
        ∀ base : Heap, (K w.params).In base → base.Ns mainGlobals mg → FnOk l.prog w (K w.params) mg base CX k fa fd [x] (sp (K w.params)))
    (hsp : ∀ (K : PySem.W.Frag) (H : Hp) (a : Addr) (ns : List Int), ns.length ≤ n → Only H → SqL K H a (ns.map V.int) → sp K [.ref a] H (fun v _ => v = .bl true) fun _ _ _ => False)
    (hCX : ∀ (H : Hp) (s : Shared) (e : Value) (s' : Shared), CX [] H s (fun _ _ _ => False) e s' → False) :
    PySem.W.WalkO q loose XP YP l.row.toRowW d [] (fun f vs => PySem.call f vs) :=
  walk_of (K := K) (CX := fun _ => CX) (sp := fun w => sp (K w.params)) hn hn2 hdf hr hY F (fun w H a ns h1 h2 h3 => hsp (K w.params) H a ns h1 h2 h3) fun _ H s e s' => hCX H s e s'
end L2

/- THE LAST THEOREM (shape; LID, My.* are yours):
   My.Adr: a structure of the addresses that your layer names (classes, functions); My.Txt K t: a structure (Prop) of the equations over K;
   My.txt_mk : {K} {implicit addresses ..} (e1 : nsIn K mainGlobals "law" = some (some (.ref f))) (e2 : K.lookup f = some ⟨oc, od, .func (fnOf "law" "law" params body scope dV kV doc pm an cdv ct), sl⟩) (e3 : codeIn K cdv "law" = true) .. : ∃ t, My.Txt K t

set_option maxRecDepth 100000 in
set_option maxHeartbeats 0 in
theorem PySem.Challenge.cw_LID_holds : PySem.Challenge.rw_LID.Holds := by
  w_on; o_law; k_head; (case hw => w_witness2)
  k_fill
  refine L2.walk_of (l := PySem.Challenge.rw_LID) (n := 63) (k := 40) (x := "script") (CX := fun w => ..) (sp := fun _ => My.sp_law) rfl (by decide) rfl ⟨rfl, by decide, by decide⟩ (fun w h Y => PySem.W.kIn_of Y) ?F ?S ?C
  case F =>
    intro w mg fa h KX G hmg
    have T : ∃ t, My.Txt (L2.KOf KX) t := by
      dsimp only [L2.KOf]                          -- K must stand as «<heap const> w.params» for k_is
      refine' My.txt_mk ?e1 ?e2 ?e3 ..
      (case e1 => PySem.W.k_is)                    -- in the order: a name -> its address -> its object -> its parts
      (case e2 => PySem.W.k_is)
      ..
    obtain ⟨t, T⟩ := T
    have e0 := hmg.symm.trans (PySem.W.mg_of KX G T.law)
    cases e0                                       -- fa is the law's own address
    exact ⟨_, fun s u => .of_eq rfl, fun base kb nb => My.law_fn T kb nb⟩     -- if «.of_eq rfl» comes too early: refine' ⟨_, ?b, fun base kb nb => My.law_fn T kb nb⟩; exact fun s u => .of_eq rfl
  case S => exact fun w H a ns hl hO hS => ..
  case C => exact ..
(the tactic k_is has no namespace: write k_is) -/

/-! SHORT WORDS over the layer: a def of the text, its body, what a loop and a test want. -/
namespace L2
open PySem PySem.Spec PyProof.Rows

/-! ### the text by places -/
/-- the j-th statement of a class's body -/
def inClass (s : Stmt) (j : Nat) : Stmt := match s with
  | .ClassDef _ _ _ body _ _ _ _ _ _ _ => body.getD j (.Pass ⟨0, 0, 0, 0⟩)
  | _ => .Pass ⟨0, 0, 0, 0⟩
def defArgs (s : Stmt) : Arguments := match s with
  | .FunctionDef _ a _ _ _ _ _ _ _ _ => a
  | _ => { posonlyargs := [], args := [], vararg := none, kwonlyargs := [], kw_defaults := [], kwarg := none, defaults := [] }
def defBody (s : Stmt) : List Stmt := match s with
  | .FunctionDef _ _ b _ _ _ _ _ _ _ => b
  | _ => []
def defScope (s : Stmt) : Scope := match s with
  | .FunctionDef _ _ _ _ _ _ sc _ _ _ => sc
  | _ => { kind := .function, names := [], isGenerator := false, isCoroutine := false }

/-! ### no exception leaves a def -/
abbrev CX0 : CXT := fun _ _ _ _ _ _ => False
abbrev E0 : XK := fun _ _ _ => False
theorem pass0 {X : Cx} : Passes CX0 X E0 := fun _ _ _ _ _ _ _ h => h.elim

/-! ### a def (or method) of the text as it stands behind the top -/
structure Fun (K : PySem.W.Frag) (x qual : Str) (st : Stmt) (f : Addr) (fd : FuncData) : Prop where
  ex : ∃ (oc : Value) (od : Option Addr) (kV doc pm : Value) (an : Option Addr) (cdv ct : Value) (osl : Array (Option Value)),
    fd = PySem.W.fnOf x qual (defArgs st) (defBody st) (defScope st) .none kV doc pm an cdv ct ∧ K.lookup f = some ⟨oc, od, .func fd, osl⟩ ∧ PySem.W.codeIn K cdv qual = true
  kp : PySem.W.keepIn K (.ref f) = true
section
variable {P : Program} {w : World} {K : PySem.W.Frag} {mg : Str → Option Value} {base : Heap}
/-- THE RULE for a def: its body as a term of rules, and the reading of that term -/
theorem Fun.ok {x qual : Str} {st : Stmt} {f : Addr} {fd : FuncData} {N ps : List Str} {k : Nat} {sp : Sp} (F : Fun K x qual st f fd) (S : FnScope N ps (defScope st)) (len : ∀ vs H Q E, sp vs H Q E → vs.length = ps.length)
    (hbody : ∀ (cdv : Value) (A : Around) (outer : List Env) (s : Shared) (H : Hp) (vs : List V) (Q : VK) (E : XK), Room k (A.deeper (envOfC qual (defScope st) s.heap.objs.size f cdv)) → sp vs H Q E →
      ∃ t, PSs (cxOf CX0 P w K mg base N qual (defScope st) f cdv A outer s H E).nox (defBody st) t ∧ t { nx := fun _ H' => Q .non H', rt := Q } (start N vs) H) : FnOk P w K mg base CX0 (k + 1) f fd ps sp := by
  obtain ⟨oc, od, kV, doc, pm, an, cdv, ct, osl, rfl, lk, hcd⟩ := F.ex
  refine fn_of lk hcd S len fun A outer s H vs Q E hr hsp => ?_
  obtain ⟨t, h, q⟩ := hbody cdv A outer s H vs Q E hr hsp
  exact ⟨t, h.nox, q⟩
/-- how its arguments bind (no defaults): h is «fun _ _ _ _ _ _ us hl => match us, hl with | [_, _], _ => rfl», one _ a parameter -/
theorem Fun.binds {x qual : Str} {st : Stmt} {f : Addr} {fd : FuncData} {ps : List Str} (F : Fun K x qual st f fd)
    (h : ∀ (kV doc pm : Value) (an : Option Addr) (cdv ct : Value) (us : List Value), us.length = ps.length → bindArgs (PySem.W.fnOf x qual (defArgs st) (defBody st) (defScope st) .none kV doc pm an cdv ct) ⟨us, []⟩ = pure (ps.zip us)) : Binds K fd ps [] := by
  obtain ⟨oc, od, kV, doc, pm, an, cdv, ct, osl, rfl, lk, hcd⟩ := F.ex
  exact .all (h kV doc pm an cdv ct)
theorem fun_mk {x qual : Str} {st : Stmt} {f : Addr} {oc : Value} {od an : Option Addr} {osl : Array (Option Value)} {kV doc pm cdv ct : Value} (l : K.lookup f = some ⟨oc, od, .func (PySem.W.fnOf x qual (defArgs st) (defBody st) (defScope st) .none kV doc pm an cdv ct), osl⟩)
    (c : PySem.W.codeIn K cdv qual = true) (k : PySem.W.keepIn K (.ref f) = true) : Fun K x qual st f (PySem.W.fnOf x qual (defArgs st) (defBody st) (defScope st) .none kV doc pm an cdv ct) := ⟨⟨oc, od, kV, doc, pm, an, cdv, ct, osl, rfl, l, c⟩, k⟩
end
theorem hu_of {A : Around} {k : Nat} (hr : Room k A) : A.units + 1 < cLine := Nat.lt_of_le_of_lt (Nat.add_le_add_left (by decide : 1 ≤ 64) _) hr.units
theorem small1000 {n : Nat} (h : n ≤ 1000) : n < sizeLine := Nat.lt_of_le_of_lt h (by decide)

/-! ### expressions in short: the name that stands in the i-th slot -/
section
variable {X : Cx}
theorem pv (i : Nat) {x : Str} {pos : Pos} (hN : X.N[i]? = some x := by rfl) (hv : Vis X.env.scope x := by first | exact Or.inl rfl | exact Or.inr (Or.inl rfl) | exact Or.inr (Or.inr rfl)) (hd : (x == ("__debug__" : Str)) = false := by decide)
    (hcd : (x == ("__classdict__" : Str)) = false := by decide) : PE X (.Name x pos) (tVar i) := pe_var hN hv hd hcd
end

/-! ### tests -/
theorem iteF {A B : Prop} (h : B) : if false = true then A else B := by
  rw [if_neg Bool.false_ne_true]
  exact h
theorem iteT {A B : Prop} (h : A) : if true = true then A else B := by
  rw [if_pos rfl]
  exact h
theorem ite2 {c A B : Prop} [Decidable c] (h1 : c → A) (h2 : ¬ c → B) : if c then A else B := by
  by_cases h : c
  · rw [if_pos h]
    exact h1 h
  · rw [if_neg h]
    exact h2 h
theorem iteNS {c A B : Prop} [Decidable c] (hc : c) (h : B) : if (!decide c) = true then A else B := by
  rw [decide_eq_true hc]
  exact iteF h

/-! ### heaps -/
/-- all that was tracked is as it was -/
def Same (H H' : Hp) : Prop := ∀ b o, H b = some o → H' b = some o
theorem Same.refl (H : Hp) : Same H H := fun _ _ h => h
theorem Same.trans {H H1 H2 : Hp} (a : Same H H1) (b : Same H1 H2) : Same H H2 := fun c o h => b c o (a c o h)
theorem Same.free {H H' : Hp} (e : Same H H') {l : Addr} (h : H' l = Option.none) : H l = Option.none := by
  cases q : H l with
  | none => rfl
  | some o =>
    rw [e l o q] at h
    cases h
theorem Same.seq {K : PySem.W.Frag} {H H' : Hp} {a : Addr} {xs : List V} (e : Same H H') (h : SqL K H a xs) : SqL K H' a xs := by
  rcases h with (h | ⟨o, h⟩) | h
  · exact .inl (.inl (e _ _ h))
  · exact .inl (.inr ⟨o, e _ _ h⟩)
  · exact .inr h

end L2

namespace L2
open PySem PySem.Spec PyProof.Rows
section
variable {X : Cx}
/-- len of a dict -/
theorem call_lenD : CallR X (.builtin "len") (fun xs H Q => ∃ a kvs, xs = [V.ref a] ∧ H a = some (.dK kvs) ∧ Q (.int kvs.length) H) := by
  intro pins s σ H xs us Q I r h
  obtain ⟨a, kvs, rfl, ha, q⟩ := h
  obtain ⟨u, rfl, ru⟩ := vals1 r
  cases ru
  exact d_len I (.inl ha) fun t s' I' => ⟨.int kvs.length, H, I', ⟨t, rfl⟩, q⟩
end
/-! ### a dict's pairs: keys that differ -/
section
variable {κ : Type} [DecidableEq κ]
theorem valV_not {kvs : List (κ × V)} {k : κ} (h : valV kvs k = none) : ¬ k ∈ kvs.map (·.1) := by
  intro m
  obtain ⟨p, hp, e⟩ := List.mem_map.mp m
  have q : (kvs.any fun kv => decide (kv.1 = k)) = true := List.any_eq_true.mpr ⟨p, hp, decide_eq_true e⟩
  rw [valV_any, h] at q
  exact absurd q (by simp)
theorem valV_in {kvs : List (κ × V)} {k : κ} {v : V} (h : valV kvs k = some v) : k ∈ kvs.map (·.1) := by
  have q : (kvs.any fun kv => decide (kv.1 = k)) = true := by
    rw [valV_any, h]
    all_goals rfl
  obtain ⟨p, hp, e⟩ := List.any_eq_true.mp q
  exact List.mem_map.mpr ⟨p, hp, of_decide_eq_true e⟩
theorem nd_snoc : ∀ {l : List κ} {k : κ}, l.Nodup → ¬ k ∈ l → (l ++ [k]).Nodup
  | [], k, _, _ => by simp
  | a :: r, k, h, hk => by
    obtain ⟨h1, h2⟩ := List.nodup_cons.mp h
    show (a :: (r ++ [k])).Nodup
    refine List.nodup_cons.mpr ⟨fun m => ?_, nd_snoc h2 fun m => hk (List.mem_cons.mpr (Or.inr m))⟩
    rcases List.mem_append.mp m with q | q
    · exact h1 q
    · exact hk (List.mem_cons.mpr (Or.inl (List.mem_singleton.mp q).symm))
theorem nd_putK {kvs : List (κ × V)} {k : κ} (v : V) (hn : (kvs.map (·.1)).Nodup) (h : valV kvs k = none) : ((putK kvs k v).map (·.1)).Nodup := by
  rw [putK_new v h, List.map_append]
  exact nd_snoc hn (valV_not h)
theorem dropK_pos {p : κ × V} {r : List (κ × V)} {k : κ} (e : p.1 = k) : dropK (p :: r) k = dropK r k := by
  unfold dropK
  rw [List.filter_cons, if_neg (by simp [e])]
theorem dropK_neg {p : κ × V} {r : List (κ × V)} {k : κ} (e : ¬ p.1 = k) : dropK (p :: r) k = p :: dropK r k := by
  unfold dropK
  rw [List.filter_cons, if_pos (by simp [e])]
theorem dropK_no : ∀ {kvs : List (κ × V)} {k : κ}, ¬ k ∈ kvs.map (·.1) → dropK kvs k = kvs
  | [], _, _ => rfl
  | p :: r, k, h => by
    have h' : ¬ k ∈ r.map (·.1) := fun m => by
      obtain ⟨q, hq, e⟩ := List.mem_map.mp m
      exact h (List.mem_map.mpr ⟨q, List.mem_cons.mpr (Or.inr hq), e⟩)
    rw [dropK_neg fun e => h (List.mem_map.mpr ⟨p, List.mem_cons.mpr (Or.inl rfl), e⟩), dropK_no h']
theorem dropK_mem {kvs : List (κ × V)} {k : κ} {p : κ × V} (h : p ∈ dropK kvs k) : p ∈ kvs := (List.mem_filter.mp h).1
theorem nd_dropK : ∀ {kvs : List (κ × V)} {k : κ}, (kvs.map (·.1)).Nodup → ((dropK kvs k).map (·.1)).Nodup
  | [], _, _ => List.nodup_nil
  | p :: r, k, h => by
    have h : (p.1 :: r.map (·.1)).Nodup := h
    obtain ⟨h1, h2⟩ := List.nodup_cons.mp h
    by_cases e : p.1 = k
    · rw [dropK_pos e]
      exact nd_dropK h2
    · rw [dropK_neg e]
      show (p.1 :: (dropK r k).map (·.1)).Nodup
      refine List.nodup_cons.mpr ⟨fun m => h1 ?_, nd_dropK h2⟩
      obtain ⟨q, hq, eq⟩ := List.mem_map.mp m
      exact List.mem_map.mpr ⟨q, dropK_mem hq, eq⟩
theorem dropK_len : ∀ {kvs : List (κ × V)} {k : κ}, (kvs.map (·.1)).Nodup → k ∈ kvs.map (·.1) → (dropK kvs k).length + 1 = kvs.length
  | [], _, _, m => by simp at m
  | p :: r, k, h, m => by
    have h : (p.1 :: r.map (·.1)).Nodup := h
    have m : k = p.1 ∨ k ∈ r.map (·.1) := List.mem_cons.mp m
    obtain ⟨h1, h2⟩ := List.nodup_cons.mp h
    by_cases e : p.1 = k
    · subst e
      rw [dropK_pos rfl, dropK_no h1]
      all_goals rfl
    · have m' : k ∈ r.map (·.1) := m.resolve_left fun z => e z.symm
      have q := dropK_len h2 m'
      rw [dropK_neg e, List.length_cons, List.length_cons]
      omega
end
end L2

set_option Elab.async false
set_option linter.all false
set_option maxRecDepth 100000
set_option maxHeartbeats 1000000
/-! PURE VALUES over the hand layer: what a def is worth as a function upon plain data. -/
namespace G
open PySem PySem.Spec PyProof.Rows L2

/-- a plain value: lists and tuples by what they hold -/
inductive PV where
  | non | bl (b : Bool) | int (i : Int) | str (x : Str) | tup (xs : List PV) | lst (xs : List PV) | dic | scr (ns : List Int) | exc (c : Str)
instance : Inhabited PV := ⟨.non⟩

inductive Res (α : Type) where
  | ok (a : α) | err (c : Str) | stuck

def Res.bind {α β : Type} (r : Res α) (f : α → Res β) : Res β := match r with
  | .ok a => f a
  | .err c => .err c
  | .stuck => .stuck
theorem Res.bind_ok {α β : Type} (a : α) (f : α → Res β) : (Res.ok a).bind f = f a := rfl
theorem Res.bind_err {α β : Type} (c : Str) (f : α → Res β) : (Res.err c : Res α).bind f = .err c := rfl
theorem Res.bind_stuck {α β : Type} (f : α → Res β) : (Res.stuck : Res α).bind f = .stuck := rfl

/-- an exception's object, by its class -/
def excφ (a : Addr) (C : Addr) : Heap → Prop := fun h => ∃ o vs, h.get? a = some o ∧ o.cls = .ref C ∧ o.data = .fields vs
/-- the class by its name at the top -/
def ClsIs (K : PySem.W.Frag) (c : Str) (C : Addr) : Prop := PySem.W.nsIn K mainGlobals c = some (some (.ref C))
mutual
inductive Rep (K : PySem.W.Frag) (H : Hp) : V → PV → Prop where
  | non : Rep K H .non .non
  | bl (b : Bool) : Rep K H (.bl b) (.bl b)
  | int (i : Int) : Rep K H (.int i) (.int i)
  | str (x : Str) : Rep K H (.str x) (.str x)
  | tup {a : Addr} {xs : List V} {ps : List PV} : SqT K H a xs → Reps K H xs ps → Rep K H (.ref a) (.tup ps)
  | lst {a : Addr} {xs : List V} {ps : List PV} : H a = some (.lst xs) → Reps K H xs ps → Rep K H (.ref a) (.lst ps)
  | scr {a : Addr} {ns : List Int} : SqL K H a (ns.map V.int) → Rep K H (.ref a) (.scr ns)
  | dic {a : Addr} {kvs : List (Key × V)} : H a = some (.dK kvs) → Rep K H (.ref a) .dic
  | exc {a C : Addr} {c : Str} : H a = some (.ext (excφ a C)) → ClsIs K c C → Rep K H (.ref a) (.exc c)
inductive Reps (K : PySem.W.Frag) (H : Hp) : List V → List PV → Prop where
  | nil : Reps K H [] []
  | cons {v : V} {p : PV} {vs : List V} {ps : List PV} : Rep K H v p → Reps K H vs ps → Reps K H (v :: vs) (p :: ps)
end

section
variable {K : PySem.W.Frag} {H H' : Hp}
theorem same_seqT {a : Addr} {xs : List V} (e : Same H H') (h : SqT K H a xs) : SqT K H' a xs := by
  rcases h with (h | ⟨o, h⟩) | h
  · exact .inl (.inl (e _ _ h))
  · exact .inl (.inr ⟨o, e _ _ h⟩)
  · exact .inr h
mutual
theorem Rep.mono (e : Same H H') : ∀ {v : V} {p : PV}, Rep K H v p → Rep K H' v p
  | _, _, .non => .non
  | _, _, .bl b => .bl b
  | _, _, .int i => .int i
  | _, _, .str x => .str x
  | _, _, .tup h r => .tup (same_seqT e h) (Reps.mono e r)
  | _, _, .lst h r => .lst (e _ _ h) (Reps.mono e r)
  | _, _, .scr h => .scr (e.seq h)
  | _, _, .dic h => .dic (e _ _ h)
  | _, _, .exc h c => .exc (e _ _ h) c
theorem Reps.mono (e : Same H H') : ∀ {vs : List V} {ps : List PV}, Reps K H vs ps → Reps K H' vs ps
  | _, _, .nil => .nil
  | _, _, .cons r t => .cons (Rep.mono e r) (Reps.mono e t)
end
theorem Reps.length : ∀ {vs : List V} {ps : List PV}, Reps K H vs ps → vs.length = ps.length
  | _, _, .nil => rfl
  | _, _, .cons _ t => by rw [List.length_cons, List.length_cons, Reps.length t]
theorem Reps.get : ∀ {vs : List V} {ps : List PV} {i : Nat} {p : PV}, Reps K H vs ps → ps[i]? = some p → ∃ v, vs[i]? = some v ∧ Rep K H v p
  | _, _, _, _, .nil, e => by simp at e
  | _, _, 0, _, .cons r _, e => by simp at e; subst e; exact ⟨_, rfl, r⟩
  | _, _, i + 1, p, .cons _ t, e => by
    obtain ⟨v, h1, h2⟩ := Reps.get (i := i) (p := p) t (by simpa using e)
    exact ⟨v, by simpa using h1, h2⟩
theorem Reps.getV : ∀ {vs : List V} {ps : List PV} {i : Nat} {v : V}, Reps K H vs ps → vs[i]? = some v → ∃ p, ps[i]? = some p ∧ Rep K H v p
  | _, _, _, _, .nil, e => by simp at e
  | _, _, 0, _, .cons r _, e => by simp at e; subst e; exact ⟨_, rfl, r⟩
  | _, _, i + 1, v, .cons _ t, e => by
    obtain ⟨p, h1, h2⟩ := Reps.getV (i := i) (v := v) t (by simpa using e)
    exact ⟨p, by simpa using h1, h2⟩
theorem Reps.append : ∀ {vs ws : List V} {ps qs : List PV}, Reps K H vs ps → Reps K H ws qs → Reps K H (vs ++ ws) (ps ++ qs)
  | _, _, _, _, .nil, s => s
  | _, _, _, _, .cons r t, s => .cons r (Reps.append t s)
theorem Reps.take : ∀ {vs : List V} {ps : List PV} (n : Nat), Reps K H vs ps → Reps K H (vs.take n) (ps.take n)
  | _, _, 0, _ => .nil
  | _, _, _ + 1, .nil => .nil
  | _, _, n + 1, .cons r t => .cons r (Reps.take n t)
theorem Reps.drop : ∀ {vs : List V} {ps : List PV} (n : Nat), Reps K H vs ps → Reps K H (vs.drop n) (ps.drop n)
  | _, _, 0, r => r
  | _, _, _ + 1, .nil => .nil
  | _, _, n + 1, .cons _ t => Reps.drop n t
theorem Reps.set {x : V} {p : PV} (r : Rep K H x p) : ∀ {vs : List V} {ps : List PV} (i : Nat), Reps K H vs ps → Reps K H (vs.set i x) (ps.set i p)
  | _, _, _, .nil => .nil
  | _, _, 0, .cons _ t => .cons r t
  | _, _, i + 1, .cons q t => .cons q (Reps.set r i t)
theorem Reps.reverse : ∀ {vs : List V} {ps : List PV}, Reps K H vs ps → Reps K H vs.reverse ps.reverse
  | _, _, .nil => .nil
  | _, _, .cons r t => by
    rw [List.reverse_cons, List.reverse_cons]
    exact Reps.append (Reps.reverse t) (.cons r .nil)
theorem Reps.ints : ∀ (ns : List Int), Reps K H (ns.map V.int) (ns.map PV.int)
  | [] => .nil
  | n :: r => .cons (.int n) (Reps.ints r)
theorem Rep.int_inv {v : V} {i : Int} (r : Rep K H v (.int i)) : v = .int i := by cases r; rfl
theorem Rep.bl_inv {v : V} {b : Bool} (r : Rep K H v (.bl b)) : v = .bl b := by cases r; rfl
theorem Rep.str_inv {v : V} {x : Str} (r : Rep K H v (.str x)) : v = .str x := by cases r; rfl
theorem Rep.non_inv {v : V} (r : Rep K H v .non) : v = .non := by cases r; rfl
theorem Rep.tup_inv {v : V} {ps : List PV} (r : Rep K H v (.tup ps)) : ∃ a xs, v = .ref a ∧ SqT K H a xs ∧ Reps K H xs ps := by
  cases r with
  | tup h t => exact ⟨_, _, rfl, h, t⟩
theorem Rep.scr_inv {v : V} {ns : List Int} (r : Rep K H v (.scr ns)) : ∃ a, v = .ref a ∧ SqL K H a (ns.map V.int) := by
  cases r with
  | scr h => exact ⟨_, rfl, h⟩
theorem Rep.lst_inv {v : V} {ps : List PV} (r : Rep K H v (.lst ps)) : ∃ a xs, v = .ref a ∧ H a = some (.lst xs) ∧ Reps K H xs ps := by
  cases r with
  | lst h t => exact ⟨_, _, rfl, h, t⟩
theorem Reps.nil_inv {vs : List V} (r : Reps K H vs []) : vs = [] := by cases r; rfl
theorem Reps.cons_inv {vs : List V} {p : PV} {ps : List PV} (r : Reps K H vs (p :: ps)) : ∃ v ws, vs = v :: ws ∧ Rep K H v p ∧ Reps K H ws ps := by
  cases r with
  | cons a b => exact ⟨_, _, rfl, a, b⟩
end

/-- the shared part Hs of H and H itself have grown -/
structure Grow (Hs H Hs' H' : Hp) : Prop where
  s : Same Hs Hs'
  i : Same Hs' H'
  h : Same H H'
  o : ∀ x, H x ≠ none → Hs x = none → Hs' x = none
theorem Grow.refl {Hs H : Hp} (i : Same Hs H) : Grow Hs H Hs H := ⟨Same.refl _, i, Same.refl _, fun _ _ h => h⟩
theorem Grow.trans {Hs H Hs1 H1 Hs2 H2 : Hp} (a : Grow Hs H Hs1 H1) (b : Grow Hs1 H1 Hs2 H2) : Grow Hs H Hs2 H2 :=
  ⟨a.s.trans b.s, b.i, a.h.trans b.h, fun x h n => b.o x (by
    cases e : H x with
    | none => exact absurd e h
    | some o => rw [a.h x o e]; exact fun z => nomatch z) (a.o x h n)⟩
theorem same_upd {H : Hp} {p : Addr} {o : HO} (h : H p = none) : Same H (upd H p o) := fun b u q => by rw [upd_ne (ne_of_none q h)]; exact q
theorem same_upd2 {Hs H : Hp} {p : Addr} {o : HO} (i : Same Hs H) : Same (upd Hs p o) (upd H p o) := fun b u q => by
  by_cases e : b = p
  · subst e; rw [upd_same] at q ⊢; exact q
  · rw [upd_ne e] at q ⊢; exact i b u q
theorem same_none {Hs H : Hp} (i : Same Hs H) {p : Addr} (h : H p = none) : Hs p = none := i.free h
/-- a new shared object -/
theorem Grow.new {Hs H : Hp} {p : Addr} {o : HO} (i : Same Hs H) (h : H p = none) : Grow Hs H (upd Hs p o) (upd H p o) :=
  ⟨same_upd (i.free h), same_upd2 i, same_upd h, fun x hx hn => by rw [upd_ne (fun e => hx (by rw [e]; exact h))]; exact hn⟩
/-- a new object that is not shared yet -/
theorem Grow.newOwn {Hs H : Hp} {p : Addr} {o : HO} (i : Same Hs H) (h : H p = none) : Grow Hs H Hs (upd H p o) :=
  ⟨Same.refl _, i.trans (same_upd h), same_upd h, fun _ _ hn => hn⟩

/-- what is wanted of a result -/
def Ret (K : PySem.W.Frag) (Hs H : Hp) (r : Res PV) (EO : Str → Prop) (Q : VK) : Prop := match r with
  | .ok p => ∀ v Hs' H', Grow Hs H Hs' H' → Rep K Hs' v p → Q v H'
  | .err c => EO c
  | .stuck => False
theorem Ret.grow {K : PySem.W.Frag} {Hs H Hs1 H1 : Hp} {r : Res PV} {EO : Str → Prop} {Q : VK} (h : Ret K Hs H r EO Q) (g : Grow Hs H Hs1 H1) : Ret K Hs1 H1 r EO Q := by
  cases r with
  | ok p => exact fun v Hs' H' g' r => h v Hs' H' (g.trans g') r
  | err c => exact h
  | stuck => exact h
theorem Ret.bind {K : PySem.W.Frag} {Hs H : Hp} {r : Res PV} {f : PV → Res PV} {EO : Str → Prop} {Q : VK} (h : Ret K Hs H (r.bind f) EO Q) :
    Ret K Hs H r EO fun v H1 => ∃ Hs1 p, Grow Hs H Hs1 H1 ∧ Rep K Hs1 v p ∧ Ret K Hs1 H1 (f p) EO Q := by
  cases r with
  | ok p => exact fun v Hs' H' g r => ⟨Hs', p, g, r, Ret.grow (r := f p) h g⟩
  | err c => exact h
  | stuck => exact h
theorem Ret.mono {K : PySem.W.Frag} {Hs H : Hp} {r : Res PV} {EO : Str → Prop} {Q Q' : VK} (h : Ret K Hs H r EO Q) (m : ∀ v H', Q v H' → Q' v H') : Ret K Hs H r EO Q' := by
  cases r with
  | ok p => exact fun v Hs' H' g r => m _ _ (h v Hs' H' g r)
  | err c => exact h
  | stuck => exact h
/-- a list of results -/
def Rets (K : PySem.W.Frag) (Hs H : Hp) (r : Res (List PV)) (EO : Str → Prop) (Q : List V → Hp → Prop) : Prop := match r with
  | .ok ps => ∀ vs Hs' H', Grow Hs H Hs' H' → Reps K Hs' vs ps → Q vs H'
  | .err c => EO c
  | .stuck => False
/-- a test's result -/
def RetB (Hs H : Hp) (r : Res Bool) (EO : Str → Prop) (Q : Bool → Hp → Prop) : Prop := match r with
  | .ok b => ∀ Hs' H', Grow Hs H Hs' H' → Q b H'
  | .err c => EO c
  | .stuck => False
theorem RetB.grow {Hs H Hs1 H1 : Hp} {r : Res Bool} {EO : Str → Prop} {Q : Bool → Hp → Prop} (h : RetB Hs H r EO Q) (g : Grow Hs H Hs1 H1) : RetB Hs1 H1 r EO Q := by
  cases r with
  | ok p => exact fun Hs' H' g' => h Hs' H' (g.trans g')
  | err c => exact h
  | stuck => exact h
theorem RetB.bind {Hs H : Hp} {r : Res Bool} {f : Bool → Res Bool} {EO : Str → Prop} {Q : Bool → Hp → Prop} (h : RetB Hs H (r.bind f) EO Q) :
    RetB Hs H r EO fun b H1 => ∃ Hs1, Grow Hs H Hs1 H1 ∧ RetB Hs1 H1 (f b) EO Q := by
  cases r with
  | ok p => exact fun Hs' H' g => ⟨Hs', g, RetB.grow (r := f p) h g⟩
  | err c => exact h
  | stuck => exact h

/-! ### the state: names hold shared values, or lists of their own -/
inductive SV where
  | sh (p : PV) | own (xs : List PV)
abbrev PSt := List (Option SV)
inductive Fl where
  | next (σ : PSt) | brk (σ : PSt) | cont (σ : PSt) | ret (p : PV)
abbrev DE := PSt → Res PV
abbrev DA := PSt → Res (List PV)
abbrev DT := PSt → Res Bool
abbrev DS := PSt → Res Fl

def SlotR (K : PySem.W.Frag) (H0 Hs H : Hp) (v : V) : SV → Prop
  | .sh p => Rep K Hs v p
  | .own xs => ∃ a vs, v = .ref a ∧ H a = some (.lst vs) ∧ Hs a = none ∧ H0 a = none ∧ Reps K Hs vs xs
structure SR (K : PySem.W.Frag) (H0 Hs0 Hs H : Hp) (σ : PSt) (τ : L2.St) : Prop where
  g : Grow Hs0 H0 Hs H
  slot : ∀ (i : Nat) (sv : SV), σ[i]? = some (some sv) → ∃ v, τ[i]? = some (some v) ∧ SlotR K H0 Hs H v sv
  inj : ∀ (i j : Nat) (xs ys : List PV) (a : Addr), i ≠ j → σ[i]? = some (some (.own xs)) → σ[j]? = some (some (.own ys)) → τ[i]? = some (some (.ref a)) → τ[j]? ≠ some (some (.ref a))
  len : σ.length = τ.length
theorem SlotR.grow {K : PySem.W.Frag} {H0 Hs H Hs' H' : Hp} {v : V} {sv : SV} (h : SlotR K H0 Hs H v sv) (g : Grow Hs H Hs' H') : SlotR K H0 Hs' H' v sv := by
  cases sv with
  | sh p => exact Rep.mono g.s h
  | own xs =>
    obtain ⟨a, vs, e, h1, h2, h3, h4⟩ := h
    exact ⟨a, vs, e, g.h _ _ h1, g.o a (by rw [h1]; exact fun z => nomatch z) h2, h3, h4.mono g.s⟩
theorem SR.grow {K : PySem.W.Frag} {H0 Hs0 Hs H Hs' H' : Hp} {σ : PSt} {τ : L2.St} (h : SR K H0 Hs0 Hs H σ τ) (g : Grow Hs H Hs' H') : SR K H0 Hs0 Hs' H' σ τ :=
  ⟨h.g.trans g, fun i sv e => let ⟨v, e1, r⟩ := h.slot i sv e; ⟨v, e1, r.grow g⟩, h.inj, h.len⟩

/-- what an exception keeps on its way: B is the heap without the frames, the exception and its traceback -/
structure UnX (l : List Env) (H H1 : Hp) (h B h' : Heap) : Prop where
  keep : ∀ b o, h.get? b = some o → H b = none → b ∉ frs l → B.get? b = some o
  slot : ∀ b o, h.get? b = some o → H b = none → b ∈ frs l → ∃ sl, h'.get? b = some { o with slots := sl }
  free : ∀ b o, h.get? b = some o → H b = none → H1 b = none
  there : ∀ b o, h.get? b = some o → H b ≠ none → ∃ o', B.get? b = some o'
  tups : ∀ b xs, H b = some (.tup xs) → H1 b = some (.tup xs)
  frzs : ∀ b o u, H b = some (.frz o u) → H1 b = some (.frz o u)
  tbls : ∀ b ps, H b = some (.tbl ps) → ∃ more, H1 b = some (.tbl (ps ++ more))
/-- how an exception lies behind a call -/
def CXG (P : Program) (w : World) : CXT := fun l H s E e s' => ∃ (ea C : Addr) (B : Heap) (a0 : Value) (H1 : Hp), e = .ref ea ∧ s'.os = s.os ∧ AllBare s'.gens ∧ Heap.FlyingW B l ea (.ref C) a0 s'.heap ∧ UnX l H H1 s.heap B s'.heap ∧ HOk P w H1 B ∧ E (.ref C) none H1
/-- an exception of class c goes up out of X -/
def Threw (X : Cx) (H0 Hs0 : Hp) (c : Str) (e : Value) (s' : Shared) : Prop :=
  ∃ (pins : List (Addr × Obj)) (τ : L2.St) (H : Hp) (s : Shared), Inv X pins τ H s ∧
    ((∃ (ea C : Addr) (vs : List Value) (h' : Heap) (Hs : Hp), e = .ref ea ∧ ClsIs X.K c C ∧ Grow Hs0 H0 Hs H ∧ Heap.MadeExcOf s.heap h' ea (.ref C) vs ∧ s' = { s with heap := h' }) ∨
      CXG X.prog X.w X.stack H s (fun cls _ H1 => ∃ (C : Addr) (Hs1 : Hp), cls = .ref C ∧ ClsIs X.K c C ∧ Grow Hs0 H0 Hs1 H1) e s')
def ErrOk (X : Cx) (H0 Hs0 : Hp) (c : Str) : Prop := ∀ (e : Value) (s' : Shared), Threw X H0 Hs0 c e s' → X.xe e s'

/-! ### readings and judgements -/
section
variable (X : Cx) (H0 Hs0 : Hp)
def RE (d : DE) : TE := fun τ H Q => ∃ Hs σ, SR X.K H0 Hs0 Hs H σ τ ∧ Ret X.K Hs H (d σ) (ErrOk X H0 Hs0) Q
def RA (d : DA) : TA := fun τ H Q => ∃ Hs σ, SR X.K H0 Hs0 Hs H σ τ ∧ Rets X.K Hs H (d σ) (ErrOk X H0 Hs0) Q
def RT (d : DT) : TT := fun τ H Q => ∃ Hs σ, SR X.K H0 Hs0 Hs H σ τ ∧ RetB Hs H (d σ) (ErrOk X H0 Hs0) Q
def EndR (D : Ends) (Hs H : Hp) : Res Fl → Prop
  | .ok (.next σ') => ∀ Hs' H' τ', Same Hs Hs' → SR X.K H0 Hs0 Hs' H' σ' τ' → D.nx τ' H'
  | .ok (.brk σ') => ∀ Hs' H' τ', Same Hs Hs' → SR X.K H0 Hs0 Hs' H' σ' τ' → D.bk τ' H'
  | .ok (.cont σ') => ∀ Hs' H' τ', Same Hs Hs' → SR X.K H0 Hs0 Hs' H' σ' τ' → D.ct τ' H'
  | .ok (.ret p) => ∀ v Hs' H', Grow Hs0 H0 Hs' H' → Rep X.K Hs' v p → D.rt v H'
  | .err c => ErrOk X H0 Hs0 c
  | .stuck => False
def RS (d : DS) : TS := fun D τ H => ∃ Hs σ, SR X.K H0 Hs0 Hs H σ τ ∧ EndR X H0 Hs0 D Hs H (d σ)
def QE (e : Expr) (d : DE) : Prop := PE X e (RE X H0 Hs0 d)
def QA (es : List Expr) (d : DA) : Prop := PA X es (RA X H0 Hs0 d)
def QT (e : Expr) (d : DT) : Prop := PT X e (RT X H0 Hs0 d)
def QW (e : Expr) (d : DT) : Prop := PW X e (RT X H0 Hs0 d)
def QS (s : Stmt) (d : DS) : Prop := PS X s (RS X H0 Hs0 d)
def QSs (s : List Stmt) (d : DS) : Prop := PSs X s (RS X H0 Hs0 d)
end
theorem PE.imp {X : Cx} {e : Expr} {t t' : TE} (h : PE X e t) (m : ∀ τ H Q, t' τ H Q → t τ H Q) : PE X e t' := fun pins s σ H Q I q => h pins s σ H Q I (m _ _ _ q)
theorem PA.imp {X : Cx} {e : List Expr} {t t' : TA} (h : PA X e t) (m : ∀ τ H Q, t' τ H Q → t τ H Q) : PA X e t' := fun pos pins s σ H Q I q => h pos pins s σ H Q I (m _ _ _ q)
theorem PT.imp {X : Cx} {e : Expr} {t t' : TT} (h : PT X e t) (m : ∀ τ H Q, t' τ H Q → t τ H Q) : PT X e t' := fun pins s σ H Q I q => h pins s σ H Q I (m _ _ _ q)
theorem PW.imp {X : Cx} {e : Expr} {t t' : TT} (h : PW X e t) (m : ∀ τ H Q, t' τ H Q → t τ H Q) : PW X e t' := fun wh pins s σ H Q I q => h wh pins s σ H Q I (m _ _ _ q)
theorem PS.imp {X : Cx} {e : Stmt} {t t' : TS} (h : PS X e t) (m : ∀ D τ H, t' D τ H → t D τ H) : PS X e t' := fun pins s σ H D I q => h pins s σ H D I (m _ _ _ q)
theorem PSs.imp {X : Cx} {e : List Stmt} {t t' : TS} (h : PSs X e t) (m : ∀ D τ H, t' D τ H → t D τ H) : PSs X e t' := fun pins s σ H D I q => h pins s σ H D I (m _ _ _ q)
theorem QE.stuck {X : Cx} {H0 Hs0 : Hp} {e : Expr} : QE X H0 Hs0 e (fun _ => .stuck) := fun pins s σ H Q I ⟨_, _, _, h⟩ => h.elim
theorem QS.stuck {X : Cx} {H0 Hs0 : Hp} {e : Stmt} : QS X H0 Hs0 e (fun _ => .stuck) := fun pins s σ H D I ⟨_, _, _, h⟩ => h.elim

/-! ### names, constants -/
def eVar (i : Nat) : DE := fun σ => match σ[i]? with
  | some (some (.sh p)) => .ok p
  | _ => .stuck
def eC (p : PV) : DE := fun _ => .ok p
section
variable {X : Cx} {H0 Hs0 : Hp}
theorem q_var {i : Nat} {x : Str} {pos : Pos} (hN : X.N[i]? = some x) (hv : Vis X.env.scope x) (hd : (x == ("__debug__" : Str)) = false) (hcd : (x == ("__classdict__" : Str)) = false) : QE X H0 Hs0 (.Name x pos) (eVar i) := by
  refine PE.imp (pe_var hN hv hd hcd) fun τ H Q ⟨Hs, σ, S, h⟩ => ?_
  unfold eVar at h
  split at h
  · rename_i p e
    obtain ⟨v, e1, r⟩ := S.slot i _ e
    exact ⟨v, e1, h v Hs H (.refl S.g.i) r⟩
  · exact h.elim
theorem q_int {i j pos} : QE X H0 Hs0 (.Constant (.int i) j pos) (eC (.int i)) := PE.imp pe_int fun τ H Q ⟨Hs, σ, S, h⟩ => h _ Hs H (.refl S.g.i) (.int i)
theorem q_bl {b j pos} : QE X H0 Hs0 (.Constant (.bool b) j pos) (eC (.bl b)) := PE.imp pe_bl fun τ H Q ⟨Hs, σ, S, h⟩ => h _ Hs H (.refl S.g.i) (.bl b)
theorem q_non {j pos} : QE X H0 Hs0 (.Constant .none j pos) (eC .non) := PE.imp pe_non fun τ H Q ⟨Hs, σ, S, h⟩ => h _ Hs H (.refl S.g.i) .non
theorem q_str {x j pos} : QE X H0 Hs0 (.Constant (.str x) j pos) (eC (.str x)) := PE.imp pe_str fun τ H Q ⟨Hs, σ, S, h⟩ => h _ Hs H (.refl S.g.i) (.str x)

/-! ### two-place operations -/
/-- f upon values does what g says upon plain ones -/
def OpP (X : Cx) (f : Value → Value → Sem Value) (g : PV → PV → Res PV) : Prop :=
  ∀ (EO : Str → Prop), OpR X f fun x y H Q => ∃ Hs p q, Same Hs H ∧ Rep X.K Hs x p ∧ Rep X.K Hs y q ∧ Ret X.K Hs H (g p q) EO Q
def e2 (g : PV → PV → Res PV) (a b : DE) : DE := fun σ => (a σ).bind fun p => (b σ).bind fun q => g p q
variable {a b : Expr} {da db : DE} {pos : Pos}
theorem two {g : PV → PV → Res PV} {τ : L2.St} {H : Hp} {Q : VK} (h : RE X H0 Hs0 (e2 g da db) τ H Q) :
    RE X H0 Hs0 da τ H fun x H1 => RE X H0 Hs0 db τ H1 fun y H2 => ∃ Hs p q, Same Hs H2 ∧ Rep X.K Hs x p ∧ Rep X.K Hs y q ∧ Ret X.K Hs H2 (g p q) (ErrOk X H0 Hs0) Q := by
  obtain ⟨Hs, σ, S, h⟩ := h
  refine ⟨Hs, σ, S, Ret.mono (Ret.bind h) fun x H1 ⟨Hs1, p, g1, r1, h1⟩ => ?_⟩
  exact ⟨Hs1, σ, S.grow g1, Ret.mono (Ret.bind h1) fun y H2 ⟨Hs2, q, g2, r2, h2⟩ => ⟨Hs2, p, q, g2.i, r1.mono g2.s, r2, h2⟩⟩
theorem q_op {op : Operator} {g : PV → PV → Res PV} (ho : OpP X (binaryOp op) g) (ha : QE X H0 Hs0 a da) (hb : QE X H0 Hs0 b db) : QE X H0 Hs0 (.BinOp a op b pos) (e2 g da db) :=
  PE.imp (pe_op (ho (ErrOk X H0 Hs0)) ha hb) fun τ H Q h => two h
theorem q_cmp {op : CmpOp} {g : PV → PV → Res PV} (ho : OpP X (compareOp op) g) (ha : QE X H0 Hs0 a da) (hb : QE X H0 Hs0 b db) (hm : behindInMarks op b = false) : QE X H0 Hs0 (.Compare a [op] [b] pos) (e2 g da db) :=
  PE.imp (pe_cmpR (ho (ErrOk X H0 Hs0)) ha hb hm) fun τ H Q h => two h
end
end G
set_option Elab.async false
set_option linter.all false
set_option maxRecDepth 100000
set_option maxHeartbeats 1000000
namespace G
open PySem PySem.Spec PyProof.Rows L2 
open Builtin.Int (intBits)
/-! ### ints -/
instance (i j : Int) : Decidable (IntMulOk i j) := by unfold IntMulOk; infer_instance
def pAdd : PV → PV → Res PV
  | .int i, .int j => .ok (.int (i + j))
  | .lst xs, .lst ys => if xs.length + ys.length ≤ 10000000 then .ok (.lst (xs ++ ys)) else .stuck
  | _, _ => .stuck
def pSub : PV → PV → Res PV
  | .int i, .int j => .ok (.int (i - j))
  | _, _ => .stuck
def pMul : PV → PV → Res PV
  | .int i, .int j => if IntMulOk i j then .ok (.int (i * j)) else .stuck
  | _, _ => .stuck
def pFdiv : PV → PV → Res PV
  | .int i, .int j => if j ≠ 0 ∧ intBits j ≤ 9000 then .ok (.int (i.fdiv j)) else .stuck
  | _, _ => .stuck
def pMod : PV → PV → Res PV
  | .int i, .int j => if j ≠ 0 then .ok (.int (i.fmod j)) else .stuck
  | _, _ => .stuck
def pPow : PV → PV → Res PV
  | .int i, .int j => if 0 ≤ j ∧ j ≤ 1000000 ∧ i.natAbs < 2 ^ 64 then .ok (.int (i ^ j.toNat)) else .stuck
  | _, _ => .stuck
section
variable {X : Cx}
theorem ret_int {K : PySem.W.Frag} {Hs H : Hp} {i : Int} {EO : Str → Prop} {Q : VK} (h : Ret K Hs H (.ok (.int i)) EO Q) (s : Same Hs H) : Q (.int i) H := h _ Hs H (.refl s) (.int i)
theorem ret_bl {K : PySem.W.Frag} {Hs H : Hp} {i : Bool} {EO : Str → Prop} {Q : VK} (h : Ret K Hs H (.ok (.bl i)) EO Q) (s : Same Hs H) : Q (.bl i) H := h _ Hs H (.refl s) (.bl i)
theorem log2_of_bits {j : Int} (h : intBits j ≤ 9000) : j.natAbs.log2 < 9000 := by
  unfold intBits at h
  split at h
  · rename_i e
    have e' : j = 0 := by simpa using e
    subst e'
    decide +kernel
  · omega
theorem opp_add : OpP X (binaryOp .Add) pAdd := by
  intro EO pins s σ H x y v u Q I rx ry h
  obtain ⟨Hs, p, q, i, rp, rq, h⟩ := h
  unfold pAdd at h
  split at h
  · cases rp.int_inv; cases rq.int_inv
    exact op_add pins s σ H _ _ v u Q I rx ry ⟨_, _, rfl, rfl, ret_int h i⟩
  · split at h
    · rename_i xs ys hl
      obtain ⟨a, vs, rfl, ha, ra⟩ := rp.lst_inv
      obtain ⟨b, ws, rfl, hb, rb⟩ := rq.lst_inv
      have l1 := ra.length; have l2 := rb.length
      exact op_cat pins s σ H _ _ v u Q I rx ry ⟨a, b, vs, ws, rfl, rfl, i _ _ ha, i _ _ hb, by rw [sizeLine_eq]; omega, fun p hp => h _ _ _ (.new i hp) (.lst upd_same (Reps.mono (same_upd (i.free hp)) (ra.append rb)))⟩
    · exact h.elim
  · exact h.elim
theorem opp_sub : OpP X (binaryOp .Sub) pSub := by
  intro EO pins s σ H x y v u Q I rx ry h
  obtain ⟨Hs, p, q, i, rp, rq, h⟩ := h
  unfold pSub at h
  split at h
  · cases rp.int_inv; cases rq.int_inv
    exact op_sub pins s σ H _ _ v u Q I rx ry ⟨_, _, rfl, rfl, ret_int h i⟩
  · exact h.elim
theorem opp_mul : OpP X (binaryOp .Mult) pMul := by
  intro EO pins s σ H x y v u Q I rx ry h
  obtain ⟨Hs, p, q, i, rp, rq, h⟩ := h
  unfold pMul at h
  split at h
  · cases rp.int_inv; cases rq.int_inv
    split at h
    · rename_i hm
      exact (opI (X := X) (C := fun i j => IntMulOk i j) (g := fun i j => i * j) fun _ _ _ _ _ _ _ hc q => mul_int q hc) pins s σ H _ _ v u Q I rx ry ⟨_, _, rfl, rfl, hm, ret_int h i⟩
    · exact h.elim
  · exact h.elim
theorem opp_fdiv : OpP X (binaryOp .FloorDiv) pFdiv := by
  intro EO pins s σ H x y v u Q I rx ry h
  obtain ⟨Hs, p, q, i, rp, rq, h⟩ := h
  unfold pFdiv at h
  split at h
  · cases rp.int_inv; cases rq.int_inv
    split at h
    · rename_i hm
      exact (opI (X := X) (C := fun i j => j ≠ 0 ∧ intBits j ≤ 9000) (g := fun i j => i.fdiv j) fun _ _ _ _ _ _ _ hc q => floordiv_int hc.1 q (.inl (PyProof.noPylong_of_log2 (log2_of_bits hc.2)))) pins s σ H _ _ v u Q I rx ry ⟨_, _, rfl, rfl, hm, ret_int h i⟩
    · exact h.elim
  · exact h.elim
theorem opp_mod : OpP X (binaryOp .Mod) pMod := by
  intro EO pins s σ H x y v u Q I rx ry h
  obtain ⟨Hs, p, q, i, rp, rq, h⟩ := h
  unfold pMod at h
  split at h
  · cases rp.int_inv; cases rq.int_inv
    split at h
    · rename_i hm
      exact op_modN pins s σ H _ _ v u Q I rx ry ⟨_, _, rfl, rfl, hm, ret_int h i⟩
    · exact h.elim
  · exact h.elim
theorem opp_pow : OpP X (binaryOp .Pow) pPow := by
  intro EO pins s σ H x y v u Q I rx ry h
  obtain ⟨Hs, p, q, i, rp, rq, h⟩ := h
  unfold pPow at h
  split at h
  · cases rp.int_inv; cases rq.int_inv
    split at h
    · rename_i hm
      exact op_pow pins s σ H _ _ v u Q I rx ry ⟨_, _, rfl, rfl, hm, ret_int h i⟩
    · exact h.elim
  · exact h.elim
def UnP (X : Cx) (f : Value → Sem Value) (g : PV → Res PV) : Prop :=
  ∀ (EO : Str → Prop), UnR X f fun x H Q => ∃ Hs p, Same Hs H ∧ Rep X.K Hs x p ∧ Ret X.K Hs H (g p) EO Q
def pNeg : PV → Res PV
  | .int i => .ok (.int (-i))
  | _ => .stuck
end
end G
set_option Elab.async false
set_option linter.all false
set_option maxRecDepth 100000
set_option maxHeartbeats 1000000
namespace G
open PySem PySem.Spec PyProof.Rows L2
open PySem.SeqAt
/-! ### == -/
mutual
def peq : PV → PV → Bool
  | .non, .non => true
  | .bl a, .bl b => a == b
  | .int a, .int b => a == b
  | .bl a, .int b => (if a then 1 else 0) == b
  | .int a, .bl b => a == (if b then 1 else 0)
  | .str a, .str b => a == b
  | .tup xs, .tup ys => peqs xs ys
  | .lst xs, .lst ys => peqs xs ys
  | _, _ => false
def peqs : List PV → List PV → Bool
  | [], [] => true
  | x :: xs, y :: ys => peq x y && peqs xs ys
  | _, _ => false
end
/-- plain down to a depth below n -/
def eqOk : Nat → PV → Bool
  | 0, _ => false
  | n + 1, .tup xs => xs.all (eqOk n)
  | n + 1, .lst xs => xs.all (eqOk n)
  | _ + 1, .dic => false
  | _ + 1, .exc _ => false
  | _ + 1, .scr _ => false
  | _ + 1, _ => true
theorem all_range_succ (n : Nat) (e : Nat → Bool) : (List.range (n + 1)).all e = (e 0 && (List.range n).all fun j => e (j + 1)) := by
  rw [List.range_succ_eq_map, List.all_cons, List.all_map]; rfl
theorem peqs_range : ∀ (ps qs : List PV), peqs ps qs = ((List.range (min ps.length qs.length)).all (fun j => peq (ps.getD j .non) (qs.getD j .non)) && (ps.length == qs.length))
  | [], [] => by simp [peqs]
  | [], q :: qs => by simp [peqs]
  | p :: ps, [] => by simp [peqs]
  | p :: ps, q :: qs => by
    have h := peqs_range ps qs
    show (peq p q && peqs ps qs) = _
    rw [h, List.length_cons, List.length_cons, Nat.succ_min_succ, all_range_succ]
    simp [Bool.and_assoc]
theorem peqs_len {ps qs : List PV} (h : ps.length ≠ qs.length) : peqs ps qs = false := by
  rw [peqs_range]
  have : (ps.length == qs.length) = false := by simpa using h
  rw [this, Bool.and_false]
section
variable {X : Cx} {pins : List (Addr × Obj)} {τ : L2.St} {H : Hp} {s : Shared}
theorem lst_is (I : Inv X pins τ H s) {a : Addr} {xs : List V} (h : H a = some (.lst xs)) : ∃ its : List Value, Vals xs its ∧ s.heap.IsList a its.toArray := by
  obtain ⟨z, its, n, r, _, e⟩ := I.lstM h
  exact ⟨its, r, ⟨_, e, rfl, n, rfl⟩⟩
theorem tup_is (I : Inv X pins τ H s) {a : Addr} {xs : List V} (h : SqT X.K H a xs) : ∃ its : List Value, Vals xs its ∧ s.heap.IsTuple a its.toArray := by
  obtain ⟨its, r, p, z⟩ := I.tuple h
  exact ⟨its, r, p⟩
theorem lst_not_tup (I : Inv X pins τ H s) {a : Addr} {xs ys : List V} (h : H a = some (.lst xs)) (h' : SqT X.K H a ys) : False := by
  obtain ⟨its, r, o, e, c, _⟩ := lst_is I h
  obtain ⟨its', r', o', e', c', _⟩ := tup_is I h'
  rw [e] at e'; cases e'
  rw [c] at c'
  injection c' with z
  exact absurd z (by decide)
theorem rep_same (I : Inv X pins τ H s) : ∀ (n : Nat) (p q : PV) (x : V), eqOk n p = true → eqOk n q = true → Rep X.K H x p → Rep X.K H x q → peq p q = true := by
  intro n
  induction n with
  | zero => intro p q x h; cases h
  | succ n ih =>
    have lists : ∀ (xs : List V) (ps qs : List PV), ps.all (eqOk n) = true → qs.all (eqOk n) = true → Reps X.K H xs ps → Reps X.K H xs qs → peqs ps qs = true := by
      intro xs
      induction xs with
      | nil => intro ps qs _ _ r r'; cases r; cases r'; rfl
      | cons x xs ihx =>
        intro ps qs h h' r r'
        cases r with
        | cons r t =>
          cases r' with
          | cons r' t' =>
            rw [List.all_cons, Bool.and_eq_true] at h h'
            show (peq _ _ && peqs _ _) = true
            rw [ih _ _ _ h.1 h'.1 r r', ihx _ _ h.2 h'.2 t t']; rfl
    intro p q x h h' r r'
    cases r with
    | non => cases r'; rfl
    | bl b => cases r'; simp [peq]
    | int i => cases r'; simp [peq]
    | str y => cases r'; simp [peq]
    | tup e t =>
      cases r' with
      | tup e' t' =>
        have z := I.tuple_inj e e'
        subst z
        exact lists _ _ _ h h' t t'
      | lst e' t' => exact (lst_not_tup I e' e).elim
      | scr _ => cases h'
      | dic _ => cases h'
      | exc _ _ => cases h'
    | lst e t =>
      cases r' with
      | lst e' t' =>
        rw [e] at e'; cases e'
        exact lists _ _ _ h h' t t'
      | tup e' t' => exact (lst_not_tup I e e').elim
      | scr _ => cases h'
      | dic _ => cases h'
      | exc _ _ => cases h'
    | scr _ => cases h
    | dic _ => cases h
    | exc _ _ => cases h
theorem getD_of {ps : List PV} {xs : List V} {its : List Value} (r : Reps X.K H xs ps) (rv : Vals xs its) {j : Nat} (h : j < its.toArray.size) :
    ∃ v, RelV v its.toArray[j] ∧ Rep X.K H v (ps.getD j .non) ∧ ps.getD j .non ∈ ps := by
  have l1 := r.length; have l2 := rv.length
  simp only [List.size_toArray] at h
  have hp : ps[j]? = some ps[j] := List.getElem?_eq_getElem (by omega)
  obtain ⟨v, hv, rp⟩ := r.get hp
  obtain ⟨u, hu, ru⟩ := rv.get hv
  have e : its.toArray[j] = u := by
    simp only [List.getElem_toArray]
    rw [List.getElem?_eq_getElem h] at hu
    exact Option.some.inj hu
  refine ⟨v, by rw [e]; exact ru, ?_, ?_⟩
  · rw [List.getD_eq_getElem?_getD, hp]; exact rp
  · rw [List.getD_eq_getElem?_getD, hp]; exact List.getElem_mem _
set_option maxHeartbeats 4000000 in
theorem deep (I : Inv X pins τ H s) : ∀ (n : Nat), (∀ (A : Around) (p q : PV) (x y : V) (v u : Value), A.units + n < cLine → eqOk n p = true → eqOk n q = true → Rep X.K H x p → Rep X.K H y q → RelV x v → RelV y u →
    RcAt A s v u (peq p q) ∧ RcNeAt A s v u (!peq p q) ∧ EqAt A s v u (peq p q)) := by
  intro n
  induction n with
  | zero => intro A p q x y v u _ h; cases h
  | succ n ih =>
    have items : ∀ (A : Around) {xs ys : List V} {ps qs : List PV} {its jts : List Value}, A.units + (n + 1) < cLine → ps.all (eqOk n) = true → qs.all (eqOk n) = true → Reps X.K H xs ps → Reps X.K H ys qs → Vals xs its → Vals ys jts →
        ∀ j (h1 : j < its.toArray.size) (h2 : j < jts.toArray.size), EqAt A.in1 s its.toArray[j] jts.toArray[j] (peq (ps.getD j .non) (qs.getD j .non)) := by
      intro A xs ys ps qs its jts hu h h' r r' rv rv' j h1 h2
      obtain ⟨v1, a1, b1, c1⟩ := getD_of r rv h1
      obtain ⟨v2, a2, b2, c2⟩ := getD_of r' rv' h2
      exact (ih A.in1 _ _ v1 v2 _ _ (by show A.units + 1 + n < cLine; omega) (List.all_eq_true.mp h _ c1) (List.all_eq_true.mp h' _ c2) b1 b2 a1 a2).2.2
    intro A p q x y v u hu hp hq rp rq rx ry
    have hu' : A.units < cLine := by omega
    have sc : ∀ {b : Bool}, RcAt A s v u b ∧ RcNeAt A s v u (!b) ∧ EqAt A s v u b → b = peq p q → RcAt A s v u (peq p q) ∧ RcNeAt A s v u (!peq p q) ∧ EqAt A s v u (peq p q) := fun h e => e ▸ h
    cases rp with
    | dic _ => cases hp
    | exc _ _ => cases hp
    | scr _ => cases hp
    | non =>
      cases rx
      cases rq with
      | dic _ => cases hq
      | exc _ _ => cases hq
      | scr _ => cases hq
      | non => cases ry; exact sc ⟨RcAt.none_none, RcNeAt.none_none, EqAt.same _⟩ rfl
      | bl b => cases ry; exact sc ⟨RcAt.none_bool _, RcNeAt.none_bool _, EqAt.none_bool _⟩ rfl
      | int i => obtain ⟨t, rfl⟩ := ry; exact sc ⟨RcAt.none_int _ _, RcNeAt.none_int _ _, EqAt.none_int _ _⟩ rfl
      | str z => obtain ⟨t, rfl⟩ := ry; exact sc ⟨RcAt.none_str _ _, RcNeAt.none_str _ _, EqAt.none_str _ _⟩ rfl
      | tup e t => cases ry; obtain ⟨its, rv, hl⟩ := tup_is I e; exact sc ⟨RcAt.none_tuple hl hu', RcNeAt.none_tuple hl hu', EqAt.none_tuple hl hu'⟩ rfl
      | lst e t => cases ry; obtain ⟨its, rv, hl⟩ := lst_is I e; exact sc ⟨RcAt.none_list hl hu', RcNeAt.none_list hl hu', EqAt.none_list hl hu'⟩ rfl
    | bl a =>
      cases rx
      cases rq with
      | dic _ => cases hq
      | exc _ _ => cases hq
      | scr _ => cases hq
      | non => cases ry; exact sc ⟨RcAt.bool_none _, RcNeAt.bool_none _, EqAt.bool_none _⟩ rfl
      | bl b => cases ry; exact sc ⟨RcAt.bool_bool _ _, RcNeAt.bool_bool _ _, EqAt.bool_bool _ _⟩ (by simp [peq])
      | int i => obtain ⟨t, rfl⟩ := ry; exact sc ⟨RcAt.bool_int _ _ _, RcNeAt.bool_int _ _ _, EqAt.bool_int _ _ _⟩ (by simp [peq])
      | str z => obtain ⟨t, rfl⟩ := ry; exact sc ⟨RcAt.bool_str _ _ _, RcNeAt.bool_str _ _ _, EqAt.bool_str _ _ _⟩ rfl
      | tup e t => cases ry; obtain ⟨its, rv, hl⟩ := tup_is I e; exact sc ⟨RcAt.bool_tuple _ hl hu', RcNeAt.bool_tuple _ hl hu', EqAt.bool_tuple _ hl hu'⟩ rfl
      | lst e t => cases ry; obtain ⟨its, rv, hl⟩ := lst_is I e; exact sc ⟨RcAt.bool_list _ hl hu', RcNeAt.bool_list _ hl hu', EqAt.bool_list _ hl hu'⟩ rfl
    | int a =>
      obtain ⟨tt, rfl⟩ := rx
      cases rq with
      | dic _ => cases hq
      | exc _ _ => cases hq
      | scr _ => cases hq
      | non => cases ry; exact sc ⟨RcAt.int_none _ _, RcNeAt.int_none _ _, EqAt.int_none _ _⟩ rfl
      | bl b => cases ry; exact sc ⟨RcAt.int_bool _ _ _, RcNeAt.int_bool _ _ _, EqAt.int_bool _ _ _⟩ (by simp [peq])
      | int i => obtain ⟨t, rfl⟩ := ry; exact sc ⟨RcAt.int_int _ _ _ _, RcNeAt.int_int _ _ _ _, EqAt.int_int _ _ _ _⟩ (by simp [peq])
      | str z => obtain ⟨t, rfl⟩ := ry; exact sc ⟨RcAt.int_str _ _ _ _, RcNeAt.int_str _ _ _ _, EqAt.int_str _ _ _ _⟩ rfl
      | tup e t => cases ry; obtain ⟨its, rv, hl⟩ := tup_is I e; exact sc ⟨RcAt.int_tuple _ _ hl hu', RcNeAt.int_tuple _ _ hl hu', EqAt.int_tuple _ _ hl hu'⟩ rfl
      | lst e t => cases ry; obtain ⟨its, rv, hl⟩ := lst_is I e; exact sc ⟨RcAt.int_list _ _ hl hu', RcNeAt.int_list _ _ hl hu', EqAt.int_list _ _ hl hu'⟩ rfl
    | str a =>
      obtain ⟨tt, rfl⟩ := rx
      cases rq with
      | dic _ => cases hq
      | exc _ _ => cases hq
      | scr _ => cases hq
      | non => cases ry; exact sc ⟨RcAt.str_none _ _, RcNeAt.str_none _ _, EqAt.str_none _ _⟩ rfl
      | bl b => cases ry; exact sc ⟨RcAt.str_bool _ _ _, RcNeAt.str_bool _ _ _, EqAt.str_bool _ _ _⟩ rfl
      | int i => obtain ⟨t, rfl⟩ := ry; exact sc ⟨RcAt.str_int _ _ _ _, RcNeAt.str_int _ _ _ _, EqAt.str_int _ _ _ _⟩ rfl
      | str z => obtain ⟨t, rfl⟩ := ry; exact sc ⟨RcAt.str_str _ _ _ _, RcNeAt.str_str _ _ _ _, EqAt.str_str _ _ _ _⟩ (by simp [peq])
      | tup e t => cases ry; obtain ⟨its, rv, hl⟩ := tup_is I e; exact sc ⟨RcAt.str_tuple _ _ hl hu', RcNeAt.str_tuple _ _ hl hu', EqAt.str_tuple _ _ hl hu'⟩ rfl
      | lst e t => cases ry; obtain ⟨its, rv, hl⟩ := lst_is I e; exact sc ⟨RcAt.str_list _ _ hl hu', RcNeAt.str_list _ _ hl hu', EqAt.str_list _ _ hl hu'⟩ rfl
    | @tup a xs ps e t =>
      cases rx
      obtain ⟨its, rv, hl⟩ := tup_is I e
      cases rq with
      | dic _ => cases hq
      | exc _ _ => cases hq
      | scr _ => cases hq
      | non => cases ry; exact sc ⟨RcAt.tuple_none hl hu', RcNeAt.tuple_none hl hu', EqAt.tuple_none hl hu'⟩ rfl
      | bl b => cases ry; exact sc ⟨RcAt.tuple_bool _ hl hu', RcNeAt.tuple_bool _ hl hu', EqAt.tuple_bool _ hl hu'⟩ rfl
      | int i => obtain ⟨t, rfl⟩ := ry; exact sc ⟨RcAt.tuple_int _ _ hl hu', RcNeAt.tuple_int _ _ hl hu', EqAt.tuple_int _ _ hl hu'⟩ rfl
      | str z => obtain ⟨t, rfl⟩ := ry; exact sc ⟨RcAt.tuple_str _ _ hl hu', RcNeAt.tuple_str _ _ hl hu', EqAt.tuple_str _ _ hl hu'⟩ rfl
      | lst e' t' => cases ry; obtain ⟨jts, rw', hl'⟩ := lst_is I e'; exact sc ⟨RcAt.tuple_list hl hl' hu', RcNeAt.tuple_list hl hl' hu', EqAt.tuple_list hl hl' hu'⟩ rfl
      | @tup b ys qs e' t' =>
        cases ry
        obtain ⟨jts, rw', hl'⟩ := tup_is I e'
        have it := items A (by omega) hp hq t t' rv rw'
        have n1 : its.toArray.size = ps.length := by rw [List.size_toArray, ← rv.length, t.length]
        have n2 : jts.toArray.size = qs.length := by rw [List.size_toArray, ← rw'.length, t'.length]
        have h1 := RcAt.tuples hl hl' hu' it
        have h2 := RcNeAt.tuples hl hl' hu' it
        rw [n1, n2, ← peqs_range] at h1 h2
        refine ⟨h1, h2, ?_⟩
        by_cases hab : a = b
        · subst hab
          have z := rep_same I (n + 1) _ _ _ hp hq (.tup e t) (.tup e' t')
          rw [z]; exact EqAt.same _
        · exact EqAt.of_refs hab h1
    | @lst a xs ps e t =>
      cases rx
      obtain ⟨its, rv, hl⟩ := lst_is I e
      cases rq with
      | dic _ => cases hq
      | exc _ _ => cases hq
      | scr _ => cases hq
      | non => cases ry; exact sc ⟨RcAt.list_none hl hu', RcNeAt.list_none hl hu', EqAt.list_none hl hu'⟩ rfl
      | bl b => cases ry; exact sc ⟨RcAt.list_bool _ hl hu', RcNeAt.list_bool _ hl hu', EqAt.list_bool _ hl hu'⟩ rfl
      | int i => obtain ⟨t, rfl⟩ := ry; exact sc ⟨RcAt.list_int _ _ hl hu', RcNeAt.list_int _ _ hl hu', EqAt.list_int _ _ hl hu'⟩ rfl
      | str z => obtain ⟨t, rfl⟩ := ry; exact sc ⟨RcAt.list_str _ _ hl hu', RcNeAt.list_str _ _ hl hu', EqAt.list_str _ _ hl hu'⟩ rfl
      | tup e' t' => cases ry; obtain ⟨jts, rw', hl'⟩ := tup_is I e'; exact sc ⟨RcAt.list_tuple hl hl' hu', RcNeAt.list_tuple hl hl' hu', EqAt.list_tuple hl hl' hu'⟩ rfl
      | @lst b ys qs e' t' =>
        cases ry
        obtain ⟨jts, rw', hl'⟩ := lst_is I e'
        have it := items A (by omega) hp hq t t' rv rw'
        have n1 : its.toArray.size = ps.length := by rw [List.size_toArray, ← rv.length, t.length]
        have n2 : jts.toArray.size = qs.length := by rw [List.size_toArray, ← rw'.length, t'.length]
        have h12 : RcAt A s (.ref a) (.ref b) (peqs ps qs) ∧ RcNeAt A s (.ref a) (.ref b) (!peqs ps qs) := by
          by_cases hl2 : ps.length = qs.length
          · have h1 := RcAt.lists hl hl' (by rw [n1, n2, hl2]) hu' it
            have h2 := RcNeAt.lists hl hl' (by rw [n1, n2, hl2]) hu' it
            have ee : (List.range its.toArray.size).all (fun j => peq (ps.getD j .non) (qs.getD j .non)) = peqs ps qs := by
              rw [peqs_range, n1, ← hl2, Nat.min_self]; simp
            rw [ee] at h1 h2
            exact ⟨h1, h2⟩
          · rw [peqs_len hl2]
            have hne : (its.toArray.size != jts.toArray.size) = true := by rw [n1, n2]; simpa using hl2
            exact ⟨RcAt.lists_lengths hl hl' hne hu', RcNeAt.lists_lengths hl hl' hne hu'⟩
        refine ⟨h12.1, h12.2, ?_⟩
        by_cases hab : a = b
        · subst hab
          have z := rep_same I (n + 1) _ _ _ hp hq (.lst e t) (.lst e' t')
          rw [z]; exact EqAt.same _
        · exact EqAt.of_refs hab h12.1
end
def pEq (p q : PV) : Res PV := if eqOk 20 p = true ∧ eqOk 20 q = true then .ok (.bl (peq p q)) else .stuck
def pNe (p q : PV) : Res PV := if eqOk 20 p = true ∧ eqOk 20 q = true then .ok (.bl (!peq p q)) else .stuck
section
variable {X : Cx}
theorem opp_eq (hu : X.A.units + 20 < cLine) : OpP X (compareOp .Eq) pEq := by
  intro EO pins s σ H x y v u Q I rx ry h
  obtain ⟨Hs, p, q, i, rp, rq, h⟩ := h
  unfold pEq at h
  split at h
  · rename_i hc
    exact (deep I 20 X.A p q x y v u hu hc.1 hc.2 (rp.mono i) (rq.mono i) rx ry).1 _ _ _ _ ⟨.bl _, H, I, rfl, ret_bl h i⟩
  · exact h.elim
theorem opp_ne (hu : X.A.units + 20 < cLine) : OpP X (compareOp .NotEq) pNe := by
  intro EO pins s σ H x y v u Q I rx ry h
  obtain ⟨Hs, p, q, i, rp, rq, h⟩ := h
  unfold pNe at h
  split at h
  · rename_i hc
    exact (deep I 20 X.A p q x y v u hu hc.1 hc.2 (rp.mono i) (rq.mono i) rx ry).2.1 _ _ _ _ ⟨.bl _, H, I, rfl, ret_bl h i⟩
  · exact h.elim
end
end G
set_option Elab.async false
set_option linter.all false
set_option maxRecDepth 100000
set_option maxHeartbeats 1000000
namespace G
open PySem PySem.Spec PyProof.Rows L2

/-! ### order, is None, unary -/
def pCmp (f : Int → Int → Bool) : PV → PV → Res PV
  | .int i, .int j => .ok (.bl (f i j))
  | _, _ => .stuck
def isNon : PV → Bool
  | .non => true
  | _ => false
def pIs : PV → PV → Res PV
  | p, .non => .ok (.bl (isNon p))
  | _, _ => .stuck
def pIsNot : PV → PV → Res PV
  | p, .non => .ok (.bl (!isNon p))
  | _, _ => .stuck
def e1 (g : PV → Res PV) (a : DE) : DE := fun σ => (a σ).bind g
section
variable {X : Cx} {H0 Hs0 : Hp}
theorem opp_cmp {op : CmpOp} {f : Int → Int → Bool} (h : OpR X (compareOp op) (rI0 fun i j => .bl (f i j))) : OpP X (compareOp op) (pCmp f) := by
  intro EO pins s σ H x y v u Q I rx ry hh
  obtain ⟨Hs, p, q, i, rp, rq, hh⟩ := hh
  unfold pCmp at hh
  split at hh
  · cases rp.int_inv; cases rq.int_inv
    exact h pins s σ H _ _ v u Q I rx ry ⟨_, _, rfl, rfl, ret_bl hh i⟩
  · exact hh.elim
theorem opp_lt : OpP X (compareOp .Lt) (pCmp fun i j => decide (i < j)) := opp_cmp op_lt
theorem opp_le : OpP X (compareOp .LtE) (pCmp fun i j => decide (i ≤ j)) := opp_cmp op_le
theorem opp_gt : OpP X (compareOp .Gt) (pCmp fun i j => decide (j < i)) := opp_cmp op_gt
theorem opp_ge : OpP X (compareOp .GtE) (pCmp fun i j => decide (j ≤ i)) := opp_cmp op_ge
theorem rep_non {K : PySem.W.Frag} {H : Hp} {x : V} {p : PV} (r : Rep K H x p) : decide (x = .non) = isNon p := by
  cases r <;> simp [isNon]
theorem opp_is : OpP X (compareOp .Is) pIs := by
  intro EO pins s σ H x y v u Q I rx ry hh
  obtain ⟨Hs, p, q, i, rp, rq, hh⟩ := hh
  unfold pIs at hh
  split at hh
  · cases rq.non_inv
    refine op_isN pins s σ H _ _ v u Q I rx ry ⟨rfl, ?_⟩
    rw [rep_non rp]; exact ret_bl hh i
  · exact hh.elim
theorem opp_isnot : OpP X (compareOp .IsNot) pIsNot := by
  intro EO pins s σ H x y v u Q I rx ry hh
  obtain ⟨Hs, p, q, i, rp, rq, hh⟩ := hh
  unfold pIsNot at hh
  split at hh
  · cases rq.non_inv
    refine op_notN pins s σ H _ _ v u Q I rx ry ⟨rfl, ?_⟩
    rw [rep_non rp]; exact ret_bl hh i
  · exact hh.elim
variable {a b c : Expr} {da db dc : DE} {pos : Pos}
theorem one {g : PV → Res PV} {τ : L2.St} {H : Hp} {Q : VK} (h : RE X H0 Hs0 (e1 g da) τ H Q) :
    RE X H0 Hs0 da τ H fun x H1 => ∃ Hs p, Same Hs H1 ∧ Rep X.K Hs x p ∧ Ret X.K Hs H1 (g p) (ErrOk X H0 Hs0) Q := by
  obtain ⟨Hs, σ, S, h⟩ := h
  exact ⟨Hs, σ, S, Ret.mono (Ret.bind h) fun x H1 ⟨Hs1, p, g1, r1, h1⟩ => ⟨Hs1, p, g1.i, r1, h1⟩⟩
theorem q_neg (ha : QE X H0 Hs0 a da) : QE X H0 Hs0 (.UnaryOp .USub a pos) (e1 pNeg da) :=
  PE.imp (pe_un un_neg ha) fun τ H Q h => by
    obtain ⟨Hs, σ, S, h⟩ := one h
    refine ⟨Hs, σ, S, Ret.mono h fun x H1 ⟨Hs1, p, i, r, h1⟩ => ?_⟩
    unfold pNeg at h1
    split at h1
    · cases r.int_inv; exact ⟨_, rfl, ret_int h1 i⟩
    · exact h1.elim

/-! ### tests -/
def asB : PV → Res Bool
  | .bl b => .ok b
  | _ => .stuck
def tV (d : DE) : DT := fun σ => (d σ).bind asB
def tAnd (a b : DT) : DT := fun σ => (a σ).bind fun c => if c = true then b σ else .ok false
def tOr (a b : DT) : DT := fun σ => (a σ).bind fun c => if c = true then .ok true else b σ
def tNot (a : DT) : DT := fun σ => (a σ).bind fun c => .ok (!c)
theorem val_test {τ : L2.St} {H : Hp} {Q : Bool → Hp → Prop} (h : RT X H0 Hs0 (tV da) τ H Q) : RE X H0 Hs0 da τ H fun x H1 => ∃ k, x = .bl k ∧ Q k H1 := by
  obtain ⟨Hs, σ, S, h⟩ := h
  refine ⟨Hs, σ, S, ?_⟩
  unfold tV at h
  generalize da σ = r at h ⊢
  cases r with
  | ok p =>
    cases p with
    | bl k => exact fun v Hs' H' g r => ⟨k, r.bl_inv, h Hs' H' g⟩
    | _ => exact h.elim
  | err c => exact h
  | stuck => exact h
theorem qt_val (ha : QE X H0 Hs0 a da) (he : ∀ whole, isTrue a X.env whole = (do let v ← whole; standAt a.pos; holding [v] (truthy v))) : QT X H0 Hs0 a (tV da) :=
  PT.imp (pt_val ha he) fun τ H Q h => val_test h
theorem qt_cmp {op : CmpOp} {g : PV → PV → Res PV} (ho : OpP X (compareOp op) g) (ha : QE X H0 Hs0 a da) (hb : QE X H0 Hs0 b db) (hm : behindInMarks op b = false) : QT X H0 Hs0 (.Compare a [op] [b] pos) (tV (e2 g da db)) :=
  PT.imp (pt_cmpR (ho (ErrOk X H0 Hs0)) ha hb hm) fun τ H Q h => two (val_test h)
theorem RetB.mono {Hs H : Hp} {r : Res Bool} {EO : Str → Prop} {Q Q' : Bool → Hp → Prop} (h : RetB Hs H r EO Q) (m : ∀ v H', Q v H' → Q' v H') : RetB Hs H r EO Q' := by
  cases r with
  | ok p => exact fun Hs' H' g => m _ _ (h Hs' H' g)
  | err c => exact h
  | stuck => exact h
variable {ta tb : DT} {rest : List Expr}
theorem and_read {τ : L2.St} {H : Hp} {Q : Bool → Hp → Prop} (h : RT X H0 Hs0 (tAnd ta tb) τ H Q) : RT X H0 Hs0 ta τ H fun c H1 => if c = true then RT X H0 Hs0 tb τ H1 Q else Q false H1 := by
  obtain ⟨Hs, σ, S, h⟩ := h
  refine ⟨Hs, σ, S, RetB.mono (RetB.bind h) fun c H1 ⟨Hs1, g1, h1⟩ => ?_⟩
  cases c with
  | true => exact ⟨Hs1, σ, S.grow g1, h1⟩
  | false => exact h1 Hs1 H1 (.refl g1.i)
theorem or_read {τ : L2.St} {H : Hp} {Q : Bool → Hp → Prop} (h : RT X H0 Hs0 (tOr ta tb) τ H Q) : RT X H0 Hs0 ta τ H fun c H1 => if c = true then Q true H1 else RT X H0 Hs0 tb τ H1 Q := by
  obtain ⟨Hs, σ, S, h⟩ := h
  refine ⟨Hs, σ, S, RetB.mono (RetB.bind h) fun c H1 ⟨Hs1, g1, h1⟩ => ?_⟩
  cases c with
  | true => exact h1 Hs1 H1 (.refl g1.i)
  | false => exact ⟨Hs1, σ, S.grow g1, h1⟩
theorem qw_and1 (ha : QT X H0 Hs0 a ta) : QW X H0 Hs0 (.BoolOp .And [a] pos) ta := pw_and1 ha
theorem qw_or1 (ha : QT X H0 Hs0 a ta) : QW X H0 Hs0 (.BoolOp .Or [a] pos) ta := pw_or1 ha
theorem qw_and (ha : QT X H0 Hs0 a ta) (hb : QW X H0 Hs0 (.BoolOp .And (b :: rest) pos) tb) : QW X H0 Hs0 (.BoolOp .And (a :: b :: rest) pos) (tAnd ta tb) := PW.imp (pw_and ha hb) fun _ _ _ h => and_read h
theorem qw_or (ha : QT X H0 Hs0 a ta) (hb : QW X H0 Hs0 (.BoolOp .Or (b :: rest) pos) tb) : QW X H0 Hs0 (.BoolOp .Or (a :: b :: rest) pos) (tOr ta tb) := PW.imp (pw_or ha hb) fun _ _ _ h => or_read h
theorem QW.qt (h : QW X H0 Hs0 a ta) : QT X H0 Hs0 a ta := PW.pt h
theorem qt_not (ha : QT X H0 Hs0 a ta) : QT X H0 Hs0 (.UnaryOp .Not a pos) (tNot ta) := PT.imp (pt_not ha) fun τ H Q h => by
  obtain ⟨Hs, σ, S, h⟩ := h
  exact ⟨Hs, σ, S, RetB.mono (RetB.bind h) fun c H1 ⟨Hs1, g1, h1⟩ => h1 Hs1 H1 (.refl g1.i)⟩
/-- and, or, not as values -/
def eAnd (a b : DE) : DE := fun σ => (a σ).bind fun p => (asB p).bind fun c => if c = true then b σ else .ok (.bl false)
def eOr (a b : DE) : DE := fun σ => (a σ).bind fun p => (asB p).bind fun c => if c = true then .ok (.bl true) else b σ
def pNot (p : PV) : Res PV := (asB p).bind fun c => .ok (.bl (!c))
theorem asB_ok {p : PV} {c : Bool} (h : asB p = .ok c) : p = .bl c := by
  cases p <;> simp [asB] at h
  subst h; rfl
theorem q_one {op : BoolOp} (ha : QE X H0 Hs0 a da) : QE X H0 Hs0 (.BoolOp op [a] pos) da := pe_one ha
theorem bool_split {p : PV} {K : PySem.W.Frag} {Hs H : Hp} {x : V} {f : Bool → Res PV} {EO : Str → Prop} {Q : VK} (r : Rep K Hs x p) (h : Ret K Hs H ((asB p).bind f) EO Q) : ∃ c, x = .bl c ∧ Ret K Hs H (f c) EO Q := by
  cases p with
  | bl c => exact ⟨c, r.bl_inv, h⟩
  | _ => exact h.elim
theorem q_and (ha : QE X H0 Hs0 a da) (hb : QE X H0 Hs0 (.BoolOp .And (b :: rest) pos) db) : QE X H0 Hs0 (.BoolOp .And (a :: b :: rest) pos) (eAnd da db) :=
  PE.imp (pe_and ha hb) fun τ H Q ⟨Hs, σ, S, h⟩ => ⟨Hs, σ, S, Ret.mono (Ret.bind h) fun x H1 ⟨Hs1, p, g1, r1, h1⟩ => by
    obtain ⟨c, e, h2⟩ := bool_split r1 h1
    refine ⟨c, e, ?_⟩
    cases c with
    | true => exact ⟨Hs1, σ, S.grow g1, h2⟩
    | false => exact ret_bl h2 g1.i⟩
theorem q_or (ha : QE X H0 Hs0 a da) (hb : QE X H0 Hs0 (.BoolOp .Or (b :: rest) pos) db) : QE X H0 Hs0 (.BoolOp .Or (a :: b :: rest) pos) (eOr da db) :=
  PE.imp (pe_or ha hb) fun τ H Q ⟨Hs, σ, S, h⟩ => ⟨Hs, σ, S, Ret.mono (Ret.bind h) fun x H1 ⟨Hs1, p, g1, r1, h1⟩ => by
    obtain ⟨c, e, h2⟩ := bool_split r1 h1
    refine ⟨c, e, ?_⟩
    cases c with
    | true => exact ret_bl h2 g1.i
    | false => exact ⟨Hs1, σ, S.grow g1, h2⟩⟩
theorem q_not (ha : QE X H0 Hs0 a da) : QE X H0 Hs0 (.UnaryOp .Not a pos) (e1 pNot da) :=
  PE.imp (pe_not ha) fun τ H Q h => by
    obtain ⟨Hs, σ, S, h⟩ := one h
    refine ⟨Hs, σ, S, Ret.mono h fun x H1 ⟨Hs1, p, i, r, h1⟩ => ?_⟩
    obtain ⟨c, e, h2⟩ := bool_split r h1
    exact ⟨c, e, ret_bl h2 i⟩
def eIf (t : DT) (a b : DE) : DE := fun σ => (t σ).bind fun c => if c = true then a σ else b σ
theorem Ret.bindB {K : PySem.W.Frag} {Hs H : Hp} {r : Res Bool} {f : Bool → Res PV} {EO : Str → Prop} {Q : VK} (h : Ret K Hs H (r.bind f) EO Q) :
    RetB Hs H r EO fun b H1 => ∃ Hs1, Grow Hs H Hs1 H1 ∧ Ret K Hs1 H1 (f b) EO Q := by
  cases r with
  | ok p => exact fun Hs' H' g => ⟨Hs', g, Ret.grow (r := f p) h g⟩
  | err c => exact h
  | stuck => exact h
theorem q_ifExp (hc : QT X H0 Hs0 c ta) (ha : QE X H0 Hs0 a da) (hb : QE X H0 Hs0 b db) : QE X H0 Hs0 (.IfExp c a b pos) (eIf ta da db) :=
  PE.imp (pe_ifExp hc ha hb) fun τ H Q ⟨Hs, σ, S, h⟩ => ⟨Hs, σ, S, RetB.mono (Ret.bindB h) fun k H1 ⟨Hs1, g1, h1⟩ => by
    cases k with
    | true => exact ⟨Hs1, σ, S.grow g1, h1⟩
    | false => exact ⟨Hs1, σ, S.grow g1, h1⟩⟩

/-! ### argument lists, displays -/
def aNil : DA := fun _ => .ok []
def aCons (a : DE) (r : DA) : DA := fun σ => (a σ).bind fun p => (r σ).bind fun ps => .ok (p :: ps)
theorem Rets.mono {K : PySem.W.Frag} {Hs H : Hp} {r : Res (List PV)} {EO : Str → Prop} {Q Q' : List V → Hp → Prop} (h : Rets K Hs H r EO Q) (m : ∀ v H', Q v H' → Q' v H') : Rets K Hs H r EO Q' := by
  cases r with
  | ok p => exact fun v Hs' H' g r => m _ _ (h v Hs' H' g r)
  | err c => exact h
  | stuck => exact h
theorem Rets.grow {K : PySem.W.Frag} {Hs H Hs1 H1 : Hp} {r : Res (List PV)} {EO : Str → Prop} {Q : List V → Hp → Prop} (h : Rets K Hs H r EO Q) (g : Grow Hs H Hs1 H1) : Rets K Hs1 H1 r EO Q := by
  cases r with
  | ok p => exact fun v Hs' H' g' r => h v Hs' H' (g.trans g') r
  | err c => exact h
  | stuck => exact h
theorem Rets.bind1 {K : PySem.W.Frag} {Hs H : Hp} {r : Res PV} {f : PV → Res (List PV)} {EO : Str → Prop} {Q : List V → Hp → Prop} (h : Rets K Hs H (r.bind f) EO Q) :
    Ret K Hs H r EO fun v H1 => ∃ Hs1 p, Grow Hs H Hs1 H1 ∧ Rep K Hs1 v p ∧ Rets K Hs1 H1 (f p) EO Q := by
  cases r with
  | ok p => exact fun v Hs' H' g r => ⟨Hs', p, g, r, Rets.grow (r := f p) h g⟩
  | err c => exact h
  | stuck => exact h
theorem Ret.bindA {K : PySem.W.Frag} {Hs H : Hp} {r : Res (List PV)} {f : List PV → Res PV} {EO : Str → Prop} {Q : VK} (h : Ret K Hs H (r.bind f) EO Q) :
    Rets K Hs H r EO fun v H1 => ∃ Hs1 p, Grow Hs H Hs1 H1 ∧ Reps K Hs1 v p ∧ Ret K Hs1 H1 (f p) EO Q := by
  cases r with
  | ok p => exact fun v Hs' H' g r => ⟨Hs', p, g, r, Ret.grow (r := f p) h g⟩
  | err c => exact h
  | stuck => exact h
theorem qa_nil : QA X H0 Hs0 [] aNil := PA.imp pa_nil fun τ H Q ⟨Hs, σ, S, h⟩ => h [] Hs H (.refl S.g.i) .nil
theorem cons_read {ra : DA} {τ : L2.St} {H : Hp} {Q : List V → Hp → Prop} (h : RA X H0 Hs0 (aCons da ra) τ H Q) : tCons (RE X H0 Hs0 da) (RA X H0 Hs0 ra) τ H Q := by
  obtain ⟨Hs, σ, S, h⟩ := h
  refine ⟨Hs, σ, S, Ret.mono (Rets.bind1 h) fun x H1 ⟨Hs1, p, g1, r1, h1⟩ => ⟨Hs1, σ, S.grow g1, ?_⟩⟩
  revert h1
  generalize ra σ = r
  intro h1
  cases r with
  | ok ps => exact fun vs Hs' H' g r => h1 _ Hs' H' g (.cons (r1.mono g.s) r)
  | err c => exact h1
  | stuck => exact h1
theorem qa_cons {es : List Expr} {ra : DA} (ha : QE X H0 Hs0 a da) (hr : QA X H0 Hs0 es ra) (hs : starEach (a :: es) X.env = (false, eval a X.env) :: starEach es X.env) : QA X H0 Hs0 (a :: es) (aCons da ra) :=
  PA.imp (pa_cons ha hr hs) fun τ H Q h => cons_read h
def pTup (ps : List PV) : Res PV := if ps.length ≤ 10000000 then .ok (.tup ps) else .stuck
def pLst (ps : List PV) : Res PV := if ps.length ≤ 10000000 then .ok (.lst ps) else .stuck
def eA (g : List PV → Res PV) (a : DA) : DE := fun σ => (a σ).bind g
theorem small7 {n : Nat} (h : n ≤ 10000000) : n ≤ sizeLine := by rw [sizeLine_eq]; omega
theorem args_read {g : List PV → Res PV} {ra : DA} {τ : L2.St} {H : Hp} {Q : VK} (h : RE X H0 Hs0 (eA g ra) τ H Q) :
    RA X H0 Hs0 ra τ H fun vs H1 => ∃ Hs ps, Same Hs H1 ∧ Reps X.K Hs vs ps ∧ Ret X.K Hs H1 (g ps) (ErrOk X H0 Hs0) Q := by
  obtain ⟨Hs, σ, S, h⟩ := h
  exact ⟨Hs, σ, S, Rets.mono (Ret.bindA h) fun x H1 ⟨Hs1, p, g1, r1, h1⟩ => ⟨Hs1, p, g1.i, r1, h1⟩⟩
theorem RA.mono {ra : DA} {τ : L2.St} {H : Hp} {Q Q' : List V → Hp → Prop} (h : RA X H0 Hs0 ra τ H Q) (m : ∀ v H', Q v H' → Q' v H') : RA X H0 Hs0 ra τ H Q' :=
  let ⟨Hs, σ, S, h⟩ := h; ⟨Hs, σ, S, Rets.mono h m⟩
theorem RE.mono {ra : DE} {τ : L2.St} {H : Hp} {Q Q' : VK} (h : RE X H0 Hs0 ra τ H Q) (m : ∀ v H', Q v H' → Q' v H') : RE X H0 Hs0 ra τ H Q' :=
  let ⟨Hs, σ, S, h⟩ := h; ⟨Hs, σ, S, Ret.mono h m⟩
theorem q_tup {es : List Expr} {ra : DA} {x1} (h : QA X H0 Hs0 es ra) : QE X H0 Hs0 (.Tuple es x1 pos) (eA pTup ra) :=
  PE.imp (pe_tup h) fun τ H Q h => RA.mono (args_read h) fun vs H1 ⟨Hs, ps, i, r, h1⟩ => by
    unfold pTup at h1
    split at h1
    · rename_i hl
      exact ⟨small7 (by rw [r.length]; exact hl), fun p hp => h1 _ _ _ (.new i hp) (.tup (SqT.of upd_same) (r.mono (same_upd (i.free hp))))⟩
    · exact h1.elim
theorem q_lst {es : List Expr} {ra : DA} (h : QA X H0 Hs0 es ra) : QE X H0 Hs0 (.List es pos) (eA pLst ra) :=
  PE.imp (pe_lst h) fun τ H Q h => RA.mono (args_read h) fun vs H1 ⟨Hs, ps, i, r, h1⟩ => by
    unfold pLst at h1
    split at h1
    · rename_i hl
      exact ⟨small7 (by rw [r.length]; exact hl), fun p hp => h1 _ _ _ (.new i hp) (.lst upd_same (r.mono (same_upd (i.free hp))))⟩
    · exact h1.elim

/-! ### calls of built-in functions and types -/
def CallP (X : Cx) (f : Value) (g : List PV → Res PV) : Prop :=
  ∀ (EO : Str → Prop), CallR X f fun xs H Q => ∃ Hs ps, Same Hs H ∧ Reps X.K Hs xs ps ∧ Ret X.K Hs H (g ps) EO Q
theorem q_callB {x : Str} {id : String} {p : Pos} {e : Expr} {es : List Expr} {g : List PV → Res PV} {ra : DA} (hc : CallP X (.builtin id) g) (hg : Gl X x) (hm : X.mg x = none) (hv : bootBuiltins x = some (.builtin id)) (ha : QA X H0 Hs0 (e :: es) ra)
    (hn : x ≠ "__name__") (hdb : (x == ("__debug__" : Str)) = false) (he : starEach (e :: es) X.env = (false, eval e X.env) :: starEach es X.env) (hpl : (backTo pos (starEach es X.env)).any (·.1) = false) :
    QE X H0 Hs0 (.Call (.Name x p) (e :: es) [] pos) (eA g ra) :=
  PE.imp (pe_callB (hc (ErrOk X H0 Hs0)) hg hm hv ha hn hdb he hpl) fun τ H Q h => args_read h
theorem q_callTy {x : Str} {T : String} {p : Pos} {e : Expr} {es : List Expr} {g : List PV → Res PV} {ra : DA} (hc : CallP X (.type T) g) (hg : Gl X x) (hm : X.mg x = none) (hv : bootBuiltins x = some (.type T)) (ha : QA X H0 Hs0 (e :: es) ra)
    (hn : x ≠ "__name__") (hdb : (x == ("__debug__" : Str)) = false) (he : starEach (e :: es) X.env = (false, eval e X.env) :: starEach es X.env) (hpl : (backTo pos (starEach es X.env)).any (·.1) = false) :
    QE X H0 Hs0 (.Call (.Name x p) (e :: es) [] pos) (eA g ra) :=
  PE.imp (pe_callTy (hc (ErrOk X H0 Hs0)) hg hm hv ha hn hdb he hpl) fun τ H Q h => args_read h
def bAbs : List PV → Res PV
  | [.int i] => .ok (.int (if i < 0 then -i else i))
  | _ => .stuck
def bLen : List PV → Res PV
  | [.tup xs] => .ok (.int xs.length)
  | [.lst xs] => .ok (.int xs.length)
  | [.scr ns] => .ok (.int ns.length)
  | _ => .stuck
def bMax : List PV → Res PV
  | [.int i, .int j] => .ok (.int (if j > i then j else i))
  | _ => .stuck
def bMin : List PV → Res PV
  | [.int i, .int j] => .ok (.int (if j < i then j else i))
  | _ => .stuck
theorem Reps.one_inv {K : PySem.W.Frag} {H : Hp} {vs : List V} {p : PV} (r : Reps K H vs [p]) : ∃ v, vs = [v] ∧ Rep K H v p := by
  obtain ⟨v, ws, rfl, r1, r2⟩ := r.cons_inv
  cases r2.nil_inv
  exact ⟨v, rfl, r1⟩
theorem Reps.two_inv {K : PySem.W.Frag} {H : Hp} {vs : List V} {p q : PV} (r : Reps K H vs [p, q]) : ∃ v w, vs = [v, w] ∧ Rep K H v p ∧ Rep K H w q := by
  obtain ⟨v, ws, rfl, r1, r2⟩ := r.cons_inv
  obtain ⟨w, rfl, r3⟩ := r2.one_inv
  exact ⟨v, w, rfl, r1, r3⟩
theorem cp_abs : CallP X (.builtin "abs") bAbs := by
  intro EO pins s σ H xs us Q I r h
  obtain ⟨Hs, ps, i, rp, h⟩ := h
  unfold bAbs at h
  split at h
  · obtain ⟨v, rfl, r1⟩ := rp.one_inv
    cases r1.int_inv
    exact call_abs pins s σ H _ us Q I r ⟨_, rfl, ret_int h i⟩
  · exact h.elim
theorem cp_len : CallP X (.builtin "len") bLen := by
  intro EO pins s σ H xs us Q I r h
  obtain ⟨Hs, ps, i, rp, h⟩ := h
  unfold bLen at h
  split at h
  · obtain ⟨v, rfl, r1⟩ := rp.one_inv
    obtain ⟨a, vs, rfl, ha, ra⟩ := r1.tup_inv
    exact call_len_seq pins s σ H _ us Q I r ⟨a, vs, rfl, .inr (same_seqT i ha), by rw [ra.length]; exact ret_int h i⟩
  · obtain ⟨v, rfl, r1⟩ := rp.one_inv
    obtain ⟨a, vs, rfl, ha, ra⟩ := r1.lst_inv
    exact call_len_seq pins s σ H _ us Q I r ⟨a, vs, rfl, .inl (SqL.of (i _ _ ha)), by rw [ra.length]; exact ret_int h i⟩
  · obtain ⟨v, rfl, r1⟩ := rp.one_inv
    obtain ⟨a, rfl, ha⟩ := r1.scr_inv
    exact call_len_seq pins s σ H _ us Q I r ⟨a, _, rfl, .inl (i.seq ha), by rw [List.length_map]; exact ret_int h i⟩
  · exact h.elim
theorem cp_max (hc : X.calm = true) : CallP X (.builtin "max") bMax := by
  intro EO pins s σ H xs us Q I r h
  obtain ⟨Hs, ps, i, rp, h⟩ := h
  unfold bMax at h
  split at h
  · obtain ⟨v, w, rfl, r1, r2⟩ := rp.two_inv
    cases r1.int_inv; cases r2.int_inv
    exact call_max2 hc pins s σ H _ us Q I r ⟨_, _, rfl, ret_int h i⟩
  · exact h.elim
theorem cp_min (hc : X.calm = true) : CallP X (.builtin "min") bMin := by
  intro EO pins s σ H xs us Q I r h
  obtain ⟨Hs, ps, i, rp, h⟩ := h
  unfold bMin at h
  split at h
  · obtain ⟨v, w, rfl, r1, r2⟩ := rp.two_inv
    cases r1.int_inv; cases r2.int_inv
    exact call_min2 hc pins s σ H _ us Q I r ⟨_, _, rfl, ret_int h i⟩
  · exact h.elim

/-! ### calls of the text's own defs -/
def Fsp (K : PySem.W.Frag) (n : Nat) (m : List PV → Res PV) : Sp := fun vs H Q E => vs.length = n ∧ ∃ Hs ps, Same Hs H ∧ Reps K Hs vs ps ∧ Ret K Hs H (m ps) (fun c => ∀ (C : Addr) (Hs1 H1 : Hp), ClsIs K c C → Grow Hs H Hs1 H1 → E (.ref C) none H1) Q
structure FunIs (X : Cx) (f : Str) (m : List PV → Res PV) : Prop where
  ex : ∃ (a : Addr) (fd : FuncData) (ps : List Str) (k : Nat), X.mg f = some (.ref a) ∧ PySem.W.keepIn X.K (.ref a) = true ∧ Binds X.K fd ps [] ∧ Room k X.A ∧ (∀ qs, qs.length ≠ ps.length → m qs = .stuck) ∧
    FnOk X.prog X.w X.K X.mg X.base (CXG X.prog X.w) k a fd ps (Fsp X.K ps.length m)
/-- no exception of an own def is let through in this make -/
def noErr (r : Res PV) : Res PV := match r with
  | .err _ => .stuck
  | r => r
theorem Ret.noErr {K : PySem.W.Frag} {Hs H : Hp} {r : Res PV} {EO EO' : Str → Prop} {Q : VK} (h : Ret K Hs H (G.noErr r) EO Q) : Ret K Hs H r EO' Q := by
  cases r with
  | ok p => exact h
  | err c => exact h.elim
  | stuck => exact h
theorem passN {X : Cx} : Passes (CXG X.prog X.w) X (fun _ _ _ => False) := fun _ _ _ _ _ _ _ ⟨_, _, _, _, _, _, _, _, _, _, _, z⟩ => z.elim
theorem passE {X : Cx} {H0 Hs0 : Hp} : Passes (CXG X.prog X.w) X (fun cls _ H1 => ∃ (c : Str) (C : Addr) (Hs1 : Hp), cls = .ref C ∧ ClsIs X.K c C ∧ Grow Hs0 H0 Hs1 H1 ∧ ErrOk X H0 Hs0 c) :=
  fun pins σ H s e s' I ⟨ea, C, B, a0, H1, h1, h2, h3, h4, h5, h6, c, C', Hs1, z1, z2, z3, z4⟩ => z4 e s' ⟨pins, σ, H, s, I, .inr ⟨ea, C, B, a0, H1, h1, h2, h3, h4, h5, h6, C', Hs1, z1, z2, z3⟩⟩
theorem args_readG {g : List PV → Res PV} {ra : DA} {τ : L2.St} {H : Hp} {Q : VK} (h : RE X H0 Hs0 (eA g ra) τ H Q) :
    RA X H0 Hs0 ra τ H fun vs H1 => ∃ Hs ps, Grow Hs0 H0 Hs H1 ∧ Reps X.K Hs vs ps ∧ Ret X.K Hs H1 (g ps) (ErrOk X H0 Hs0) Q := by
  obtain ⟨Hs, σ, S, h⟩ := h
  exact ⟨Hs, σ, S, Rets.mono (Ret.bindA h) fun x H1 ⟨Hs1, p, g1, r1, h1⟩ => ⟨Hs1, p, S.g.trans g1, r1, h1⟩⟩
/-- a call whose exceptions go on -/
theorem q_callE {x : Str} {p : Pos} {e : Expr} {es : List Expr} {m : List PV → Res PV} {ra : DA} (F : FunIs X x m) (hg : Gl X x) (ha : QA X H0 Hs0 (e :: es) ra)
    (hdb : (x == ("__debug__" : Str)) = false) (he : starEach (e :: es) X.env = (false, eval e X.env) :: starEach es X.env) (hpl : (backTo pos (starEach es X.env)).any (·.1) = false) :
    QE X H0 Hs0 (.Call (.Name x p) (e :: es) [] pos) (eA m ra) := by
  obtain ⟨a, fd, ps, k, hm, hk, hb, hr, har, F⟩ := F.ex
  refine PE.imp (pe_call F hr hg hm hk hb .nil (passE (H0 := H0) (Hs0 := Hs0)) ha hdb he hpl) fun τ H Q h => RA.mono (args_readG h) fun vs H1 ⟨Hs, qs, g, r, h1⟩ => ?_
  rw [List.append_nil]
  refine ⟨?_, Hs, qs, g.i, r, ?_⟩
  · by_cases hl : qs.length = ps.length
    · rw [r.length, hl]
    · rw [har qs hl] at h1; exact h1.elim
  · cases em : m qs with
    | ok p => rw [em] at h1; exact h1
    | err c =>
      rw [em] at h1
      exact fun C Hs1 H2 hc g2 => ⟨c, C, Hs1, rfl, hc, g.trans g2, h1⟩
    | stuck => rw [em] at h1; exact h1.elim
theorem q_call {x : Str} {p : Pos} {e : Expr} {es : List Expr} {m : List PV → Res PV} {ra : DA} (F : FunIs X x m) (hg : Gl X x) (ha : QA X H0 Hs0 (e :: es) ra)
    (hdb : (x == ("__debug__" : Str)) = false) (he : starEach (e :: es) X.env = (false, eval e X.env) :: starEach es X.env) (hpl : (backTo pos (starEach es X.env)).any (·.1) = false) :
    QE X H0 Hs0 (.Call (.Name x p) (e :: es) [] pos) (eA (fun ps => G.noErr (m ps)) ra) := by
  obtain ⟨a, fd, ps, k, hm, hk, hb, hr, har, F⟩ := F.ex
  refine PE.imp (pe_call F hr hg hm hk hb .nil passN ha hdb he hpl) fun τ H Q h => RA.mono (args_read h) fun vs H1 ⟨Hs, qs, i, r, h1⟩ => ?_
  rw [List.append_nil]
  refine ⟨?_, Hs, qs, i, r, h1.noErr⟩
  by_cases hl : qs.length = ps.length
  · rw [r.length, hl]
  · rw [har qs hl] at h1; exact h1.elim

/-! ### items -/
def atR {α : Type} (xs : List α) (i : Int) (f : α → PV) : Res PV := match atI xs i with
  | some x => .ok (f x)
  | none => .stuck
def pIx : PV → PV → Res PV
  | .tup ps, .int i => atR ps i id
  | .lst ps, .int i => atR ps i id
  | .scr ns, .int i => atR ns i .int
  | _, _ => .stuck
theorem at_rep {K : PySem.W.Frag} {H : Hp} {vs : List V} {ps : List PV} {i : Int} {p : PV} (r : Reps K H vs ps) (h : atI ps i = some p) : ∃ v, atI vs i = some v ∧ Rep K H v p := by
  unfold atI at h ⊢
  rw [r.length]
  cases e : ixN ps.length i with
  | none => rw [e] at h; cases h
  | some j => rw [e] at h; exact r.get h
theorem Grow.seqL {K : PySem.W.Frag} {Hs H Hs' H' : Hp} {a : Addr} {xs : List V} (g : Grow Hs H Hs' H') (h : SqL K H a xs) : SqL K H' a xs := g.h.seq h
/-- f's rule for subscripts upon plain values -/
theorem q_ix (ha : QE X H0 Hs0 a da) (hb : QE X H0 Hs0 b db) (hs : PlainIx b) : QE X H0 Hs0 (.Subscript a b pos) (e2 pIx da db) :=
  PE.imp (pe_ix ix_seq ha hb hs) fun τ H Q h => RE.mono (two h) fun x H1 h1 => RE.mono h1 fun y H2 ⟨Hs, p, q, i, rp, rq, h2⟩ => by
    unfold pIx at h2
    split at h2
    · obtain ⟨ad, vs, rfl, ht, r⟩ := rp.tup_inv
      cases rq.int_inv
      unfold atR at h2
      split at h2
      · rename_i x hx
        obtain ⟨v, hv, rv⟩ := at_rep r hx
        exact .inr (.inl ⟨ad, vs, _, v, rfl, rfl, same_seqT i ht, hv, h2 v Hs H2 (.refl i) rv⟩)
      · exact h2.elim
    · obtain ⟨ad, vs, rfl, ht, r⟩ := rp.lst_inv
      cases rq.int_inv
      unfold atR at h2
      split at h2
      · rename_i x hx
        obtain ⟨v, hv, rv⟩ := at_rep r hx
        exact .inl ⟨ad, vs, _, v, rfl, rfl, SqL.of (i _ _ ht), hv, h2 v Hs H2 (.refl i) rv⟩
      · exact h2.elim
    · obtain ⟨ad, rfl, ht⟩ := rp.scr_inv
      cases rq.int_inv
      unfold atR at h2
      split at h2
      · rename_i x hx
        obtain ⟨v, hv, rv⟩ := at_rep (K := X.K) (H := Hs) (Reps.ints _) (show atI (List.map PV.int _) _ = some (.int x) by
          unfold atI at hx ⊢
          rw [List.length_map]
          cases e : ixN _ _ with
          | none => rw [e] at hx; cases hx
          | some j =>
            rw [e] at hx
            show (List.map PV.int _)[j]? = _
            rw [List.getElem?_map]
            show Option.map PV.int _ = _
            rw [show _[j]? = some x from hx]; rfl)
        exact .inl ⟨ad, _, _, v, rfl, rfl, i.seq ht, hv, h2 v Hs H2 (.refl i) rv⟩
      · exact h2.elim
    · exact h2.elim
/-- an item of a list that a name owns -/
def eIxV (k : Nat) (db : DE) : DE := fun σ => match σ[k]? with
  | some (some (.own xs)) => (db σ).bind fun q => pIx (.lst xs) q
  | some (some (.sh p)) => (db σ).bind fun q => pIx p q
  | _ => .stuck
theorem q_ixv {k : Nat} {x : Str} {np : Pos} (hN : X.N[k]? = some x) (hv : Vis X.env.scope x) (hd : (x == ("__debug__" : Str)) = false) (hcd : (x == ("__classdict__" : Str)) = false) (hb : QE X H0 Hs0 b db) (hs : PlainIx b) :
    QE X H0 Hs0 (.Subscript (.Name x np) b pos) (eIxV k db) := by
  intro pins s τ H Q I ⟨Hs, σ, S, h⟩
  unfold eIxV at h
  split at h
  · rename_i xs e
    obtain ⟨v, e1, ad, vs, rfl, hH, hHs, hH0, r⟩ := S.slot k _ e
    refine pe_ix ix_list (pe_var hN hv hd hcd) hb hs pins s τ H Q I ⟨_, e1, Hs, σ, S, Ret.mono (Ret.bind h) fun y H1 ⟨Hs1, q, g1, rq, h1⟩ => ?_⟩
    cases q with
    | int i =>
      cases rq.int_inv
      simp only [pIx] at h1
      unfold atR at h1
      split at h1
      · rename_i x hx
        obtain ⟨v, hv, rv⟩ := at_rep r hx
        exact ⟨ad, vs, _, v, rfl, rfl, SqL.of (g1.h _ _ hH), hv, h1 v Hs1 H1 (.refl g1.i) (rv.mono g1.s)⟩
      · exact h1.elim
    | _ => exact h1.elim
  · rename_i p e
    refine q_ix (q_var (i := k) hN hv hd hcd) hb hs pins s τ H Q I ⟨Hs, σ, S, ?_⟩
    show Ret X.K Hs H ((eVar k σ).bind fun p => (db σ).bind fun q => pIx p q) _ Q
    unfold eVar
    rw [e]
    exact h
  · exact h.elim
/-- len of a list that a name owns -/
def eLenV (k : Nat) : DE := fun σ => match σ[k]? with
  | some (some (.own xs)) => .ok (.int xs.length)
  | some (some (.sh p)) => bLen [p]
  | _ => .stuck
theorem q_lenv {k : Nat} {x : Str} {np p : Pos} (hN : X.N[k]? = some x) (hv : Vis X.env.scope x) (hd : (x == ("__debug__" : Str)) = false) (hcd : (x == ("__classdict__" : Str)) = false) (hg : Gl X "len") (hm : X.mg "len" = none)
    (he : starEach [.Name x np] X.env = [(false, eval (.Name x np) X.env)]) (hpl : (backTo pos (starEach [] X.env)).any (·.1) = false) : QE X H0 Hs0 (.Call (.Name "len" p) [.Name x np] [] pos) (eLenV k) := by
  intro pins s τ H Q I ⟨Hs, σ, S, h⟩
  unfold eLenV at h
  split at h
  · rename_i xs e
    obtain ⟨v, e1, ad, vs, rfl, hH, hHs, hH0, r⟩ := S.slot k _ e
    refine pe_callB call_len_seq hg hm PySem.boot_len (pa_cons (pe_var hN hv hd hcd) pa_nil he) (by decide) (by decide) he hpl pins s τ H Q I ⟨_, e1, ad, vs, rfl, .inl (SqL.of hH), ?_⟩
    rw [r.length]; exact ret_int h S.g.i
  · rename_i p' e
    refine q_callB cp_len hg hm PySem.boot_len (qa_cons (q_var (i := k) hN hv hd hcd) qa_nil he) (by decide) (by decide) he hpl pins s τ H Q I ⟨Hs, σ, S, ?_⟩
    show Ret X.K Hs H (((eVar k σ).bind fun p => (aNil σ).bind fun ps => .ok (p :: ps)).bind bLen) _ Q
    unfold eVar
    rw [e]
    exact h
  · exact h.elim
end
end G
set_option Elab.async false
set_option linter.all false
set_option maxRecDepth 100000
set_option maxHeartbeats 1000000
namespace G
open PySem PySem.Spec PyProof.Rows L2

/-! ### isinstance with one built-in class -/
def tyName : PV → String
  | .non => "NoneType"
  | .bl _ => "bool"
  | .int _ => "int"
  | .str _ => "str"
  | .tup _ => "tuple"
  | .lst _ => "list"
  | .scr _ => "list"
  | .dic => "dict"
  | .exc _ => "exception"
def isSub (t T : String) : Bool := t == T || (t == "bool" && T == "int")
def kindNames : List String := ["int", "bool", "tuple", "list", "str", "dict"]
def notExc : PV → Bool
  | .exc _ => false
  | _ => true
def pIsi (T : String) (p : PV) : Res PV := if notExc p = true then .ok (.bl (isSub (tyName p) T)) else .stuck
theorem kit_ok (K : PySem.W.Frag) (p : PV) (T : String) (hx : notExc p = true) (h : T ∈ kindNames) : PySem.W.kitOne K (.type (tyName p)) (.type T) = some (isSub (tyName p) T) := by
  have h' : T = "int" ∨ T = "bool" ∨ T = "tuple" ∨ T = "list" ∨ T = "str" ∨ T = "dict" := by simpa [kindNames] using h
  cases p <;> first | (cases hx; done) | (rcases h' with rfl | rfl | rfl | rfl | rfl | rfl <;> kernel_rfl)
section
variable {X : Cx} {H0 Hs0 : Hp} {a b c : Expr} {da db dc : DE} {pos : Pos}
theorem isi_rule {pins : List (Addr × Obj)} {τ : L2.St} {Hs H : Hp} {s : Shared} {Q : Value → Shared → Prop} {E : Value → Shared → Prop} {x : V} {u : Value} {p : PV} {T : String} (I : Inv X pins τ H s) (i : Same Hs H) (rx : RelV x u) (r : Rep X.K Hs x p) (hx : notExc p = true) (hT : T ∈ kindNames)
    (h : ∀ tk, Q (.bool (isSub (tyName p) T)) { s with toks := tk }) : wpAny (model X.prog X.w) X.A (call (.builtin "isinstance") [u, .type T]) Q E s := by
  have e := kit_ok X.K p T hx hT
  cases r with
  | non => exact isinst_ok I rx .non e h
  | bl b => exact isinst_ok I rx (.bl b) e h
  | int k => exact isinst_ok I rx (.int k) e h
  | str y => exact isinst_ok I rx (.str y) e h
  | lst hl _ => exact isinst_ok I rx (.lst (i _ _ hl)) e h
  | dic hl => exact isinst_ok I rx (.dK (i _ _ hl)) e h
  | exc _ _ => cases hx
  | @tup a xs ps ht _ =>
    cases (show u = Value.ref a from rx)
    obtain ⟨its, rv, o, h1, h2, _⟩ := tup_is I (same_seqT i ht)
    exact PySem.W.kia_one PySem.W.kitx_tuple I.kIn ⟨o, h1, h2⟩ e (fun z => nomatch z) h
  | @scr a ns hl =>
    cases (show u = Value.ref a from rx)
    obtain ⟨its, rv, pl, _⟩ := I.list (i.seq hl)
    obtain ⟨o, n, h1, h2, _⟩ := pl
    exact PySem.W.kia_one PySem.W.kitx_list I.kIn ⟨o, h1, h2⟩ e (fun z => nomatch z) h
theorem call_isi : CallR X (.builtin "isinstance") (fun xs H Q => ∃ Hs x p T, xs = [x, .ty T] ∧ Same Hs H ∧ Rep X.K Hs x p ∧ notExc p = true ∧ T ∈ kindNames ∧ Q (.bl (isSub (tyName p) T)) H) := by
  intro pins s σ H xs us Q I r h
  obtain ⟨Hs, x, p, T, rfl, i, rp, hx, hT, q⟩ := h
  cases r with
  | cons r1 r2 =>
    cases r2 with
    | cons r3 r4 =>
      cases r4
      cases (show _ = Value.type T from r3)
      exact isi_rule I i r1 rp hx hT fun tk => ⟨.bl _, H, I.tok tk, rfl, q⟩
theorem boot_isi : bootBuiltins "isinstance" = some (.builtin "isinstance") := by decide +kernel
theorem q_isi {T : String} {x : Str} {p1 p2 : Pos} (ha : QE X H0 Hs0 a da) (hT : T ∈ kindNames) (hx : bootBuiltins x = some (.type T)) (hg : Gl X "isinstance") (hm : X.mg "isinstance" = none) (hg2 : Gl X x) (hm2 : X.mg x = none) (hn : x ≠ "__name__")
    (hdb : (x == ("__debug__" : Str)) = false) (h1 : starEach [a, .Name x p2] X.env = (false, eval a X.env) :: starEach [.Name x p2] X.env) (h2 : starEach [.Name x p2] X.env = [(false, eval (.Name x p2) X.env)])
    (hpl : (backTo pos (starEach [.Name x p2] X.env)).any (·.1) = false) : QE X H0 Hs0 (.Call (.Name "isinstance" p1) [a, .Name x p2] [] pos) (e1 (pIsi T) da) :=
  PE.imp (pe_callB call_isi hg hm boot_isi (pa_cons ha (pa_cons (pe_bltn (v := .ty T) hg2 hm2 hx rfl hn hdb) pa_nil h2) h1) (by decide) (by decide) h1 hpl) fun τ H Q h =>
    RE.mono (one h) fun x H1 ⟨Hs, p, i, r, h1⟩ => by
      unfold pIsi at h1
      split at h1
      · rename_i hx
        exact ⟨Hs, x, p, T, rfl, i, r, hx, hT, ret_bl h1 i⟩
      · exact h1.elim

/-! ### slices -/
def cutP {α : Type} (xs : List α) (lo hi : Option Int) : List α := (xs.drop (HT.sIx xs.length 0 lo)).take (HT.sIx xs.length xs.length hi - HT.sIx xs.length 0 lo)
theorem Reps.cut {K : PySem.W.Frag} {H : Hp} {vs : List V} {ps : List PV} (r : Reps K H vs ps) (lo hi : Option Int) : Reps K H (cutV vs lo hi) (cutP ps lo hi) := by
  unfold cutV cutP
  rw [r.length]
  exact (r.drop _).take _
abbrev DO := PSt → Res (Option Int)
def oNo : DO := fun _ => .ok none
def asI : PV → Res (Option Int)
  | .int i => .ok (some i)
  | _ => .stuck
def oE (d : DE) : DO := fun σ => (d σ).bind asI
def pSl (p : PV) (lo hi : Option Int) : Res PV := match p with
  | .lst xs => .ok (.lst (cutP xs lo hi))
  | .scr ns => .ok (.lst (cutP (ns.map PV.int) lo hi))
  | .tup xs => if HT.sIx xs.length 0 lo = 0 ∧ HT.sIx xs.length xs.length hi = xs.length then .stuck else .ok (.tup (cutP xs lo hi))
  | _ => .stuck
def eSl (a : DE) (lo hi : DO) : DE := fun σ => (a σ).bind fun p => (lo σ).bind fun l => (hi σ).bind fun h => pSl p l h
def RetO (Hs H : Hp) (r : Res (Option Int)) (EO : Str → Prop) (Q : Option Int → Hp → Prop) : Prop := match r with
  | .ok b => ∀ Hs' H', Grow Hs H Hs' H' → Q b H'
  | .err c => EO c
  | .stuck => False
def RO (X : Cx) (H0 Hs0 : Hp) (d : DO) : TO := fun τ H Q => ∃ Hs σ, SR X.K H0 Hs0 Hs H σ τ ∧ RetO Hs H (d σ) (ErrOk X H0 Hs0) Q
def QO (X : Cx) (H0 Hs0 : Hp) (e : Option Expr) (d : DO) : Prop := PO X e (RO X H0 Hs0 d)
theorem PO.imp {e : Option Expr} {t t' : TO} (h : PO X e t) (m : ∀ τ H Q, t' τ H Q → t τ H Q) : PO X e t' := fun pins s σ H Q I q => h pins s σ H Q I (m _ _ _ q)
theorem qo_none : QO X H0 Hs0 none oNo := PO.imp po_none fun τ H Q ⟨Hs, σ, S, h⟩ => h Hs H (.refl S.g.i)
theorem qo_some (ha : QE X H0 Hs0 a da) : QO X H0 Hs0 (some a) (oE da) := PO.imp (po_some ha) fun τ H Q ⟨Hs, σ, S, h⟩ => by
  refine ⟨Hs, σ, S, ?_⟩
  unfold oE at h
  generalize da σ = r at h ⊢
  cases r with
  | ok p =>
    cases p with
    | int k => exact fun v Hs' H' g r => ⟨k, r.int_inv, h Hs' H' g⟩
    | _ => exact h.elim
  | err c => exact h
  | stuck => exact h
theorem RetO.mono {Hs H : Hp} {r : Res (Option Int)} {EO : Str → Prop} {Q Q' : Option Int → Hp → Prop} (h : RetO Hs H r EO Q) (m : ∀ v H', Q v H' → Q' v H') : RetO Hs H r EO Q' := by
  cases r with
  | ok p => exact fun Hs' H' g => m _ _ (h Hs' H' g)
  | err c => exact h
  | stuck => exact h
theorem Ret.bindO {K : PySem.W.Frag} {Hs H : Hp} {r : Res (Option Int)} {f : Option Int → Res PV} {EO : Str → Prop} {Q : VK} (h : Ret K Hs H (r.bind f) EO Q) :
    RetO Hs H r EO fun b H1 => ∃ Hs1, Grow Hs H Hs1 H1 ∧ Ret K Hs1 H1 (f b) EO Q := by
  cases r with
  | ok p => exact fun Hs' H' g => ⟨Hs', g, Ret.grow (r := f p) h g⟩
  | err c => exact h
  | stuck => exact h
theorem q_slice {lo hi : Option Expr} {dl dh : DO} {p2 : Pos} (ha : QE X H0 Hs0 a da) (hl : QO X H0 Hs0 lo dl) (hh : QO X H0 Hs0 hi dh) : QE X H0 Hs0 (.Subscript a (.Slice lo hi none p2) pos) (eSl da dl dh) :=
  PE.imp (pe_slice (sl_list.or sl_tup) ha hl hh) fun τ H Q ⟨Hs, σ, S, h⟩ => by
    refine ⟨Hs, σ, S, Ret.mono (Ret.bind h) fun x H1 ⟨Hs1, p, g1, r1, h1⟩ => ⟨Hs1, σ, S.grow g1, RetO.mono (Ret.bindO h1) fun l H2 ⟨Hs2, g2, h2⟩ => ⟨Hs2, σ, (S.grow g1).grow g2, RetO.mono (Ret.bindO h2) fun u H3 ⟨Hs3, g3, h3⟩ => ?_⟩⟩⟩
    have r3 := (r1.mono g2.s).mono g3.s
    have i := g3.i
    unfold pSl at h3
    split at h3
    · obtain ⟨ad, vs, rfl, ht, r⟩ := r3.lst_inv
      exact .inl ⟨ad, vs, rfl, SqL.of (i _ _ ht), fun q hq => h3 _ _ _ (.new i hq) (.lst upd_same (Reps.mono (same_upd (i.free hq)) (r.cut l u)))⟩
    · obtain ⟨ad, rfl, ht⟩ := r3.scr_inv
      exact .inl ⟨ad, _, rfl, i.seq ht, fun q hq => h3 _ _ _ (.new i hq) (.lst upd_same ((Reps.ints _).cut l u))⟩
    · split at h3
      · exact h3.elim
      · rename_i hw
        obtain ⟨ad, vs, rfl, ht, r⟩ := r3.tup_inv
        exact .inr ⟨ad, vs, rfl, same_seqT i ht, by rw [r.length]; exact hw, fun q hq => h3 _ _ _ (.new i hq) (.tup (SqT.of upd_same) (Reps.mono (same_upd (i.free hq)) (r.cut l u)))⟩
    · exact h3.elim

/-! ### statements -/
def sNext : DS := fun σ => .ok (.next σ)
def sSeq (a b : DS) : DS := fun σ => (a σ).bind fun f => match f with
  | .next σ' => b σ'
  | f => .ok f
def sRet (d : DE) : DS := fun σ => (d σ).bind fun p => .ok (.ret p)
def sRetN : DS := fun _ => .ok (.ret .non)
def sIf (t : DT) (a b : DS) : DS := fun σ => (t σ).bind fun c => if c = true then a σ else b σ
def sBrk : DS := fun σ => .ok (.brk σ)
def sCont : DS := fun σ => .ok (.cont σ)
def sSet (i : Nat) (d : DE) : DS := fun σ => (d σ).bind fun p => .ok (.next (σ.set i (some (.sh p))))
theorem EndR.same {D : Ends} {Hs Hs' H H' : Hp} {r : Res Fl} (h : EndR X H0 Hs0 D Hs H r) (e : Same Hs Hs') : EndR X H0 Hs0 D Hs' H' r := by
  cases r with
  | ok f =>
    cases f with
    | next σ' => exact fun Hs2 H2 τ' e' S => h Hs2 H2 τ' (e.trans e') S
    | brk σ' => exact fun Hs2 H2 τ' e' S => h Hs2 H2 τ' (e.trans e') S
    | cont σ' => exact fun Hs2 H2 τ' e' S => h Hs2 H2 τ' (e.trans e') S
    | ret p => exact h
  | err c => exact h
  | stuck => exact h
theorem EndR.bind1 {D : Ends} {Hs H : Hp} {r : Res PV} {f : PV → Res Fl} (h : EndR X H0 Hs0 D Hs H (r.bind f)) :
    Ret X.K Hs H r (ErrOk X H0 Hs0) fun v H1 => ∃ Hs1 p, Grow Hs H Hs1 H1 ∧ Rep X.K Hs1 v p ∧ EndR X H0 Hs0 D Hs1 H1 (f p) := by
  cases r with
  | ok p => exact fun v Hs' H' g r => ⟨Hs', p, g, r, EndR.same (r := f p) h g.s⟩
  | err c => exact h
  | stuck => exact h
theorem EndR.bindB {D : Ends} {Hs H : Hp} {r : Res Bool} {f : Bool → Res Fl} (h : EndR X H0 Hs0 D Hs H (r.bind f)) :
    RetB Hs H r (ErrOk X H0 Hs0) fun b H1 => ∃ Hs1, Grow Hs H Hs1 H1 ∧ EndR X H0 Hs0 D Hs1 H1 (f b) := by
  cases r with
  | ok p => exact fun Hs' H' g => ⟨Hs', g, EndR.same (r := f p) h g.s⟩
  | err c => exact h
  | stuck => exact h
variable {st : Stmt} {sts : List Stmt} {d1 d2 : DS}
theorem qss_nil : QSs X H0 Hs0 [] sNext := PSs.imp pss_nil fun D τ H ⟨Hs, σ, S, h⟩ => h Hs H τ (Same.refl _) S
theorem seq_read {D : Ends} {τ : L2.St} {H : Hp} (h : RS X H0 Hs0 (sSeq d1 d2) D τ H) : RS X H0 Hs0 d1 { D with nx := RS X H0 Hs0 d2 D } τ H := by
  obtain ⟨Hs, σ, S, h⟩ := h
  refine ⟨Hs, σ, S, ?_⟩
  unfold sSeq at h
  generalize d1 σ = r at h ⊢
  cases r with
  | ok f =>
    cases f with
    | next σ' => exact fun Hs' H' τ' e S' => ⟨Hs', σ', S', EndR.same (r := d2 σ') h e⟩
    | brk σ' => exact h
    | cont σ' => exact h
    | ret p => exact h
  | err c => exact h
  | stuck => exact h
theorem qss_cons (h1 : QS X H0 Hs0 st d1) (h2 : QSs X H0 Hs0 sts d2) : QSs X H0 Hs0 (st :: sts) (sSeq d1 d2) := PSs.imp (pss_cons h1 h2) fun D τ H h => seq_read h
theorem qss_one (h1 : QS X H0 Hs0 st d1) : QSs X H0 Hs0 [st] d1 := pss_one h1
theorem qs_ret (ha : QE X H0 Hs0 a da) : QS X H0 Hs0 (.Return (some a) pos) (sRet da) := PS.imp (ps_ret ha) fun D τ H ⟨Hs, σ, S, h⟩ =>
  ⟨Hs, σ, S, Ret.mono (EndR.bind1 h) fun x H1 ⟨Hs1, p, g1, r1, h1⟩ => h1 x Hs1 H1 (S.grow g1).g r1⟩
theorem qs_retN : QS X H0 Hs0 (.Return none pos) sRetN := PS.imp ps_retN fun D τ H ⟨Hs, σ, S, h⟩ => h _ Hs H S.g .non
theorem qs_pass : QS X H0 Hs0 (.Pass pos) sNext := PS.imp ps_pass fun D τ H ⟨Hs, σ, S, h⟩ => h Hs H τ (Same.refl _) S
theorem qs_brk : QS X H0 Hs0 (.Break pos) sBrk := PS.imp ps_break fun D τ H ⟨Hs, σ, S, h⟩ => h Hs H τ (Same.refl _) S
theorem qs_cont : QS X H0 Hs0 (.Continue pos) sCont := PS.imp ps_continue fun D τ H ⟨Hs, σ, S, h⟩ => h Hs H τ (Same.refl _) S
theorem qs_if {t : DT} {ss1 ss2 : List Stmt} (hc : QT X H0 Hs0 c t) (h1 : QSs X H0 Hs0 ss1 d1) (h2 : QSs X H0 Hs0 ss2 d2) : QS X H0 Hs0 (.If c ss1 ss2 pos) (sIf t d1 d2) :=
  PS.imp (ps_if hc h1 h2) fun D τ H ⟨Hs, σ, S, h⟩ => ⟨Hs, σ, S, RetB.mono (EndR.bindB h) fun k H1 ⟨Hs1, g1, h1⟩ => by
    cases k with
    | true => exact ⟨Hs1, σ, S.grow g1, h1⟩
    | false => exact ⟨Hs1, σ, S.grow g1, h1⟩⟩
theorem set_some {α : Type} {l : List α} {i j : Nat} {x y : α} (h : (l.set i x)[j]? = some y) : (j = i ∧ x = y ∧ i < l.length) ∨ (j ≠ i ∧ l[j]? = some y) := by
  rw [List.getElem?_set] at h
  split at h
  · rename_i e
    split at h
    · exact .inl ⟨e.symm, Option.some.inj h, by omega⟩
    · cases h
  · rename_i e
    exact .inr ⟨fun z => e z.symm, h⟩
theorem SR.set {K : PySem.W.Frag} {Hs H : Hp} {σ : PSt} {τ : L2.St} {v : V} {p : PV} (S : SR K H0 Hs0 Hs H σ τ) (i : Nat) (r : Rep K Hs v p) : SR K H0 Hs0 Hs H (σ.set i (some (.sh p))) (τ.set i (some v)) := by
  refine ⟨S.g, fun j sv e => ?_, fun j k xs ys ad hjk e1 e2 e3 => ?_, by rw [List.length_set, List.length_set]; exact S.len⟩
  · rcases set_some e with ⟨rfl, e', hl⟩ | ⟨hne, e'⟩
    · cases e'
      refine ⟨v, ?_, r⟩
      rw [List.getElem?_set_self (by rw [← S.len]; exact hl)]
    · obtain ⟨w, e1, r1⟩ := S.slot j sv e'
      exact ⟨w, by rw [List.getElem?_set_ne (fun z => hne z.symm)]; exact e1, r1⟩
  · rcases set_some e1 with ⟨_, e', _⟩ | ⟨hj, e1'⟩
    · cases e'
    · rcases set_some e2 with ⟨_, e', _⟩ | ⟨hk, e2'⟩
      · cases e'
      · rw [List.getElem?_set_ne (fun z => hj z.symm)] at e3
        rw [List.getElem?_set_ne (fun z => hk z.symm)]
        exact S.inj j k xs ys ad hjk e1' e2' e3
theorem qs_set {i : Nat} {x : Str} {pos' : Pos} (hN : X.N.Nodup) (hi : X.N[i]? = some x) (hx : Loc X.env.scope x) (ha : QE X H0 Hs0 a da) (hs : swapsWith a (some (.Name x pos')) pos.line X.env = pure false) (hf : X.fn x = true ∨ X.env.scope.names.lookup x = some .local) :
    QS X H0 Hs0 (.Assign [.Name x pos'] a pos) (sSet i da) := PS.imp (ps_set hN hi hx ha hs hf) fun D τ H ⟨Hs, σ, S, h⟩ =>
  ⟨Hs, σ, S, Ret.mono (EndR.bind1 h) fun v H1 ⟨Hs1, p, g1, r1, h1⟩ => h1 Hs1 H1 _ (Same.refl _) ((S.grow g1).set i r1)⟩

/-! ### while -/
def wN (c : DT) (b : DS) : Nat → PSt → Option (Res Fl)
  | 0, _ => none
  | n + 1, σ => match c σ with
    | .ok true => match b σ with
      | .ok (.next σ') => wN c b n σ'
      | .ok (.cont σ') => wN c b n σ'
      | .ok (.brk σ') => some (.ok (.next σ'))
      | .ok (.ret p) => some (.ok (.ret p))
      | .err e => some (.err e)
      | .stuck => some .stuck
    | .ok false => some (.ok (.next σ))
    | .err e => some (.err e)
    | .stuck => some .stuck
open Classical in
noncomputable def sWhile (c : DT) (b : DS) : DS := fun σ => if h : ∃ r n, wN c b n σ = some r then choose h else .stuck
theorem wN_mono {cc : DT} {bb : DS} : ∀ {n : Nat} {σ : PSt} {r : Res Fl}, wN cc bb n σ = some r → ∀ m, n ≤ m → wN cc bb m σ = some r
  | 0, _, _, h, _, _ => by cases h
  | n + 1, σ, r, h, 0, hm => by omega
  | n + 1, σ, r, h, m + 1, hm => by
    unfold wN at h ⊢
    split at h
    · split at h
      · exact wN_mono h m (by omega)
      · exact wN_mono h m (by omega)
      · exact h
      · exact h
      · exact h
      · exact h
    · exact h
    · exact h
    · exact h
theorem sWhile_of {cc : DT} {bb : DS} {n : Nat} {σ : PSt} {r : Res Fl} (h : wN cc bb n σ = some r) : sWhile cc bb σ = r := by
  unfold sWhile
  have hex : ∃ r n, wN cc bb n σ = some r := ⟨r, n, h⟩
  rw [dif_pos hex]
  obtain ⟨m, hm⟩ := Classical.choose_spec hex
  have h1 := wN_mono h (max n m) (Nat.le_max_left _ _)
  have h2 := wN_mono hm (max n m) (Nat.le_max_right _ _)
  rw [h1] at h2
  exact (Option.some.inj h2).symm
/-- one turn -/
theorem sWhile_eq (cc : DT) (bb : DS) (σ : PSt) : sWhile cc bb σ = (cc σ).bind fun k => if k = true then (bb σ).bind (fun f => match f with
    | .next σ' => sWhile cc bb σ'
    | .cont σ' => sWhile cc bb σ'
    | .brk σ' => .ok (.next σ')
    | .ret p => .ok (.ret p)) else .ok (.next σ) := by
  by_cases hex : ∃ r n, wN cc bb n σ = some r
  · obtain ⟨r, n, h⟩ := hex
    rw [sWhile_of h]
    cases n with
    | zero => cases h
    | succ n =>
      unfold wN at h
      split at h
      · rename_i e
        rw [e]
        split at h
        · rename_i σ' e'; rw [e']; exact (sWhile_of h).symm
        · rename_i σ' e'; rw [e']; exact (sWhile_of h).symm
        · rename_i σ' e'; rw [e']; exact (Option.some.inj h).symm
        · rename_i σ' e'; rw [e']; exact (Option.some.inj h).symm
        · rename_i σ' e'; rw [e']; exact (Option.some.inj h).symm
        · rename_i e'; rw [e']; exact (Option.some.inj h).symm
      · rename_i e; rw [e]; exact (Option.some.inj h).symm
      · rename_i e; rw [e]; exact (Option.some.inj h).symm
      · rename_i e; rw [e]; exact (Option.some.inj h).symm
  · have hs : sWhile cc bb σ = .stuck := by unfold sWhile; rw [dif_neg hex]
    have no : ∀ n, wN cc bb n σ = none := fun n => by
      cases e : wN cc bb n σ with
      | none => rfl
      | some r => exact absurd ⟨r, n, e⟩ hex
    have sub : ∀ σ', (∀ n, wN cc bb n σ' = none) → sWhile cc bb σ' = .stuck := fun σ' h' => by
      unfold sWhile
      rw [dif_neg]
      rintro ⟨r, n, e⟩
      rw [h' n] at e; cases e
    rw [hs]
    have n1 := no 1
    unfold wN at n1
    split at n1
    · rename_i e
      rw [e]
      split at n1
      · rename_i σ' e'
        rw [e']
        refine (sub σ' fun n => ?_).symm
        have := no (n + 1)
        unfold wN at this
        rw [e] at this; simp only at this
        rw [e'] at this
        exact this
      · rename_i σ' e'
        rw [e']
        refine (sub σ' fun n => ?_).symm
        have := no (n + 1)
        unfold wN at this
        rw [e] at this; simp only at this
        rw [e'] at this
        exact this
      · cases n1
      · cases n1
      · cases n1
      · cases n1
    · cases n1
    · cases n1
    · cases n1
theorem qs_while {t : DT} (hp : PassesOwn (model X.prog X.w) X.A X.env X.xe) (hc : QT X H0 Hs0 c t) (hb : QSs X H0 Hs0 sts d1) : QS X H0 Hs0 (.While c sts [] pos) (sWhile t d1) := PS.imp (ps_while hp hc hb) fun D τ H ⟨Hs, σ, S, h⟩ => by
  by_cases hex : ∃ r n, wN t d1 n σ = some r
  · obtain ⟨r, n, hn⟩ := hex
    rw [sWhile_of hn] at h
    refine ⟨fun m τ H => ∃ Hs' σ', SR X.K H0 Hs0 Hs' H σ' τ ∧ Same Hs Hs' ∧ wN t d1 m σ' = some r, ⟨n, Hs, σ, S, Same.refl _, hn⟩, ?_⟩
    rintro m τ1 H1 ⟨Hs1, σ1, S1, e1, w1⟩
    refine ⟨Hs1, σ1, S1, ?_⟩
    cases m with
    | zero => cases w1
    | succ m =>
      unfold wN at w1
      split at w1
      · rename_i ec
        rw [ec]
        intro Hs2 H2 g2
        refine ⟨fun τ' H' => ∃ Hs' σ', SR X.K H0 Hs0 Hs' H' σ' τ' ∧ Same Hs Hs' ∧ wN t d1 m σ' = some r, fun τ' H' ⟨Hs', σ', a1, a2, a3⟩ => ⟨m, Nat.lt_succ_self m, Hs', σ', a1, a2, a3⟩, Hs2, σ1, S1.grow g2, ?_⟩
        have e2 := e1.trans g2.s
        split at w1
        · rename_i σ' ed
          rw [ed]
          exact fun Hs3 H3 τ3 e3 S3 => ⟨Hs3, σ', S3, e2.trans e3, w1⟩
        · rename_i σ' ed
          rw [ed]
          exact fun Hs3 H3 τ3 e3 S3 => ⟨Hs3, σ', S3, e2.trans e3, w1⟩
        · rename_i σ' ed
          rw [ed]
          cases w1
          exact fun Hs3 H3 τ3 e3 S3 => h Hs3 H3 τ3 (e2.trans e3) S3
        · rename_i p ed
          rw [ed]
          cases w1
          exact h
        · rename_i e ed
          rw [ed]
          cases w1
          exact h
        · rename_i ed
          cases w1
          exact h.elim
      · rename_i ec
        rw [ec]
        intro Hs2 H2 g2
        cases w1
        exact h Hs2 H2 τ1 (e1.trans g2.s) (S1.grow g2)
      · rename_i ec
        rw [ec]
        cases w1
        exact h
      · rename_i ec
        cases w1
        exact h.elim
  · unfold sWhile at h
    rw [dif_neg hex] at h
    exact h.elim
end
end G
set_option Elab.async false
set_option linter.all false
set_option maxRecDepth 100000
set_option maxHeartbeats 1000000
namespace G
open PySem PySem.Spec PyProof.Rows L2

/-! ### a range with a step -/
def Its (lo c : Int) (n : Nat) : It := ⟨fun i _ => i < n, fun i H x H' => H' = H ∧ x = .int (lo + i * c), fun i _ => n ≤ i⟩
theorem turn_range3 {P : Program} {w : World} {K : PySem.W.Frag} {tg : Expr} (it : Addr) (lo c : Int) (n : Nat) : Turn P w K tg (Its lo c n) [it] it (fun i h => IsRangeIter h it (lo + (i : Nat) * c) ((n : Int) - (i : Nat)) c) where
  mem := by simp
  obj := fun i h st b hb => by
    have e : b = it := by simpa using hb
    subst e
    exact ⟨_, st, fun v z => by
      have z' : Data.fields _ = Data.cell v := z
      cases z'⟩
  keep := fun i h h' st k => k it (by simp) _ st
  item := by
    intro X hP hw hK hc i pins s σ H E I hf st hg
    subst hP hw hK
    obtain ⟨f0, f1, f2, f3, f4, f5⟩ := hf it (by simp)
    have W := Walks.range (prog := X.prog) (w := X.w) (I.ok.hd hc) it lo c n
    refine W.item i s _ _ hg st fun v h' tk hv st' kk => ?_
    obtain ⟨t, rfl⟩ := hv
    have I1 : Inv X pins σ H { s with heap := h', toks := tk } := I.turned (fun b o hb e => kk b o (by simpa using hb) e) f0 f1 f3 f4 f5
    exact ⟨_, rfl, go_of (s := { s with heap := h', toks := tk }) (n := "range_iterator") st' rfl rfl (by decide) ⟨.int (lo + i * c), H, I1, ⟨t, rfl⟩, ⟨rfl, rfl⟩, st', fun b hb => (hf b hb).1⟩⟩
  done := by
    intro X hP hw hK hc i pins s σ H E I hf st hg
    subst hP hw hK
    obtain ⟨f0, f1, f2, f3, f4, f5⟩ := hf it (by simp)
    exact wpAny_pyNext_range_end (I.ok.hd hc) st (by have : n ≤ i := hg; omega) fun h' eb => ⟨rfl, I.turned (t' := s.toks) (fun b o hb e => eb b o hb e) f0 f1 f3 f4 f5⟩
  self := fun _ _ _ _ _ st h => wpAny_pyIter_rangeiter st h
def nTurns (lo hi c : Int) : Nat := (if lo < hi then (hi - lo - 1) / c + 1 else 0).toNat
theorem rsize_pos {lo hi c : Int} (hc : 0 < c) : Builtin.Range.rangeSize lo hi c = ((nTurns lo hi c : Nat) : Int) := by
  unfold Builtin.Range.rangeSize nTurns
  rw [if_pos hc]
  split
  · have := Int.ediv_nonneg (show 0 ≤ hi - lo - 1 by omega) (Int.le_of_lt hc)
    omega
  · rfl
theorem rsize_le {lo hi c : Int} (hc : 0 < c) : ((nTurns lo hi c : Nat) : Int) ≤ (if lo < hi then hi - lo else 0) := by
  rw [← rsize_pos hc]
  unfold Builtin.Range.rangeSize
  rw [if_pos hc]
  split
  · have h1 : (hi - lo - 1) / c ≤ hi - lo - 1 := Int.ediv_le_self c (by omega)
    omega
  · exact Int.le_refl _
theorem small_step {a b c : Int} (ha : -(2 ^ 61) ≤ a) (ha' : a < 2 ^ 61) (hb : -(2 ^ 61) ≤ b) (hb' : b < 2 ^ 61) (hc : 0 < c) (hc' : c < 2 ^ 61) : Builtin.Range.small a b c = true := by
  unfold Builtin.Range.small
  rw [rsize_pos hc]
  have h := rsize_le (lo := a) (hi := b) hc
  have h0 : (0 : Int) ≤ ((nTurns a b c : Nat) : Int) := Int.natCast_nonneg _
  generalize ((nTurns a b c : Nat) : Int) = z at h h0 ⊢
  simp only [Builtin.Range.rangeFitsLong, Bool.and_eq_true, Bool.or_eq_true, decide_eq_true_eq, beq_iff_eq, if_pos hc]
  split at h <;> omega
section
variable {X : Cx} {tg : Expr}
def iRng3 (ta : TA) : TI := fun σ H R => ta σ H fun vs H1 => ∃ i j c : Int, vs = [.int i, .int j, .int c] ∧ (-(2 ^ 61) ≤ i ∧ i < 2 ^ 61 ∧ -(2 ^ 61) ≤ j ∧ j < 2 ^ 61 ∧ 0 < c ∧ c < 2 ^ 29) ∧ R (Its i c (nTurns i j c)) H1
theorem range_it3 {pins : List (Addr × Obj)} {σ : L2.St} {H : Hp} {s : Shared} {R : It → Hp → Prop} {E : Value → Shared → Prop} {lo hi c : Int} {t u v : Tok} {tk : Nat} (I : Inv X pins σ H s) (h1 : -(2 ^ 61) ≤ lo) (h2 : lo < 2 ^ 61) (h3 : -(2 ^ 61) ≤ hi) (h4 : hi < 2 ^ 61) (h5 : 0 < c) (h6 : c < 2 ^ 61)
    (q : R (Its lo c (nTurns lo hi c)) H) : wpAny (model X.prog X.w) X.A (pyIter (.ref s.heap.objs.size)) (PIE X pins σ tg R) E { s with heap := s.heap.push { cls := .type "range", data := .fields #[.int lo t, .int hi u, .int c v] }, toks := tk } := by
  refine wpAny_pyIter_range (IsRange.new ..) (small_step h1 h2 h3 h4 h5 h6) ?_
  have I1 : Inv X pins σ H { s with heap := s.heap.push { cls := .type "range", data := .fields #[.int lo t, .int hi u, .int c v] }, toks := tk } := I.kept fun b o e => Heap.get?_push_of_some _ e
  refine ⟨(s.heap.push { cls := .type "range", data := .fields #[.int lo t, .int hi u, .int c v] }).objs.size, [(s.heap.push { cls := .type "range", data := .fields #[.int lo t, .int hi u, .int c v] }).objs.size], _, _, H, rfl,
    I1.kept (t' := tk) fun b o e => Heap.get?_push_of_some _ e, turn_range3 _ lo c (nTurns lo hi c), ?_, fun b hb => ?_, q⟩
  · have e1 : lo + ((0 : Nat) : Int) * c = lo := by simp
    have e2 : ((nTurns lo hi c : Nat) : Int) - ((0 : Nat) : Int) = Builtin.Range.rangeSize lo hi c := by rw [rsize_pos h5]; simp
    show IsRangeIter _ _ (lo + ((0 : Nat) : Int) * c) (((nTurns lo hi c : Nat) : Int) - ((0 : Nat) : Int)) c
    rw [e1, e2]
    exact Heap.get?_push_size _ rfl
  · have e : b = (s.heap.push { cls := .type "range", data := .fields #[.int lo t, .int hi u, .int c v] }).objs.size := by simpa using hb
    subst e
    exact I1.fpOk (Nat.le_refl _) (I1.hok.fresh (Nat.le_refl _))
theorem pi_range3 {a b c : Expr} {ta : TA} {p pos : Pos} (hg : Gl X "range") (hm : X.mg "range" = none) (ha : PA X [a, b, c] ta) (hs : starEach [a, b, c] X.env = [(false, eval a X.env), (false, eval b X.env), (false, eval c X.env)])
    (hs2 : starEach [b, c] X.env = [(false, eval b X.env), (false, eval c X.env)]) : PI X tg (.Call (.Name "range" p) [a, b, c] [] pos) (iRng3 ta) := by
  intro pins s σ H R I h
  refine Call_ (ld_blt I hg hm boot_range (PyProof.Rows.callWith_type1 (thn (ha pos pins s σ H _ I h) fun us s1 ⟨vs, H1, I1, r1, q1⟩ => ?_) (by rw [hs, hs2]) (by rw [hs2]; rfl)))
  obtain ⟨i, j, k, e, ⟨q1, q2, q3, q4, q5, q6⟩, q⟩ := q1
  subst e
  cases r1 with
  | cons r rr =>
    cases rr with
    | cons r' rr =>
      cases rr with
      | cons r'' rr =>
        cases rr
        obtain ⟨t, rfl⟩ := r
        obtain ⟨t', rfl⟩ := r'
        obtain ⟨t'', rfl⟩ := r''
        exact call_range_3 (by omega) (range_it3 I1 q1 q2 q3 q4 q5 (by omega) q) (.inl (PyProof.noPylong_small (by omega)))
end

/-! ### what a loop walks, as a list of plain values -/
abbrev DI := PSt → Res (List PV)
def JOk (K : PySem.W.Frag) (J : It) (Hs : Hp) (ps : List PV) : Prop := ∀ (i : Nat) (H Hs' : Hp), Same Hs Hs' → Same Hs' H →
  (i < ps.length → J.go i H ∧ ∀ x H', J.yld i H x H' → H' = H ∧ ∃ p, ps[i]? = some p ∧ Rep K Hs x p) ∧ (ps.length ≤ i → J.stop i H)
section
variable (X : Cx) (H0 Hs0 : Hp)
def RI (d : DI) : TI := fun τ H R => ∃ Hs σ, SR X.K H0 Hs0 Hs H σ τ ∧ match d σ with
  | .ok ps => ∀ J Hs' H', Grow Hs H Hs' H' → JOk X.K J Hs' ps → R J H'
  | .err c => ErrOk X H0 Hs0 c
  | .stuck => False
def QI (tg e : Expr) (d : DI) : Prop := PI X tg e (RI X H0 Hs0 d)
abbrev DG := PV → PSt → Res PSt
def RG (g : DG) : TG := fun v τ H Q => ∃ Hs σ p, SR X.K H0 Hs0 Hs H σ τ ∧ Rep X.K Hs v p ∧ match g p σ with
  | .ok σ' => ∀ Hs' H' τ', Same Hs Hs' → SR X.K H0 Hs0 Hs' H' σ' τ' → Q τ' H'
  | _ => False
def QG (e : Expr) (g : DG) : Prop := PG X e (RG X H0 Hs0 g)
end
theorem PI.imp {X : Cx} {tg e : Expr} {t t' : TI} (h : PI X tg e t) (m : ∀ τ H Q, t' τ H Q → t τ H Q) : PI X tg e t' := fun pins s σ H Q I q => h pins s σ H Q I (m _ _ _ q)
theorem PG.imp {X : Cx} {e : Expr} {t t' : TG} (h : PG X e t) (m : ∀ v τ H Q, t' v τ H Q → t v τ H Q) : PG X e t' := fun pins s σ H v u Q I r q => h pins s σ H v u Q I r (m _ _ _ _ q)
def asSeq : PV → Res (List PV)
  | .tup ps => .ok ps
  | .lst ps => .ok ps
  | .scr ns => .ok (ns.map PV.int)
  | _ => .stuck
def itE (d : DE) : DI := fun σ => (d σ).bind asSeq
def rangeL (lo c : Int) (n : Nat) : List PV := (List.range n).map fun (i : Nat) => PV.int (lo + i * c)
def asRange1 : List PV → Res (List PV)
  | [.int j] => if -(2 ^ 61) ≤ j ∧ j < 2 ^ 61 then .ok (rangeL 0 1 j.toNat) else .stuck
  | _ => .stuck
def asRange2 : List PV → Res (List PV)
  | [.int i, .int j] => if -(2 ^ 61) ≤ i ∧ i < 2 ^ 61 ∧ -(2 ^ 61) ≤ j ∧ j < 2 ^ 61 then .ok (rangeL i 1 (j - i).toNat) else .stuck
  | _ => .stuck
def asRange3 : List PV → Res (List PV)
  | [.int i, .int j, .int c] => if -(2 ^ 61) ≤ i ∧ i < 2 ^ 61 ∧ -(2 ^ 61) ≤ j ∧ j < 2 ^ 61 ∧ 0 < c ∧ c < 2 ^ 29 then .ok (rangeL i c (nTurns i j c)) else .stuck
  | _ => .stuck
def itR (f : List PV → Res (List PV)) (a : DA) : DI := fun σ => (a σ).bind f
section
variable {X : Cx} {H0 Hs0 : Hp} {tg a b c : Expr} {da : DE} {ra : DA} {pos p : Pos}
theorem jok_list {K : PySem.W.Frag} {Hs : Hp} {ad : Addr} {vs : List V} {ps : List PV} (h : SqL K Hs ad vs) (r : Reps K Hs vs ps) : JOk K (Itl K ad) Hs ps := by
  intro i H Hs' e1 e2
  have hq : SqL K H ad vs := (e1.trans e2).seq h
  refine ⟨fun hi => ?_, fun hi => ⟨vs, hq, by rw [r.length]; exact hi⟩⟩
  have hp : ps[i]? = some ps[i] := List.getElem?_eq_getElem hi
  obtain ⟨v, hv, rv⟩ := r.get hp
  refine ⟨⟨vs, v, hq, hv⟩, fun x H' ⟨e, y⟩ => ⟨e, _, hp, ?_⟩⟩
  have := y vs hq
  rw [hv] at this
  cases this
  exact rv
theorem jok_tup {K : PySem.W.Frag} {Hs : Hp} {ad : Addr} {vs : List V} {ps : List PV} (h : SqT K Hs ad vs) (r : Reps K Hs vs ps) : JOk K (Itt K ad) Hs ps := by
  intro i H Hs' e1 e2
  have hq : SqT K H ad vs := same_seqT (e1.trans e2) h
  refine ⟨fun hi => ?_, fun hi => ⟨vs, hq, by rw [r.length]; exact hi⟩⟩
  have hp : ps[i]? = some ps[i] := List.getElem?_eq_getElem hi
  obtain ⟨v, hv, rv⟩ := r.get hp
  refine ⟨⟨vs, v, hq, hv⟩, fun x H' ⟨e, y⟩ => ⟨e, _, hp, ?_⟩⟩
  have := y vs hq
  rw [hv] at this
  cases this
  exact rv
theorem jok_range {K : PySem.W.Frag} {Hs : Hp} {lo c : Int} {n : Nat} : JOk K (Its lo c n) Hs (rangeL lo c n) := by
  intro i H Hs' e1 e2
  have hl : (rangeL lo c n).length = n := by simp [rangeL]
  rw [hl]
  refine ⟨fun hi => ⟨hi, fun x H' ⟨e, y⟩ => ⟨e, .int (lo + i * c), ?_, ?_⟩⟩, fun hi => hi⟩
  · simp [rangeL, hi]
  · rw [y]; exact .int _
theorem jok_range1 {K : PySem.W.Frag} {Hs : Hp} {lo : Int} {n : Nat} : JOk K (Itr lo n) Hs (rangeL lo 1 n) := by
  intro i H Hs' e1 e2
  have hl : (rangeL lo 1 n).length = n := by simp [rangeL]
  rw [hl]
  refine ⟨fun hi => ⟨hi, fun x H' ⟨e, y⟩ => ⟨e, .int (lo + i), ?_, ?_⟩⟩, fun hi => hi⟩
  · simp [rangeL, hi]
  · rw [y]; exact .int _
/-- by cases over what the value is: the walk is the list's or the tuple's -/
theorem qi_seq (ha : QE X H0 Hs0 a da) : QI X H0 Hs0 tg a (itE da) := by
  intro pins s τ H R I ⟨Hs, σ, S, h⟩
  unfold itE at h
  cases e : da σ with
  | ok q =>
    rw [e] at h
    cases q with
    | lst ps =>
      exact pi_list ha pins s τ H R I ⟨Hs, σ, S, by
        rw [e]
        intro v Hs' H' g r
        obtain ⟨ad, vs, rfl, hl, rr⟩ := r.lst_inv
        exact ⟨ad, rfl, ⟨vs, SqL.of (g.i _ _ hl)⟩, h _ Hs' H' g (jok_list (SqL.of hl) rr)⟩⟩
    | scr ns =>
      exact pi_list ha pins s τ H R I ⟨Hs, σ, S, by
        rw [e]
        intro v Hs' H' g r
        obtain ⟨ad, rfl, hl⟩ := r.scr_inv
        exact ⟨ad, rfl, ⟨_, g.i.seq hl⟩, h _ Hs' H' g (jok_list hl (Reps.ints ns))⟩⟩
    | tup ps =>
      exact pi_tup ha pins s τ H R I ⟨Hs, σ, S, by
        rw [e]
        intro v Hs' H' g r
        obtain ⟨ad, vs, rfl, hl, rr⟩ := r.tup_inv
        exact ⟨ad, rfl, ⟨vs, same_seqT g.i hl⟩, h _ Hs' H' g (jok_tup hl rr)⟩⟩
    | _ => exact h.elim
  | err c =>
    rw [e] at h
    exact pi_list ha pins s τ H R I ⟨Hs, σ, S, by rw [e]; exact h⟩
  | stuck => rw [e] at h; exact h.elim
theorem range_read {f : List PV → Res (List PV)} {τ : L2.St} {H : Hp} {R : It → Hp → Prop} (h : RI X H0 Hs0 (itR f ra) τ H R) :
    RA X H0 Hs0 ra τ H fun vs H1 => ∃ Hs ps, Same Hs H1 ∧ Reps X.K Hs vs ps ∧ match f ps with
      | .ok qs => ∀ J Hs' H', Grow Hs H1 Hs' H' → JOk X.K J Hs' qs → R J H'
      | .err c => ErrOk X H0 Hs0 c
      | .stuck => False := by
  obtain ⟨Hs, σ, S, h⟩ := h
  refine ⟨Hs, σ, S, ?_⟩
  unfold itR at h
  generalize ra σ = r at h ⊢
  cases r with
  | ok ps =>
    intro vs Hs' H' g r
    refine ⟨Hs', ps, g.i, r, ?_⟩
    have h : (match f ps with
      | .ok ps => ∀ J Hs' H', Grow Hs H Hs' H' → JOk X.K J Hs' ps → R J H'
      | .err c => ErrOk X H0 Hs0 c
      | .stuck => False) := h
    cases e : f ps with
    | ok qs => rw [e] at h; exact fun J Hs2 H2 g2 j => h J Hs2 H2 (g.trans g2) j
    | err c => rw [e] at h; exact h
    | stuck => rw [e] at h; exact h
  | err c => exact h
  | stuck => exact h
theorem qi_range1 (hg : Gl X "range") (hm : X.mg "range" = none) (ha : QA X H0 Hs0 [a] ra) (hs : starEach [a] X.env = [(false, eval a X.env)]) : QI X H0 Hs0 tg (.Call (.Name "range" p) [a] [] pos) (itR asRange1 ra) :=
  PI.imp (pi_range1 hg hm ha hs) fun τ H R h => RA.mono (range_read h) fun vs H1 ⟨Hs, ps, i, r, h1⟩ => by
    unfold asRange1 at h1
    split at h1
    · rename_i e
      split at e
      · rename_i j
        obtain ⟨v, rfl, r1⟩ := r.one_inv
        cases r1.int_inv
        split at e
        · rename_i hb
          cases e
          exact ⟨j, rfl, by omega, by omega, h1 _ Hs H1 (.refl i) jok_range1⟩
        · cases e
      · cases e
    · rename_i e
      split at e
      · split at e <;> cases e
      · cases e
    · exact h1.elim
theorem qi_range2 (hg : Gl X "range") (hm : X.mg "range" = none) (ha : QA X H0 Hs0 [a, b] ra) (hs : starEach [a, b] X.env = [(false, eval a X.env), (false, eval b X.env)]) (hs2 : starEach [b] X.env = [(false, eval b X.env)]) :
    QI X H0 Hs0 tg (.Call (.Name "range" p) [a, b] [] pos) (itR asRange2 ra) :=
  PI.imp (pi_range2 hg hm ha hs hs2) fun τ H R h => RA.mono (range_read h) fun vs H1 ⟨Hs, ps, i, r, h1⟩ => by
    unfold asRange2 at h1
    split at h1
    · rename_i e
      split at e
      · rename_i j k
        obtain ⟨v, w, rfl, r1, r2⟩ := r.two_inv
        cases r1.int_inv; cases r2.int_inv
        split at e
        · rename_i hb
          cases e
          exact ⟨j, k, rfl, ⟨by omega, by omega, by omega, by omega⟩, h1 _ Hs H1 (.refl i) jok_range1⟩
        · cases e
      · cases e
    · rename_i e
      split at e
      · split at e <;> cases e
      · cases e
    · exact h1.elim
theorem qi_range3 (hg : Gl X "range") (hm : X.mg "range" = none) (ha : QA X H0 Hs0 [a, b, c] ra) (hs : starEach [a, b, c] X.env = [(false, eval a X.env), (false, eval b X.env), (false, eval c X.env)])
    (hs2 : starEach [b, c] X.env = [(false, eval b X.env), (false, eval c X.env)]) : QI X H0 Hs0 tg (.Call (.Name "range" p) [a, b, c] [] pos) (itR asRange3 ra) :=
  PI.imp (pi_range3 hg hm ha hs hs2) fun τ H R h => RA.mono (range_read h) fun vs H1 ⟨Hs, ps, i, r, h1⟩ => by
    unfold asRange3 at h1
    split at h1
    · rename_i e
      split at e
      · rename_i j k m
        obtain ⟨v, ws, rfl, r1, r2⟩ := r.cons_inv
        obtain ⟨w, z, rfl, r3, r4⟩ := r2.two_inv
        cases r1.int_inv; cases r3.int_inv; cases r4.int_inv
        split at e
        · rename_i hb
          cases e
          exact ⟨j, k, m, rfl, hb, h1 _ Hs H1 (.refl i) jok_range⟩
        · cases e
      · cases e
    · rename_i e
      split at e
      · split at e <;> cases e
      · cases e
    · exact h1.elim

/-! ### targets -/
def gN (i : Nat) : DG := fun p σ => .ok (σ.set i (some (.sh p)))
theorem qg_name {i : Nat} {x : Str} (hN : X.N.Nodup) (hi : X.N[i]? = some x) (hx : Loc X.env.scope x) (hf : X.fn x = true ∨ X.env.scope.names.lookup x = some .local) : QG X H0 Hs0 (.Name x pos) (gN i) :=
  PG.imp (pg_name hN hi hx hf) fun v τ H Q ⟨Hs, σ, p, S, r, h⟩ => h Hs H _ (Same.refl _) (S.set i r)
/-- several names of one tuple, stored from the left -/
def setAll : List Nat → List PV → PSt → Res PSt
  | [], [], σ => .ok σ
  | i :: is, p :: ps, σ => setAll is ps (σ.set i (some (.sh p)))
  | _, _, _ => .stuck
def gT (is : List Nat) : DG := fun p σ => match p with
  | .tup ps => setAll is ps σ
  | _ => .stuck
def RGs (X : Cx) (H0 Hs0 : Hp) (is : List Nat) : TGs := fun vs τ H Q => ∃ Hs σ ps, SR X.K H0 Hs0 Hs H σ τ ∧ Reps X.K Hs vs ps ∧ match setAll is ps σ with
  | .ok σ' => ∀ Hs' H' τ', Same Hs Hs' → SR X.K H0 Hs0 Hs' H' σ' τ' → Q τ' H'
  | _ => False
def QGs (X : Cx) (H0 Hs0 : Hp) (es : List Expr) (is : List Nat) : Prop := PGs X es (RGs X H0 Hs0 is)
theorem PGs.imp {es : List Expr} {t t' : TGs} (h : PGs X es t) (m : ∀ v τ H Q, t' v τ H Q → t v τ H Q) : PGs X es t' := fun pins s σ H v u Q I r q => h pins s σ H v u Q I r (m _ _ _ _ q)
theorem qgs_nil : QGs X H0 Hs0 [] [] := PGs.imp pgs_nil fun vs τ H Q ⟨Hs, σ, ps, S, r, h⟩ => by
  cases r with
  | nil => exact ⟨rfl, h Hs H τ (Same.refl _) S⟩
  | cons _ _ => exact h.elim
theorem qgs_cons {i : Nat} {is : List Nat} {x : Str} {es : List Expr} (hN : X.N.Nodup) (hi : X.N[i]? = some x) (hx : Loc X.env.scope x) (hf : X.fn x = true ∨ X.env.scope.names.lookup x = some .local) (h2 : QGs X H0 Hs0 es is)
    (hs : (assignEach (.Name x pos :: es) X.env).map (·.2) = assign (.Name x pos) X.env :: (assignEach es X.env).map (·.2)) : QGs X H0 Hs0 (.Name x pos :: es) (i :: is) :=
  PGs.imp (pgs_cons (pg_name hN hi hx hf) h2 hs) fun vs τ H Q ⟨Hs, σ, ps, S, r, h⟩ => by
    cases r with
    | nil => exact h.elim
    | cons r t => exact ⟨_, _, rfl, Hs, _, _, S.set i r, t, h⟩
theorem setAll_len : ∀ {is : List Nat} {ps : List PV} {σ σ' : PSt}, setAll is ps σ = .ok σ' → ps.length = is.length
  | [], [], _, _, _ => rfl
  | _ :: is, _ :: ps, _, _, h => congrArg (· + 1) (setAll_len (is := is) (ps := ps) h)
theorem qg_tup {es : List Expr} {is : List Nat} {k : Nat} (hc : X.calm = true) (h : QGs X H0 Hs0 es is) (hn : (assignEach es X.env).length = is.length) (hst : (assignEach es X.env).findIdx? (·.1) = none) : QG X H0 Hs0 (.Tuple es k pos) (gT is) :=
  PG.imp (pg_tup hc h hn hst) fun v τ H Q ⟨Hs, σ, p, S, r, h⟩ => by
    unfold gT at h
    split at h
    · rename_i σ' e
      split at e
      · rename_i ps
        obtain ⟨ad, vs, rfl, ht, rr⟩ := r.tup_inv
        refine ⟨ad, vs, rfl, same_seqT S.g.i ht, by rw [rr.length]; exact setAll_len e, Hs, σ, ps, S, rr, ?_⟩
        rw [e]; exact h
      · cases e
    · exact h.elim

/-! ### for -/
def forS (g : DG) (b : DS) : List PV → DS
  | [], σ => .ok (.next σ)
  | p :: ps, σ => match g p σ with
    | .ok σ1 => (b σ1).bind fun f => match f with
      | .next σ' => forS g b ps σ'
      | .cont σ' => forS g b ps σ'
      | .brk σ' => .ok (.next σ')
      | .ret p => .ok (.ret p)
    | _ => .stuck
def sFor (it : DI) (g : DG) (b : DS) : DS := fun σ => (it σ).bind fun ps => forS g b ps σ
theorem qs_for {iter : Expr} {sts : List Stmt} {d : DI} {g : DG} {bb : DS} (hp : PassesOwn (model X.prog X.w) X.A X.env X.xe) (hc : X.calm = true) (hi : QI X H0 Hs0 tg iter d) (hg : QG X H0 Hs0 tg g) (hb : QSs X H0 Hs0 sts bb)
    (hs : ∀ x, foldedSetIterable iter X.env x = pure x) : QS X H0 Hs0 (.For tg iter sts [] pos) (sFor d g bb) :=
  PS.imp (ps_for hp hc hi hg hb hs) fun D τ H ⟨Hs, σ, S, h⟩ => by
    refine ⟨Hs, σ, S, ?_⟩
    unfold sFor at h
    generalize d σ = r at h ⊢
    cases r with
    | err c => exact h
    | stuck => exact h
    | ok ps =>
      intro J Hs1 H1 g1 jok
      have h : EndR X H0 Hs0 D Hs H (forS g bb ps σ) := h
      refine ⟨fun i m τ H => ∃ Hs' σ', SR X.K H0 Hs0 Hs' H σ' τ ∧ Same Hs1 Hs' ∧ m = ps.length - i ∧ i ≤ ps.length ∧ EndR X H0 Hs0 D Hs' H (forS g bb (ps.drop i) σ'), ⟨ps.length, Hs1, σ, S.grow g1, Same.refl _, by simp, Nat.zero_le _, by simpa using h.same g1.s⟩, ?_⟩
      rintro i m τ2 H2 ⟨Hs2, σ2, S2, e2, rfl, hi, h2⟩
      obtain ⟨j1, j2⟩ := jok i H2 Hs2 e2 S2.g.i
      by_cases hlt : i < ps.length
      · obtain ⟨go, yl⟩ := j1 hlt
        refine .inr ⟨go, fun τ' H' => ∃ Hs' σ', SR X.K H0 Hs0 Hs' H' σ' τ' ∧ Same Hs1 Hs' ∧ EndR X H0 Hs0 D Hs' H' (forS g bb (ps.drop (i + 1)) σ'), fun τ' H' ⟨Hs', σ', a1, a2, a3⟩ => ⟨ps.length - (i + 1), by omega, Hs', σ', a1, a2, rfl, by omega, a3⟩, fun x H' y => ?_⟩
        obtain ⟨rfl, p, hp', rp⟩ := yl x H' y
        rw [List.drop_eq_getElem_cons hlt] at h2
        have ep : ps[i] = p := by rw [List.getElem?_eq_getElem hlt] at hp'; exact Option.some.inj hp'
        rw [ep] at h2
        refine ⟨Hs2, σ2, p, S2, rp.mono e2, ?_⟩
        unfold forS at h2
        cases eg : g p σ2 with
        | ok σ3 =>
          rw [eg] at h2
          dsimp only at h2
          intro Hs3 H3 τ3 e3 S3
          refine ⟨Hs3, σ3, S3, ?_⟩
          have h3 := EndR.same (H' := H3) h2 e3
          revert h3
          generalize bb σ3 = rb
          intro h3
          cases rb with
          | err c => exact h3
          | stuck => exact h3
          | ok f =>
            cases f with
            | next σ' => exact fun Hs4 H4 τ4 e4 S4 => ⟨Hs4, σ', S4, (e2.trans e3).trans e4, EndR.same (H' := H4) h3 e4⟩
            | cont σ' => exact fun Hs4 H4 τ4 e4 S4 => ⟨Hs4, σ', S4, (e2.trans e3).trans e4, EndR.same (H' := H4) h3 e4⟩
            | brk σ' => exact h3
            | ret q => exact h3
        | err c => rw [eg] at h2; exact h2.elim
        | stuck => rw [eg] at h2; exact h2.elim
      · have e : i = ps.length := by omega
        subst e
        refine .inl ⟨j2 (Nat.le_refl _), ?_⟩
        rw [List.drop_length] at h2
        exact h2 Hs2 H2 τ2 (Same.refl _) S2
end
end G
set_option Elab.async false
set_option linter.all false
set_option maxRecDepth 100000
set_option maxHeartbeats 1000000
namespace G
open PySem PySem.Spec PyProof.Rows L2

/-! ### a list is unpacked -/
section
variable {prog : Program} {w : World} {A : Around} {E : Value → Shared → Prop} {s : Shared}
theorem draw_list {it l : Addr} {items : Array Value} (hne : l ≠ it) : ∀ (n i : Nat) (s : Shared) (Q : List Value → Shared → Prop), s.heap.IsListIter it l i → s.heap.IsList l items → i + n ≤ items.size →
    (∀ h', h'.IsListIter it l (i + n) → Heap.SameBut it s.heap h' → Q ((items.toList.drop i).take n) { s with heap := h' }) → wpAny (model prog w) A (draw (.ref it) n) Q E s
  | 0, i, s, Q, hit, _, _, hQ => by
    show wpAny _ _ (pure []) Q E s
    exact wpAny_pure (by simpa using hQ s.heap hit (Heap.SameBut.refl ..))
  | n + 1, i, s, Q, hit, ht, hle, hQ => by
    have hlt : i < items.size := by omega
    show wpAny _ _ (pyNext (.ref it) >>= _) Q E s
    refine wpAny_bind (wpAny_pyNext_list_item hit ht (x := items[i]) (by simp [hlt]) fun h₁ hit₁ hs₁ => ?_)
    refine wpAny_bind (wpAny_holding (draw_list hne n (i + 1) _ _ hit₁ (ht.extBut hs₁.extBut hne) (by omega) fun h₂ hit₂ hs₂ => wpAny_pure ?_))
    have hd : items.toList.drop i = items[i] :: items.toList.drop (i + 1) := by simp [List.drop_eq_getElem_cons, hlt]
    have := hQ h₂ (by rw [show i + (n + 1) = i + 1 + n by omega]; exact hit₂) (hs₁.trans hs₂)
    rw [hd, List.take_succ_cons] at this
    exact this
theorem unpackItems_list {l : Addr} {items : Array Value} {Q : List Value → Shared → Prop} (hh : A.handled = none) (ht : s.heap.IsList l items)
    (hQ : ∀ h', Heap.ExtBut s.heap.objs.size s.heap h' → Q items.toList { s with heap := h' }) : wpAny (model prog w) A (unpackItems (.ref l) items.size none) Q E s := by
  have hlt : l ≠ s.heap.objs.size := by obtain ⟨o, ho, _⟩ := ht; exact Nat.ne_of_lt (Heap.lt_size ho)
  unfold unpackItems
  refine wpAny_bind ?_
  · unfold notIterableAtAll
    refine wpAny_bind (wpAny_specialOf ht.typeIs slot_list_iter.lookup ?_)
    refine wpAny_pure ?_
    simp only [Bool.false_eq_true, if_false]
    refine wpAny_bind (wpAny_holding (wpAny_pyIter_list ht ?_))
    have ht0 : (s.heap.push { cls := .type "list_iterator", data := .fields #[.ref l, .int 0 0] }).IsList l items := by
      obtain ⟨o, ho, r⟩ := ht
      exact ⟨o, Heap.get?_push_of_some _ ho, r⟩
    refine wpAny_bind (wpAny_holding (draw_list hlt items.size 0 _ _ ⟨_, Heap.get?_push_size _ rfl, rfl, rfl⟩ ht0 (by omega) fun h₁ hit₁ hs₁ => ?_))
    have hall : List.take items.size (List.drop 0 items.toList) = items.toList := by
      rw [List.drop_zero]; exact List.take_of_length_le (by simp)
    rw [hall]
    rw [if_neg (by simp)]
    have ht₁ : h₁.IsList l items := ht0.extBut hs₁.extBut hlt
    refine wpAny_bind (wpAny_holding (wpAny_pyNext_list_end hh hit₁ ht₁ (by simp) fun h₂ he₂ => ?_))
    simp only [Option.isSome_none, Bool.false_eq_true, if_false]
    refine wpAny_pure (hQ h₂ fun b o hb e => he₂ b o hb (hs₁.extBut b o hb (Heap.get?_push_of_some _ e)))
theorem assign_Tuple_list {env : Env} {elts : List Expr} {x1} {pos : Pos} {t : Addr} {items : Array Value} {Q : Unit → Shared → Prop} (hh : A.handled = none) (ht : s.heap.IsList t items)
    (hn : (assignEach elts env).length = items.size) (hstar : (assignEach elts env).findIdx? (·.1) = none)
    (h : ∀ h', Heap.ExtBut s.heap.objs.size s.heap h' → wpAny (model prog w) A (assignInOrder ((assignEach elts env).map (·.2)) items.toList) Q E { s with heap := h' }) :
    wpAny (model prog w) A (assign (.Tuple elts x1 pos) env (.ref t)) Q E s := by
  rw [assign_Tuple]
  refine wpAny_bind (wpAny_standAt ?_)
  unfold unpack
  rw [hn, hstar]
  exact wpAny_bind (wpAny_holding (unpackItems_list hh ht h))
end
section
variable {X : Cx} {H0 Hs0 : Hp} {a b c : Expr} {da db dc : DE} {pos : Pos}
def gLst (K : PySem.W.Frag) (n : Nat) (t : TGs) : TG := fun v σ H Q => ∃ a xs, v = .ref a ∧ SqL K H a xs ∧ xs.length = n ∧ t xs σ H Q
theorem pg_lst {es : List Expr} {k : Nat} {t : TGs} {n : Nat} (hc : X.calm = true) (h : PGs X es t) (hn : (assignEach es X.env).length = n) (hst : (assignEach es X.env).findIdx? (·.1) = none) : PG X (.Tuple es k pos) (gLst X.K n t) := by
  intro pins s σ H v u Q I r hw
  obtain ⟨a, xs, e1, hq, hl, hw⟩ := hw
  subst e1
  cases r
  obtain ⟨its, rv, ht, hz⟩ := I.list hq
  refine assign_Tuple_list (I.ok.hd hc) ht.isList (by simp [hn, ← hl, rv.length]) hst fun h' hx => ?_
  have I1 : Inv X pins σ H { s with heap := h' } := I.kept (t' := s.toks) fun b o e => hx b o (Nat.ne_of_lt (Heap.lt_size e)) e
  exact h pins _ σ H xs _ Q I1 (by simpa using rv) hw
/-- one rule for tuples and lists -/
def gU (is : List Nat) : DG := fun p σ => match p with
  | .tup ps => setAll is ps σ
  | .lst ps => setAll is ps σ
  | _ => .stuck
theorem qg_unp {es : List Expr} {is : List Nat} {k : Nat} (hc : X.calm = true) (h : QGs X H0 Hs0 es is) (hn : (assignEach es X.env).length = is.length) (hst : (assignEach es X.env).findIdx? (·.1) = none) : QG X H0 Hs0 (.Tuple es k pos) (gU is) := by
  intro pins s τ H v u Q I rv ⟨Hs, σ, p, S, r, hh⟩
  cases p with
  | tup ps => exact qg_tup hc h hn hst pins s τ H v u Q I rv ⟨Hs, σ, .tup ps, S, r, hh⟩
  | lst ps =>
    refine pg_lst hc h hn hst pins s τ H v u Q I rv ?_
    obtain ⟨ad, vs, rfl, ht, rr⟩ := r.lst_inv
    have hh' : (match setAll is ps σ with
      | .ok σ' => ∀ Hs' H' τ', Same Hs Hs' → SR X.K H0 Hs0 Hs' H' σ' τ' → Q τ' H'
      | _ => False) := hh
    cases e : setAll is ps σ with
    | ok σ' => exact ⟨ad, vs, rfl, SqL.of (S.g.i _ _ ht), by rw [rr.length]; exact setAll_len e, Hs, σ, ps, S, rr, hh'⟩
    | err c => rw [e] at hh'; exact hh'.elim
    | stuck => rw [e] at hh'; exact hh'.elim
  | _ => exact hh.elim
/-- target = value -/
def nxt : Res PSt → Res Fl
  | .ok σ' => .ok (.next σ')
  | _ => .stuck
def sAsg (d : DE) (g : DG) : DS := fun σ => (d σ).bind fun p => nxt (g p σ)
theorem qs_asg {tg : Expr} {g : DG} (ha : QE X H0 Hs0 a da) (hg : QG X H0 Hs0 tg g) (hs : swapsWithSole [tg] a pos.line X.env = pure false) (hw : swappedStores [tg] a X.env = pure none)
    (h1 : (assignEach [tg] X.env).map (·.2) = [assign tg X.env]) : QS X H0 Hs0 (.Assign [tg] a pos) (sAsg da g) := PS.imp (ps_asg ha hg hs hw h1) fun D τ H ⟨Hs, σ, S, h⟩ =>
  ⟨Hs, σ, S, Ret.mono (EndR.bind1 h) fun v H1 ⟨Hs1, p, g1, r1, h1⟩ => ⟨Hs1, σ, p, S.grow g1, r1, by
    revert h1
    generalize g p σ = r
    intro h1
    cases r with
    | ok σ' => exact h1
    | err c => exact h1
    | stuck => exact h1⟩⟩
/-- a, b = x, y upon plain local names: both values, then both stores -/
def sPar (i j : Nat) (a : DA) : DS := fun σ => (a σ).bind fun ps => match ps with
  | [p, q] => .ok (.next ((σ.set i (some (.sh p))).set j (some (.sh q))))
  | _ => .stuck
theorem EndR.bindA {D : Ends} {Hs H : Hp} {r : Res (List PV)} {f : List PV → Res Fl} (h : EndR X H0 Hs0 D Hs H (r.bind f)) :
    Rets X.K Hs H r (ErrOk X H0 Hs0) fun v H1 => ∃ Hs1 p, Grow Hs H Hs1 H1 ∧ Reps X.K Hs1 v p ∧ EndR X H0 Hs0 D Hs1 H1 (f p) := by
  cases r with
  | ok p => exact fun v Hs' H' g r => ⟨Hs', p, g, r, EndR.same (r := f p) h g.s⟩
  | err c => exact h
  | stuck => exact h
theorem qs_par {i j : Nat} {x y : Str} {ra : DA} {px py pt : Pos} {kt k2 pt2} (hc : X.calm = true) (hN : X.N.Nodup) (hi : X.N[i]? = some x) (hj : X.N[j]? = some y) (hij : i ≠ j)
    (hx : X.env.scope.names.lookup x = some .local) (hy : X.env.scope.names.lookup y = some .local) (ha : QA X H0 Hs0 [a, b] ra)
    (hw : swappedStores [.Tuple [.Name x px, .Name y py] kt pt] (.Tuple [a, b] k2 pt2) X.env = pure (some [x, y]))
    (hs : swapsWithSole [.Tuple [.Name x px, .Name y py] kt pt] (.Tuple [a, b] k2 pt2) pos.line X.env = pure false) :
    QS X H0 Hs0 (.Assign [.Tuple [.Name x px, .Name y py] kt pt] (.Tuple [a, b] k2 pt2) pos) (sPar i j ra) := PS.imp (ps_par hc hN hi hj hij hx hy ha hw hs) fun D τ H ⟨Hs, σ, S, h⟩ =>
  ⟨Hs, σ, S, Rets.mono (EndR.bindA h) fun vs H1 ⟨Hs1, ps, g1, r1, h1⟩ => by
    split at h1
    · obtain ⟨v, w, rfl, rp, rq⟩ := r1.two_inv
      exact ⟨v, w, rfl, h1 Hs1 H1 _ (Same.refl _) (((S.grow g1).set i rp).set j rq)⟩
    · exact h1.elim⟩

/-! ### lists that a name owns -/
theorem SR.setOwn {K : PySem.W.Frag} {Hs H : Hp} {σ : PSt} {τ : L2.St} {p : Addr} {vs : List V} {xs : List PV} (S : SR K H0 Hs0 Hs H σ τ) (i : Nat) (hp : H p = none) (r : Reps K Hs vs xs) :
    SR K H0 Hs0 Hs (upd H p (.lst vs)) (σ.set i (some (.own xs))) (τ.set i (some (.ref p))) := by
  have g : Grow Hs H Hs (upd H p (.lst vs)) := .newOwn S.g.i hp
  have far : ∀ (j : Nat) (ys : List PV) (ad : Addr), σ[j]? = some (some (.own ys)) → τ[j]? = some (some (.ref ad)) → ad ≠ p := fun j ys ad e1 e2 z => by
    obtain ⟨v, e3, a', vs', rfl, h1, _⟩ := S.slot j _ e1
    rw [e2] at e3
    cases e3
    subst z
    rw [hp] at h1; cases h1
  refine ⟨S.g.trans g, fun j sv e => ?_, fun j k xs' ys' ad hjk e1 e2 e3 => ?_, by rw [List.length_set, List.length_set]; exact S.len⟩
  · rcases set_some e with ⟨rfl, e', hl⟩ | ⟨hne, e'⟩
    · cases e'
      refine ⟨.ref p, by rw [List.getElem?_set_self (by rw [← S.len]; exact hl)], p, vs, rfl, upd_same, S.g.i.free hp, S.g.h.free hp, r⟩
    · obtain ⟨w, e1, r1⟩ := S.slot j sv e'
      exact ⟨w, by rw [List.getElem?_set_ne (fun z => hne z.symm)]; exact e1, r1.grow g⟩
  · rcases set_some e1 with ⟨rfl, e', hl⟩ | ⟨hj, e1'⟩
    · rw [List.getElem?_set_self (by rw [← S.len]; exact hl)] at e3
      cases e3
      rcases set_some e2 with ⟨rfl, _, _⟩ | ⟨hk, e2'⟩
      · exact absurd rfl hjk
      · rw [List.getElem?_set_ne (fun z => hk z.symm)]
        exact fun z => far k _ _ e2' z rfl
    · rw [List.getElem?_set_ne (fun z => hj z.symm)] at e3
      rcases set_some e2 with ⟨rfl, e', hl⟩ | ⟨hk, e2'⟩
      · rw [List.getElem?_set_self (by rw [← S.len]; exact hl)]
        intro z
        cases z
        exact far j _ _ e1' e3 rfl
      · rw [List.getElem?_set_ne (fun z => hk z.symm)]
        exact S.inj j k _ _ ad hjk e1' e2' e3
def sOwn (i : Nat) (a : DA) : DS := fun σ => (a σ).bind fun ps => if ps.length ≤ 10000000 then .ok (.next (σ.set i (some (.own ps)))) else .stuck
theorem qs_own {i : Nat} {x : Str} {es : List Expr} {lp pos' : Pos} {ra : DA} (hN : X.N.Nodup) (hi : X.N[i]? = some x) (hx : Loc X.env.scope x) (ha : QA X H0 Hs0 es ra) (hs : swapsWith (.List es lp) (some (.Name x pos')) pos.line X.env = pure false)
    (hf : X.fn x = true ∨ X.env.scope.names.lookup x = some .local) : QS X H0 Hs0 (.Assign [.Name x pos'] (.List es lp) pos) (sOwn i ra) := PS.imp (ps_set hN hi hx (pe_lst ha) hs hf) fun D τ H ⟨Hs, σ, S, h⟩ =>
  ⟨Hs, σ, S, Rets.mono (EndR.bindA h) fun vs H1 ⟨Hs1, ps, g1, r1, h1⟩ => by
    split at h1
    · rename_i hl
      exact ⟨small7 (by rw [r1.length]; exact hl), fun p hp => h1 Hs1 _ _ (Same.refl _) ((S.grow g1).setOwn i hp r1)⟩
    · exact h1.elim⟩
/-- the list that slot i owns is written -/
theorem SR.write {K : PySem.W.Frag} {Hs H : Hp} {σ : PSt} {τ : L2.St} {ad : Addr} {vs' : List V} {xs xs' : List PV} (S : SR K H0 Hs0 Hs H σ τ) (i : Nat) (e : σ[i]? = some (some (.own xs))) (et : τ[i]? = some (some (.ref ad))) (hHs : Hs ad = none) (hH0 : H0 ad = none) (r : Reps K Hs vs' xs') :
    SR K H0 Hs0 Hs (upd H ad (.lst vs')) (σ.set i (some (.own xs'))) τ := by
  have sm : ∀ {b : Addr}, b ≠ ad → upd H ad (.lst vs') b = H b := fun h => upd_ne h
  refine ⟨⟨S.g.s, fun b o h => ?_, fun b o h => ?_, S.g.o⟩, fun j sv ej => ?_, fun j k xs1 ys1 a1 hjk e1 e2 e3 => ?_, by rw [List.length_set]; exact S.len⟩
  · rw [sm (ne_of_none h hHs)]; exact S.g.i b o h
  · rw [sm (ne_of_none h hH0)]; exact S.g.h b o h
  · rcases set_some ej with ⟨rfl, e', hl⟩ | ⟨hne, e'⟩
    · cases e'
      exact ⟨_, et, ad, vs', rfl, upd_same, hHs, hH0, r⟩
    · obtain ⟨w, e1, r1⟩ := S.slot j sv e'
      refine ⟨w, e1, ?_⟩
      cases sv with
      | sh p => exact r1
      | own ys =>
        obtain ⟨b, ws, rfl, h1, h2, h3, h4⟩ := r1
        refine ⟨b, ws, rfl, ?_, h2, h3, h4⟩
        rw [sm]
        · exact h1
        · intro z
          subst z
          exact S.inj j i ys xs b hne e' e e1 et
  · have o1 : ∃ z, σ[j]? = some (some (.own z)) := by
      rcases set_some e1 with ⟨rfl, _, _⟩ | ⟨_, e'⟩
      · exact ⟨xs, e⟩
      · exact ⟨_, e'⟩
    have o2 : ∃ z, σ[k]? = some (some (.own z)) := by
      rcases set_some e2 with ⟨rfl, _, _⟩ | ⟨_, e'⟩
      · exact ⟨xs, e⟩
      · exact ⟨_, e'⟩
    obtain ⟨z1, o1⟩ := o1
    obtain ⟨z2, o2⟩ := o2
    exact S.inj j k z1 z2 a1 hjk o1 o2 e3
def sApp (i : Nat) (d : DE) : DS := fun σ => match σ[i]? with
  | some (some (.own xs)) => if xs.length < 10000000 then (d σ).bind fun p => .ok (.next (σ.set i (some (.own (xs ++ [p]))))) else .stuck
  | _ => .stuck
theorem qs_app {i : Nat} {x : Str} {np apos cpos : Pos} (hN : X.N[i]? = some x) (hv : Vis X.env.scope x) (hd : (x == ("__debug__" : Str)) = false) (hcd : (x == ("__classdict__" : Str)) = false) (ha : QE X H0 Hs0 a da)
    (hbase : attributeBase (.Name x np) "append" X.env (eval (.Name x np) X.env) = eval (.Name x np) X.env)
    (hfew : ((backTo cpos (starEach [a] X.env)).all (fun x => !x.1) && (backToKw cpos (keywordEach [] X.env)).all (fun x => x.1.isSome)
      && decide ([a].length + ([] : List Keyword).length + (if ([] : List Keyword).isEmpty then 0 else 1) < 30)) = true)
    (hline : (apos.endLine == cpos.line) = true) (hs : starEach [a] X.env = [(false, eval a X.env)]) (hplain : (backTo cpos (starEach [] X.env)).any (·.1) = false)
    (hsw : swapsWith (.Call (.Attribute (.Name x np) "append" apos) [a] [] cpos) none pos.line X.env = pure false) :
    QS X H0 Hs0 (.Expr (.Call (.Attribute (.Name x np) "append" apos) [a] [] cpos) pos) (sApp i da) := by
  intro pins s τ H D I ⟨Hs, σ, S, h⟩
  refine ps_expr (pe_bm PySem.F.plainAttrs_list PySem.F.slot_list_append PySem.F.type_list_append mt_append (pe_var hN hv hd hcd) (pa_cons ha pa_nil hs) hbase hfew hline hs hplain) hsw pins s τ H D I ?_
  unfold sApp at h
  split at h
  · rename_i xs e
    split at h
    · rename_i hl
      obtain ⟨v, e1, ad, vs, rfl, h1, h2, h3, h4⟩ := S.slot i _ e
      refine ⟨_, e1, .inl ⟨rfl, vs, SqL.of h1⟩, Hs, σ, S, Ret.mono (EndR.bind1 h) fun y H1 ⟨Hs1, p, g1, r1, hh⟩ => ?_⟩
      have S1 := S.grow g1
      obtain ⟨v', e1', ad', vs', e2', h1', h2', h3', h4'⟩ := S1.slot i _ e
      rw [e1] at e1'
      cases e1'
      cases e2'
      refine ⟨ad, vs', y, rfl, rfl, h1', by rw [h4'.length, sizeLine_eq]; omega, hh Hs1 _ τ (Same.refl _) (S1.write i e e1 h2' h3' (h4'.append (.cons r1 .nil)))⟩
    · exact h.elim
  · exact h.elim
/-- xs.pop() whose value is dropped -/
def sPop (i : Nat) : DS := fun σ => match σ[i]? with
  | some (some (.own xs)) => if xs = [] then .stuck else .ok (.next (σ.set i (some (.own xs.dropLast))))
  | _ => .stuck
theorem Reps.dropLast {K : PySem.W.Frag} {H : Hp} {vs : List V} {ps : List PV} (r : Reps K H vs ps) : Reps K H vs.dropLast ps.dropLast := by
  rw [List.dropLast_eq_take, List.dropLast_eq_take, r.length]
  exact r.take _
end
end G
set_option Elab.async false
set_option linter.all false
set_option maxRecDepth 100000
set_option maxHeartbeats 1000000
namespace G
open PySem PySem.Spec PyProof.Rows L2
section
variable {X : Cx} {H0 Hs0 : Hp} {pos : Pos}
theorem q_dict0 : QE X H0 Hs0 (.Dict [] [] pos) (eC .dic) := PE.imp pe_dnewK fun τ H Q ⟨Hs, σ, S, h⟩ p hp => h _ _ _ (.new S.g.i hp) (.dic upd_same)
theorem q_dict1 {i j : Int} {k1 k2 p1 p2} : QE X H0 Hs0 (.Dict [some (.Constant (.int i) k1 p1)] [.Constant (.int j) k2 p2] pos) (eC .dic) :=
  PE.imp (pe_disp (pps_cons pe_int pe_int pps_nil) rfl rfl (by simp) (by simp)) fun τ H Q ⟨Hs, σ, S, h⟩ p hp => by
    refine ⟨upd_same, [(.inl i, .int j)], rfl, by simp, ?_⟩
    rw [upd_upd]
    exact h _ _ _ (.new S.g.i hp) (.dic upd_same)
end
/-! ### a def of the text -/
def start0 (m : Nat) (ps : List PV) : PSt := ps.map (fun p => some (.sh p)) ++ List.replicate (m - ps.length) none
def fin : Res Fl → Res PV
  | .ok (.ret p) => .ok p
  | .ok (.next _) => .ok .non
  | _ => .stuck
def runF (n m : Nat) (d : DS) (ps : List PV) : Res PV := if ps.length = n then fin (d (start0 m ps)) else .stuck
theorem runF_eq {n m : Nat} {d : DS} {ps : List PV} (h : ps.length = n) : runF n m d ps = fin (d (start0 m ps)) := if_pos h
theorem runF_ne {n m : Nat} {d : DS} {ps : List PV} (h : ps.length ≠ n) : runF n m d ps = .stuck := if_neg h
theorem SR.start {K : PySem.W.Frag} {Hs H : Hp} {vs : List V} {ps : List PV} {N : List Str} (i : Same Hs H) (r : Reps K Hs vs ps) (hl : vs.length ≤ N.length) : SR K H Hs Hs H (start0 N.length ps) (start N vs) := by
  have hlen := r.length
  have get : ∀ (j : Nat) (sv : SV), (start0 N.length ps)[j]? = some (some sv) → ∃ p, sv = .sh p ∧ ps[j]? = some p := by
    intro j sv e
    unfold start0 at e
    by_cases hj : j < ps.length
    · rw [List.getElem?_append_left (by simpa using hj), List.getElem?_map] at e
      cases q : ps[j]? with
      | none => rw [q] at e; cases e
      | some p => rw [q] at e; cases e; exact ⟨p, rfl, rfl⟩
    · rw [List.getElem?_append_right (by simpa using hj), List.getElem?_replicate] at e
      split at e <;> cases e
  refine ⟨.refl i, fun j sv e => ?_, fun j k xs ys a _ e1 => ?_, ?_⟩
  · obtain ⟨p, rfl, hp⟩ := get j sv e
    obtain ⟨v, hv, rv⟩ := r.get hp
    refine ⟨v, ?_, rv⟩
    have hj : j < vs.length := (List.getElem?_eq_some_iff.mp hv).1
    unfold L2.start
    rw [List.getElem?_append_left (by simpa using hj), List.getElem?_map, hv]; rfl
  · obtain ⟨p, z, _⟩ := get j _ e1
    cases z
  · unfold start0 L2.start
    simp only [List.length_append, List.length_map, List.length_replicate]
    omega
section
variable {P : Program} {w : World} {K : PySem.W.Frag} {mg : Str → Option Value} {base : Heap}
theorem fun_okX {CX : CXT} {x qual : Str} {st : Stmt} {f : Addr} {fd : FuncData} {N ps : List Str} {k : Nat} {sp : Sp} (F : Fun K x qual st f fd) (S : FnScope N ps (defScope st)) (len : ∀ vs H Q E, sp vs H Q E → vs.length = ps.length)
    (hbody : ∀ (cdv : Value) (A : Around) (outer : List Env) (s : Shared) (H : Hp) (vs : List V) (Q : VK) (E : XK), Room k (A.deeper (envOfC qual (defScope st) s.heap.objs.size f cdv)) → sp vs H Q E →
      ∃ t, PSs (cxOf CX P w K mg base N qual (defScope st) f cdv A outer s H E) (defBody st) t ∧ t { nx := fun _ H' => Q .non H', rt := Q } (start N vs) H) : FnOk P w K mg base CX (k + 1) f fd ps sp := by
  obtain ⟨oc, od, kV, doc, pm, an, cdv, ct, osl, rfl, lk, hcd⟩ := F.ex
  exact fn_of lk hcd S len fun A outer s H vs Q E hr hsp => hbody cdv A outer s H vs Q E hr hsp
theorem fn_ok {x qual : Str} {st : Stmt} {f : Addr} {fd : FuncData} {N ps : List Str} {k : Nat} {d : DS} (F : Fun K x qual st f fd) (S : FnScope N ps (defScope st))
    (hbody : ∀ (cdv : Value) (A : Around) (outer : List Env) (s : Shared) (H Hs : Hp) (E : XK), Room k (A.deeper (envOfC qual (defScope st) s.heap.objs.size f cdv)) →
      QSs (cxOf (CXG P w) P w K mg base N qual (defScope st) f cdv A outer s H E).nox H Hs (defBody st) d) :
    FnOk P w K mg base (CXG P w) (k + 1) f fd ps (Fsp K ps.length (runF ps.length N.length d)) := by
  have hpl : ps.length ≤ N.length := by have := congrArg List.length S.pre; rw [List.length_take] at this; omega
  refine fun_okX F S (fun vs H Q E h => h.1) (fun cdv A outer s H vs Q E hr h => ?_)
  obtain ⟨hl, Hs, qs, i, r, h⟩ := h
  refine ⟨_, PSs.nox (hbody cdv A outer s H Hs E hr), Hs, start0 N.length qs, SR.start i r (by omega), ?_⟩
  rw [runF_eq (by rw [← r.length, hl])] at h
  generalize d (start0 N.length qs) = rr at h ⊢
  cases rr with
  | ok fl =>
    cases fl with
    | next σ' => exact fun Hs' H' τ' _ S' => h _ Hs' H' S'.g .non
    | ret p => exact fun v Hs' H' g rv => h v Hs' H' g rv
    | brk σ' => exact h.elim
    | cont σ' => exact h.elim
  | err c => exact h.elim
  | stuck => exact h
structure FunIn (P : Program) (w : World) (K : PySem.W.Frag) (mg : Str → Option Value) (base : Heap) (x : Str) (k : Nat) (m : List PV → Res PV) : Prop where
  ex : ∃ (a : Addr) (fd : FuncData) (ps : List Str), mg x = some (.ref a) ∧ PySem.W.keepIn K (.ref a) = true ∧ Binds K fd ps [] ∧ (∀ qs, qs.length ≠ ps.length → m qs = .stuck) ∧ FnOk P w K mg base (CXG P w) k a fd ps (Fsp K ps.length m)
theorem fun_in {x : Str} {st : Stmt} {f : Addr} {fd : FuncData} {N ps : List Str} {k : Nat} {d : DS} (F : Fun K x x st f fd) (hm : mg x = some (.ref f)) (S : FnScope N ps (defScope st))
    (hb : ∀ (kV doc pm : Value) (an : Option Addr) (cdv ct : Value) (us : List Value), us.length = ps.length → bindArgs (PySem.W.fnOf x x (defArgs st) (defBody st) (defScope st) .none kV doc pm an cdv ct) ⟨us, []⟩ = pure (ps.zip us))
    (hbody : ∀ (cdv : Value) (A : Around) (outer : List Env) (s : Shared) (H Hs : Hp) (E : XK), Room k (A.deeper (envOfC x (defScope st) s.heap.objs.size f cdv)) →
      QSs (cxOf (CXG P w) P w K mg base N x (defScope st) f cdv A outer s H E).nox H Hs (defBody st) d) :
    FunIn P w K mg base x (k + 1) (runF ps.length N.length d) :=
  ⟨f, fd, ps, hm, F.kp, F.binds hb, fun qs h => runF_ne h, fn_ok F S hbody⟩
theorem FunIn.is {x : Str} {j : Nat} {m : List PV → Res PV} {X : Cx} {k : Nat} (F : FunIn X.prog X.w X.K X.mg X.base x j m) (hr : Room k X.A) (h : j ≤ k := by decide) : FunIs X x m := by
  obtain ⟨a, fd, ps, h1, h2, h3, h4, h5⟩ := F.ex
  exact ⟨a, fd, ps, j, h1, h2, h3, hr.mono h, h4, h5⟩
/-- a def as it stands at the top -/
structure DefAt (K : PySem.W.Frag) (x : Str) (st : Stmt) : Prop where
  ex : ∃ (f : Addr) (fd : FuncData), PySem.W.nsIn K mainGlobals x = some (some (.ref f)) ∧ Fun K x x st f fd
theorem def_at {x : Str} {st : Stmt} {f : Addr} {oc : Value} {od an : Option Addr} {osl : Array (Option Value)} {kV doc pm cdv ct : Value} (a : PySem.W.nsIn K mainGlobals x = some (some (.ref f)))
    (l : K.lookup f = some ⟨oc, od, .func (PySem.W.fnOf x x (defArgs st) (defBody st) (defScope st) .none kV doc pm an cdv ct), osl⟩) (c : PySem.W.codeIn K cdv x = true) (k : PySem.W.keepIn K (.ref f) = true) : DefAt K x st :=
  ⟨f, _, a, fun_mk l c k⟩
/-- the law: its def is worth m, and m is True at every script -/
theorem law_walk {l : PySem.W.OpenLaw} {q : Program} {loose : List Str} {XP : (Str → Option Value) → Heap → Prop} {YP : World → Heap → Prop} {d : DefRec} {K : Params → PySem.W.Frag} {k : Nat} {m : List PV → Res PV} (hn : l.most = some 63) (hdf : d.params.defaults = [])
    (hr : Room k callerA) (hY : ∀ (w : World) (h : Heap), YP w h → (K w.params).In h) (hd : d.name = "law")
    (F : ∀ (w : World) (mg : Str → Option Value) (h : Heap), (K w.params).In h → h.Ns mainGlobals mg →
      ∃ (a : Addr) (fd : FuncData), mg "law" = some (.ref a) ∧ (∀ (s : Shared) (u : Value), BindsTo s fd ⟨[u], []⟩ [("script", u)]) ∧ ∀ base : Heap, (K w.params).In base → base.Ns mainGlobals mg → FnOk l.prog w (K w.params) mg base (CXG l.prog w) k a fd ["script"] (Fsp (K w.params) 1 m))
    (hm : ∀ ns : List Int, ns.length ≤ 63 → m [.scr ns] = .ok (.bl true)) :
    PySem.W.WalkO q loose XP YP l.row.toRowW d [] (fun f vs => PySem.call f vs) := by
  refine L2.walk_of (n := 63) (k := k) (x := "script") (CX := fun w => CXG l.prog w) (sp := fun w => Fsp (K w.params) 1 m) hn (by decide) hdf hr hY (fun w mg fa h KX G hmg => ?_) (fun w H a ns hl _ hS => ?_) fun _ _ _ _ _ ⟨_, _, _, _, _, _, _, _, _, _, _, z⟩ => z
  · obtain ⟨a, fd, h1, h2, h3⟩ := F w mg h KX G
    rw [hd, h1] at hmg
    cases hmg
    exact ⟨fd, h2, h3⟩
  · refine ⟨rfl, H, [.scr ns], Same.refl _, .cons (.scr hS) .nil, ?_⟩
    rw [hm ns hl]
    exact fun v Hs' H' g r => r.bl_inv
end

end G
set_option Elab.async false
set_option linter.all false
set_option maxRecDepth 100000
set_option maxHeartbeats 1000000
namespace G
open PySem PySem.Spec PyProof.Rows L2
/-! ### what an expression is not, by a look at its head -/
def noStar : Expr → Bool
  | .Starred _ _ => false
  | _ => true
def noComp : Expr → Bool
  | .ListComp .. => false
  | .SetComp .. => false
  | .DictComp .. => false
  | _ => true
def noSet : Expr → Bool
  | .Set .. => false
  | _ => true
def noSlice : Expr → Bool
  | .Slice .. => false
  | _ => true
def valHead : Expr → Bool
  | .UnaryOp .. => false
  | .BoolOp .. => false
  | .IfExp .. => false
  | .Compare .. => false
  | _ => true
theorem star_cons {a : Expr} {es : List Expr} {env : Env} (h : noStar a = true) : starEach (a :: es) env = (false, eval a env) :: starEach es env := by
  cases a <;> first | rfl | cases h
theorem star_any {es : List Expr} {env : Env} {pos : Pos} (h : es.all noStar = true) : (backTo pos (starEach es env)).any (·.1) = false := by
  induction es with
  | nil => rfl
  | cons a es ih =>
    rw [List.all_cons, Bool.and_eq_true] at h
    rw [star_cons h.1]
    show ((false || (backTo pos (starEach es env)).any (·.1)) = false)
    rw [ih h.2]; rfl
theorem star_all {es : List Expr} {env : Env} {pos : Pos} (h : es.all noStar = true) : (backTo pos (starEach es env)).all (fun x => !x.1) = true := by
  induction es with
  | nil => rfl
  | cons a es ih =>
    rw [List.all_cons, Bool.and_eq_true] at h
    rw [star_cons h.1]
    show ((true && (backTo pos (starEach es env)).all (fun x => !x.1)) = true)
    rw [ih h.2]; rfl
theorem swap_no {a : Expr} {t : Option Expr} {n : Nat} {env : Env} (h : noComp a = true) : swapsWith a t n env = pure false := by
  cases a <;> first | rfl | cases h
theorem swapSole_no {a t : Expr} {n : Nat} {env : Env} (h : noComp a = true) : swapsWithSole [t] a n env = pure false := swap_no h
theorem fold_no {a : Expr} {env : Env} (h : noSet a = true) : ∀ x, foldedSetIterable a env x = pure x := by
  intro x
  cases a <;> first | rfl | cases h
theorem plain_ix {b : Expr} (h : noSlice b = true) : PlainIx b := by
  intro o i
  cases b <;> first | rfl | cases h
theorem val_true {a : Expr} {env : Env} (h : valHead a = true) : ∀ whole, isTrue a env whole = (do let v ← whole; standAt a.pos; holding [v] (truthy v)) := by
  intro whole
  cases a <;> first | (cases h; done) | (unfold isTrue; rfl) | rfl
theorem marks_no {op : CmpOp} {b : Expr} (h : noSet b = true) : behindInMarks op b = false := by
  cases b <;> first | rfl | cases h
end G
set_option Elab.async false
set_option linter.all false
set_option maxRecDepth 100000
set_option maxHeartbeats 1000000
namespace G
open PySem PySem.Spec PyProof.Rows L2
/-! ### the rules as closed words: structures, so that nothing is unfolded -/
section
variable (X : Cx) (H0 Hs0 : Hp)
structure XE (e : Expr) (d : DE) : Prop where h : QE X H0 Hs0 e d
structure XA (e : List Expr) (d : DA) : Prop where h : QA X H0 Hs0 e d
structure XT (e : Expr) (d : DT) : Prop where h : QT X H0 Hs0 e d
structure XW (e : Expr) (d : DT) : Prop where h : QW X H0 Hs0 e d
structure XS (e : Stmt) (d : DS) : Prop where h : QS X H0 Hs0 e d
structure XB (e : List Stmt) (d : DS) : Prop where h : QSs X H0 Hs0 e d
structure XI (tg e : Expr) (d : DI) : Prop where h : QI X H0 Hs0 tg e d
structure XG (e : Expr) (d : DG) : Prop where h : QG X H0 Hs0 e d
structure XGs (e : List Expr) (d : List Nat) : Prop where h : QGs X H0 Hs0 e d
structure XO (e : Option Expr) (d : DO) : Prop where h : QO X H0 Hs0 e d
end
theorem room20 {A : Around} {k : Nat} (hr : Room k A) : A.units + 20 < cLine := by have := hr.un; omega
theorem bw_abs : bootBuiltins "abs" = some (.builtin "abs") := by decide +kernel
theorem bw_max : bootBuiltins "max" = some (.builtin "max") := by decide +kernel
theorem bw_min : bootBuiltins "min" = some (.builtin "min") := by decide +kernel
theorem bt_int : bootBuiltins "int" = some (.type "int") := by decide +kernel
theorem bt_bool : bootBuiltins "bool" = some (.type "bool") := by decide +kernel
theorem bt_tuple : bootBuiltins "tuple" = some (.type "tuple") := by decide +kernel
theorem bt_list : bootBuiltins "list" = some (.type "list") := by decide +kernel
theorem bt_str : bootBuiltins "str" = some (.type "str") := by decide +kernel
theorem bt_dict : bootBuiltins "dict" = some (.type "dict") := by decide +kernel
theorem kn_int : "int" ∈ kindNames := by decide
theorem kn_bool : "bool" ∈ kindNames := by decide
theorem kn_tuple : "tuple" ∈ kindNames := by decide
theorem kn_list : "list" ∈ kindNames := by decide
theorem kn_str : "str" ∈ kindNames := by decide
theorem kn_dict : "dict" ∈ kindNames := by decide
/-- the built-in names of the text have no other meaning -/
structure Bi (mg : Str → Option Value) : Prop where
  abs : mg "abs" = none
  len : mg "len" = none
  range : mg "range" = none
  max : mg "max" = none
  min : mg "min" = none
  isinstance : mg "isinstance" = none
  int : mg "int" = none
  bool : mg "bool" = none
  tuple : mg "tuple" = none
  list : mg "list" = none
  str : mg "str" = none
  dict : mg "dict" = none
section
variable {X : Cx} {H0 Hs0 : Hp} {a b c : Expr} {da db dc : DE} {pos : Pos} {ta tb : DT} {es rest : List Expr} {ra : DA} {st : Stmt} {sts ss2 : List Stmt} {d1 d2 : DS}
theorem xv (i : Nat) {x : Str} (hN : X.N[i]? = some x := by rfl) (hv : Vis X.env.scope x := by first | exact Or.inl rfl | exact Or.inr (Or.inl rfl) | exact Or.inr (Or.inr rfl)) (hd : (x == ("__debug__" : Str)) = false := by decide)
    (hcd : (x == ("__classdict__" : Str)) = false := by decide) : XE X H0 Hs0 (.Name x pos) (eVar i) := ⟨q_var hN hv hd hcd⟩
theorem xint {i j} : XE X H0 Hs0 (.Constant (.int i) j pos) (eC (.int i)) := ⟨q_int⟩
theorem xbl {b j} : XE X H0 Hs0 (.Constant (.bool b) j pos) (eC (.bl b)) := ⟨q_bl⟩
theorem xnon {j} : XE X H0 Hs0 (.Constant .none j pos) (eC .non) := ⟨q_non⟩
theorem xstr {x j} : XE X H0 Hs0 (.Constant (.str x) j pos) (eC (.str x)) := ⟨q_str⟩
theorem xdict0 : XE X H0 Hs0 (.Dict [] [] pos) (eC .dic) := ⟨q_dict0⟩
theorem xdict1 {i j : Int} {k1 k2 p1 p2} : XE X H0 Hs0 (.Dict [some (.Constant (.int i) k1 p1)] [.Constant (.int j) k2 p2] pos) (eC .dic) := ⟨q_dict1⟩
theorem xop {op : Operator} {g : PV → PV → Res PV} (ho : OpP X (binaryOp op) g) (ha : XE X H0 Hs0 a da) (hb : XE X H0 Hs0 b db) : XE X H0 Hs0 (.BinOp a op b pos) (e2 g da db) := ⟨q_op ho ha.h hb.h⟩
theorem xneg (ha : XE X H0 Hs0 a da) : XE X H0 Hs0 (.UnaryOp .USub a pos) (e1 pNeg da) := ⟨q_neg ha.h⟩
theorem xnot (ha : XE X H0 Hs0 a da) : XE X H0 Hs0 (.UnaryOp .Not a pos) (e1 pNot da) := ⟨q_not ha.h⟩
theorem xcmp {op : CmpOp} {g : PV → PV → Res PV} (ho : OpP X (compareOp op) g) (ha : XE X H0 Hs0 a da) (hb : XE X H0 Hs0 b db) (hm : noSet b = true := by rfl) : XE X H0 Hs0 (.Compare a [op] [b] pos) (e2 g da db) := ⟨q_cmp ho ha.h hb.h (marks_no hm)⟩
theorem xone {op : BoolOp} (ha : XE X H0 Hs0 a da) : XE X H0 Hs0 (.BoolOp op [a] pos) da := ⟨q_one ha.h⟩
theorem xand (ha : XE X H0 Hs0 a da) (hb : XE X H0 Hs0 (.BoolOp .And (b :: rest) pos) db) : XE X H0 Hs0 (.BoolOp .And (a :: b :: rest) pos) (eAnd da db) := ⟨q_and ha.h hb.h⟩
theorem xor' (ha : XE X H0 Hs0 a da) (hb : XE X H0 Hs0 (.BoolOp .Or (b :: rest) pos) db) : XE X H0 Hs0 (.BoolOp .Or (a :: b :: rest) pos) (eOr da db) := ⟨q_or ha.h hb.h⟩
theorem xif (hc : XT X H0 Hs0 c ta) (ha : XE X H0 Hs0 a da) (hb : XE X H0 Hs0 b db) : XE X H0 Hs0 (.IfExp c a b pos) (eIf ta da db) := ⟨q_ifExp hc.h ha.h hb.h⟩
theorem xa0 : XA X H0 Hs0 [] aNil := ⟨qa_nil⟩
theorem xa (ha : XE X H0 Hs0 a da) (hr : XA X H0 Hs0 es ra) (hs : noStar a = true := by rfl) : XA X H0 Hs0 (a :: es) (aCons da ra) := ⟨qa_cons ha.h hr.h (star_cons hs)⟩
theorem xtup {x1} (h : XA X H0 Hs0 es ra) : XE X H0 Hs0 (.Tuple es x1 pos) (eA pTup ra) := ⟨q_tup h.h⟩
theorem xlst (h : XA X H0 Hs0 es ra) : XE X H0 Hs0 (.List es pos) (eA pLst ra) := ⟨q_lst h.h⟩
theorem xcB {x : Str} {id : String} {p : Pos} {e : Expr} {g : List PV → Res PV} (hc : CallP X (.builtin id) g) (hm : X.mg x = none) (hv : bootBuiltins x = some (.builtin id)) (ha : XA X H0 Hs0 (e :: es) ra) (hg : Gl X x := by rfl)
    (hn : x ≠ "__name__" := by decide) (hdb : (x == ("__debug__" : Str)) = false := by decide) (he : noStar e = true := by rfl) (hpl : es.all noStar = true := by rfl) :
    XE X H0 Hs0 (.Call (.Name x p) (e :: es) [] pos) (eA g ra) := ⟨q_callB hc hg hm hv ha.h hn hdb (star_cons he) (star_any hpl)⟩
theorem xcT {x : Str} {T : String} {p : Pos} {e : Expr} {g : List PV → Res PV} (hc : CallP X (.type T) g) (hm : X.mg x = none) (hv : bootBuiltins x = some (.type T)) (ha : XA X H0 Hs0 (e :: es) ra) (hg : Gl X x := by rfl)
    (hn : x ≠ "__name__" := by decide) (hdb : (x == ("__debug__" : Str)) = false := by decide) (he : noStar e = true := by rfl) (hpl : es.all noStar = true := by rfl) :
    XE X H0 Hs0 (.Call (.Name x p) (e :: es) [] pos) (eA g ra) := ⟨q_callTy hc hg hm hv ha.h hn hdb (star_cons he) (star_any hpl)⟩
theorem xcF {x : Str} {p : Pos} {e : Expr} {m : List PV → Res PV} (F : FunIs X x m) (ha : XA X H0 Hs0 (e :: es) ra) (hg : Gl X x := by rfl)
    (hdb : (x == ("__debug__" : Str)) = false := by decide) (he : noStar e = true := by rfl) (hpl : es.all noStar = true := by rfl) :
    XE X H0 Hs0 (.Call (.Name x p) (e :: es) [] pos) (eA (fun ps => G.noErr (m ps)) ra) := ⟨q_call F hg ha.h hdb (star_cons he) (star_any hpl)⟩
theorem xcI {T : String} {x : Str} {p1 p2 : Pos} (ha : XE X H0 Hs0 a da) (hT : T ∈ kindNames) (hx : bootBuiltins x = some (.type T)) (hm : X.mg "isinstance" = none) (hm2 : X.mg x = none) (hg : Gl X "isinstance" := by rfl) (hg2 : Gl X x := by rfl) (hn : x ≠ "__name__" := by decide)
    (hdb : (x == ("__debug__" : Str)) = false := by decide) (h1 : noStar a = true := by rfl) : XE X H0 Hs0 (.Call (.Name "isinstance" p1) [a, .Name x p2] [] pos) (e1 (pIsi T) da) := ⟨q_isi ha.h hT hx hg hm hg2 hm2 hn hdb (star_cons h1) rfl rfl⟩
theorem xiV (k : Nat) {x : Str} {np : Pos} (hb : XE X H0 Hs0 b db) (hN : X.N[k]? = some x := by rfl) (hv : Vis X.env.scope x := by first | exact Or.inl rfl | exact Or.inr (Or.inl rfl) | exact Or.inr (Or.inr rfl)) (hd : (x == ("__debug__" : Str)) = false := by decide)
    (hcd : (x == ("__classdict__" : Str)) = false := by decide) (hs : noSlice b = true := by rfl) : XE X H0 Hs0 (.Subscript (.Name x np) b pos) (eIxV k db) := ⟨q_ixv hN hv hd hcd hb.h (plain_ix hs)⟩
theorem xiX (ha : XE X H0 Hs0 a da) (hb : XE X H0 Hs0 b db) (hs : noSlice b = true := by rfl) : XE X H0 Hs0 (.Subscript a b pos) (e2 pIx da db) := ⟨q_ix ha.h hb.h (plain_ix hs)⟩
theorem xlV (k : Nat) {x : Str} {np p : Pos} (hm : X.mg "len" = none) (hN : X.N[k]? = some x := by rfl) (hv : Vis X.env.scope x := by first | exact Or.inl rfl | exact Or.inr (Or.inl rfl) | exact Or.inr (Or.inr rfl)) (hd : (x == ("__debug__" : Str)) = false := by decide)
    (hcd : (x == ("__classdict__" : Str)) = false := by decide) (hg : Gl X "len" := by rfl) : XE X H0 Hs0 (.Call (.Name "len" p) [.Name x np] [] pos) (eLenV k) := ⟨q_lenv hN hv hd hcd hg hm rfl rfl⟩
theorem xo0 : XO X H0 Hs0 none oNo := ⟨qo_none⟩
theorem xo (ha : XE X H0 Hs0 a da) : XO X H0 Hs0 (some a) (oE da) := ⟨qo_some ha.h⟩
theorem xsl {lo hi : Option Expr} {dl dh : DO} {p2 : Pos} (ha : XE X H0 Hs0 a da) (hl : XO X H0 Hs0 lo dl) (hh : XO X H0 Hs0 hi dh) : XE X H0 Hs0 (.Subscript a (.Slice lo hi none p2) pos) (eSl da dl dh) := ⟨q_slice ha.h hl.h hh.h⟩
/-! tests -/
theorem xtc {op : CmpOp} {g : PV → PV → Res PV} (ho : OpP X (compareOp op) g) (ha : XE X H0 Hs0 a da) (hb : XE X H0 Hs0 b db) (hm : noSet b = true := by rfl) : XT X H0 Hs0 (.Compare a [op] [b] pos) (tV (e2 g da db)) := ⟨qt_cmp ho ha.h hb.h (marks_no hm)⟩
theorem xtv (ha : XE X H0 Hs0 a da) (he : valHead a = true := by rfl) : XT X H0 Hs0 a (tV da) := ⟨qt_val ha.h (val_true he)⟩
theorem xtn (ha : XT X H0 Hs0 a ta) : XT X H0 Hs0 (.UnaryOp .Not a pos) (G.tNot ta) := ⟨qt_not ha.h⟩
theorem xand1 (ha : XT X H0 Hs0 a ta) : XW X H0 Hs0 (.BoolOp .And [a] pos) ta := ⟨qw_and1 ha.h⟩
theorem xor1 (ha : XT X H0 Hs0 a ta) : XW X H0 Hs0 (.BoolOp .Or [a] pos) ta := ⟨qw_or1 ha.h⟩
theorem xand2 (ha : XT X H0 Hs0 a ta) (hb : XW X H0 Hs0 (.BoolOp .And (b :: rest) pos) tb) : XW X H0 Hs0 (.BoolOp .And (a :: b :: rest) pos) (G.tAnd ta tb) := ⟨qw_and ha.h hb.h⟩
theorem xor2 (ha : XT X H0 Hs0 a ta) (hb : XW X H0 Hs0 (.BoolOp .Or (b :: rest) pos) tb) : XW X H0 Hs0 (.BoolOp .Or (a :: b :: rest) pos) (G.tOr ta tb) := ⟨qw_or ha.h hb.h⟩
theorem xw (h : XW X H0 Hs0 a ta) : XT X H0 Hs0 a ta := ⟨QW.qt h.h⟩
/-! statements -/
theorem xb0 : XB X H0 Hs0 [] sNext := ⟨qss_nil⟩
theorem xb1 (h1 : XS X H0 Hs0 st d1) : XB X H0 Hs0 [st] d1 := ⟨qss_one h1.h⟩
theorem xb (h1 : XS X H0 Hs0 st d1) (h2 : XB X H0 Hs0 sts d2) : XB X H0 Hs0 (st :: sts) (sSeq d1 d2) := ⟨qss_cons h1.h h2.h⟩
theorem xret (ha : XE X H0 Hs0 a da) : XS X H0 Hs0 (.Return (some a) pos) (sRet da) := ⟨qs_ret ha.h⟩
theorem xretN : XS X H0 Hs0 (.Return none pos) sRetN := ⟨qs_retN⟩
theorem xpass : XS X H0 Hs0 (.Pass pos) sNext := ⟨qs_pass⟩
theorem xbrk : XS X H0 Hs0 (.Break pos) sBrk := ⟨qs_brk⟩
theorem xcont : XS X H0 Hs0 (.Continue pos) sCont := ⟨qs_cont⟩
theorem xstuck : XS X H0 Hs0 st (fun _ => .stuck) := ⟨QS.stuck⟩
theorem xsif (hc : XT X H0 Hs0 c ta) (h1 : XB X H0 Hs0 sts d1) (h2 : XB X H0 Hs0 ss2 d2) : XS X H0 Hs0 (.If c sts ss2 pos) (sIf ta d1 d2) := ⟨qs_if hc.h h1.h h2.h⟩
theorem xset (i : Nat) {x : Str} {pos' : Pos} (ha : XE X H0 Hs0 a da) (hN : X.N.Nodup := by assumption) (hi : X.N[i]? = some x := by rfl) (hx : Loc X.env.scope x := by first | exact Or.inl rfl | exact Or.inr rfl) (hs : noComp a = true := by rfl)
    (hf : X.fn x = true ∨ X.env.scope.names.lookup x = some .local := by first | exact Or.inl rfl | exact Or.inr rfl) : XS X H0 Hs0 (.Assign [.Name x pos'] a pos) (sSet i da) := ⟨qs_set hN hi hx ha.h (swap_no hs) hf⟩
theorem xown (i : Nat) {x : Str} {lp pos' : Pos} (ha : XA X H0 Hs0 es ra) (hN : X.N.Nodup := by assumption) (hi : X.N[i]? = some x := by rfl) (hx : Loc X.env.scope x := by first | exact Or.inl rfl | exact Or.inr rfl)
    (hf : X.fn x = true ∨ X.env.scope.names.lookup x = some .local := by first | exact Or.inl rfl | exact Or.inr rfl) : XS X H0 Hs0 (.Assign [.Name x pos'] (.List es lp) pos) (sOwn i ra) := ⟨qs_own hN hi hx ha.h (swap_no rfl) hf⟩
theorem xpar (i j : Nat) {x y : Str} {px py pt : Pos} {kt k2 pt2} (ha : XA X H0 Hs0 [a, b] ra) (hN : X.N.Nodup := by assumption) (hc : X.calm = true := by rfl) (hi : X.N[i]? = some x := by rfl) (hj : X.N[j]? = some y := by rfl) (hij : i ≠ j := by decide)
    (hx : X.env.scope.names.lookup x = some .local := by rfl) (hy : X.env.scope.names.lookup y = some .local := by rfl)
    (hw : swappedStores [.Tuple [.Name x px, .Name y py] kt pt] (.Tuple [a, b] k2 pt2) X.env = pure (some [x, y]) := by rfl) :
    XS X H0 Hs0 (.Assign [.Tuple [.Name x px, .Name y py] kt pt] (.Tuple [a, b] k2 pt2) pos) (sPar i j ra) := ⟨qs_par hc hN hi hj hij hx hy ha.h hw (swapSole_no (a := .Tuple [a, b] k2 pt2) rfl)⟩
theorem xwhile (hp : PassesOwn (model X.prog X.w) X.A X.env X.xe) (hc : XT X H0 Hs0 c ta) (hb : XB X H0 Hs0 sts d1) : XS X H0 Hs0 (.While c sts [] pos) (sWhile ta d1) := ⟨qs_while hp hc.h hb.h⟩
theorem xgn (i : Nat) {x : Str} (hN : X.N.Nodup := by assumption) (hi : X.N[i]? = some x := by rfl) (hx : Loc X.env.scope x := by first | exact Or.inl rfl | exact Or.inr rfl) (hf : X.fn x = true ∨ X.env.scope.names.lookup x = some .local := by first | exact Or.inl rfl | exact Or.inr rfl) : XG X H0 Hs0 (.Name x pos) (gN i) := ⟨qg_name hN hi hx hf⟩
theorem xseq {tg : Expr} (ha : XE X H0 Hs0 a da) : XI X H0 Hs0 tg a (itE da) := ⟨qi_seq ha.h⟩
theorem xr1 {tg : Expr} {p : Pos} (hm : X.mg "range" = none) (ha : XA X H0 Hs0 [a] ra) (hg : Gl X "range" := by rfl) (hs : noStar a = true := by rfl) : XI X H0 Hs0 tg (.Call (.Name "range" p) [a] [] pos) (itR asRange1 ra) := ⟨qi_range1 hg hm ha.h (star_cons hs)⟩
theorem xr2 {tg : Expr} {p : Pos} (hm : X.mg "range" = none) (ha : XA X H0 Hs0 [a, b] ra) (hg : Gl X "range" := by rfl) (hs : noStar a = true := by rfl) (hs2 : noStar b = true := by rfl) :
    XI X H0 Hs0 tg (.Call (.Name "range" p) [a, b] [] pos) (itR asRange2 ra) := ⟨qi_range2 hg hm ha.h (by rw [star_cons hs, star_cons hs2]; rfl) (star_cons hs2)⟩
theorem xr3 {tg : Expr} {p : Pos} (hm : X.mg "range" = none) (ha : XA X H0 Hs0 [a, b, c] ra) (hg : Gl X "range" := by rfl) (hs : noStar a = true := by rfl) (hs2 : noStar b = true := by rfl) (hs3 : noStar c = true := by rfl) :
    XI X H0 Hs0 tg (.Call (.Name "range" p) [a, b, c] [] pos) (itR asRange3 ra) := ⟨qi_range3 hg hm ha.h (by rw [star_cons hs, star_cons hs2, star_cons hs3]; rfl) (by rw [star_cons hs2, star_cons hs3]; rfl)⟩
theorem xfor {tg iter : Expr} {d : DI} {g : DG} {bb : DS} (hp : PassesOwn (model X.prog X.w) X.A X.env X.xe) (hi : XI X H0 Hs0 tg iter d) (hg : XG X H0 Hs0 tg g) (hb : XB X H0 Hs0 sts bb) (hc : X.calm = true := by rfl) (hs : noSet iter = true := by rfl) :
    XS X H0 Hs0 (.For tg iter sts [] pos) (sFor d g bb) := ⟨qs_for hp hc hi.h hg.h hb.h (fold_no hs)⟩
end
section
variable {P : Program} {w : World} {K : PySem.W.Frag} {mg : Str → Option Value} {base h : Heap}
theorem def_in {x : Str} {st : Stmt} {N ps : List Str} {k : Nat} {d : DS} (D : DefAt K x st) (KI : K.In h) (GN : h.Ns mainGlobals mg) (S : FnScope N ps (defScope st))
    (hb : ∀ (kV doc pm : Value) (an : Option Addr) (cdv ct : Value) (us : List Value), us.length = ps.length → bindArgs (PySem.W.fnOf x x (defArgs st) (defBody st) (defScope st) .none kV doc pm an cdv ct) ⟨us, []⟩ = pure (ps.zip us))
    (hbody : ∀ (f : Addr) (cdv : Value) (A : Around) (outer : List Env) (s : Shared) (H Hs : Hp) (E : XK), Room k (A.deeper (envOfC x (defScope st) s.heap.objs.size f cdv)) →
      XB (cxOf (CXG P w) P w K mg base N x (defScope st) f cdv A outer s H E).nox H Hs (defBody st) d) : FunIn P w K mg base x (k + 1) (runF ps.length N.length d) := by
  obtain ⟨f, fd, a, F⟩ := D.ex
  exact fun_in F (PySem.W.mg_of KI GN a) S hb fun cdv A outer s H Hs E hr => (hbody f cdv A outer s H Hs E hr).h
end
end G
namespace G
open PySem PySem.Spec PyProof.Rows L2
theorem law_of {P : Program} {w : World} {K : PySem.W.Frag} {mg : Str → Option Value} {h : Heap} {st : Stmt} {k : Nat} {m : List PV → Res PV} (D : DefAt K "law" st) (KI : K.In h) (GN : h.Ns mainGlobals mg)
    (hb : ∀ (kV doc pm : Value) (an : Option Addr) (cdv ct : Value) (us : List Value), us.length = (["script"] : List Str).length → bindArgs (PySem.W.fnOf "law" "law" (defArgs st) (defBody st) (defScope st) .none kV doc pm an cdv ct) ⟨us, []⟩ = pure ((["script"] : List Str).zip us))
    (all : ∀ (base : Heap) (f : Addr) (fd : FuncData), Fun K "law" "law" st f fd → FnOk P w K mg base (CXG P w) k f fd ["script"] (Fsp K 1 m)) :
    ∃ (a : Addr) (fd : FuncData), mg "law" = some (.ref a) ∧ (∀ (s : Shared) (u : Value), BindsTo s fd ⟨[u], []⟩ [("script", u)]) ∧ ∀ base : Heap, K.In base → base.Ns mainGlobals mg → FnOk P w K mg base (CXG P w) k a fd ["script"] (Fsp K 1 m) := by
  obtain ⟨f, fd, a, F⟩ := D.ex
  have hm := PySem.W.mg_of KI GN a
  have F0 := F
  obtain ⟨oc, od, kV, doc, pm, an, cdv, ct, osl, rfl, lk, hcd⟩ := F.ex
  exact ⟨f, _, hm, fun s u => .of_eq (hb kV doc pm an cdv ct [u] rfl), fun base _ _ => all base f _ F0⟩
theorem law_in {P : Program} {w : World} {K : PySem.W.Frag} {mg : Str → Option Value} {base : Heap} {st : Stmt} {f : Addr} {fd : FuncData} {N : List Str} {k : Nat} {d : DS} (F : Fun K "law" "law" st f fd) (S : FnScope N ["script"] (defScope st))
    (hbody : ∀ (cdv : Value) (A : Around) (outer : List Env) (s : Shared) (H Hs : Hp) (E : XK), Room k (A.deeper (envOfC "law" (defScope st) s.heap.objs.size f cdv)) →
      XB (cxOf (CXG P w) P w K mg base N "law" (defScope st) f cdv A outer s H E).nox H Hs (defBody st) d) : FnOk P w K mg base (CXG P w) (k + 1) f fd ["script"] (Fsp K 1 (runF 1 N.length d)) :=
  fn_ok F S fun cdv A outer s H Hs E hr => (hbody cdv A outer s H Hs E hr).h
end G
set_option Elab.async false
set_option linter.all false
set_option maxRecDepth 100000
set_option maxHeartbeats 2000000
namespace G
open PySem PySem.Spec PyProof.Rows L2

/-! ### the cells that a comprehension takes along -/
def closL (cells : List (Str × Addr)) : List (Str × NameKind) → List (Str × Addr) → Option (List (Str × Addr))
  | [], acc => some acc
  | (n, k) :: r, acc => if k = .free then (match cells.lookup n with
      | some a => closL cells r ((n, a) :: acc)
      | none => none) else closL cells r acc
theorem clos_loop {env : Env} : ∀ (names : List (Str × NameKind)) (acc cl : List (Str × Addr)), closL env.cells names acc = some cl →
    (forIn names acc fun x r => (match x with | (name, kind) => if (kind == NameKind.free) = true then do let a ← cellOf env name; pure (ForInStep.yield ((name, a) :: r)) else pure (ForInStep.yield r) : Sem (ForInStep (List (Str × Addr))))) = pure cl
  | [], acc, cl, h => by
    have : acc = cl := Option.some.inj h
    subst this
    rfl
  | (n, k) :: r, acc, cl, h => by
    rw [List.forIn_cons]
    unfold closL at h
    by_cases hk : k = .free
    · subst hk
      rw [if_pos rfl] at h
      split at h
      · rename_i a ha
        have ih := clos_loop r ((n, a) :: acc) cl h
        simp only [beq_self_eq_true, if_true, cellOf, ha, pure_bind]
        exact ih
      · cases h
    · rw [if_neg hk] at h
      have hk' : (k == NameKind.free) = false := by simpa using hk
      have ih := clos_loop r acc cl h
      simp only [hk', Bool.false_eq_true, if_false, pure_bind]
      exact ih
theorem clos_for {env : Env} {scope : Scope} {cl : List (Str × Addr)} (h : closL env.cells scope.names [] = some cl) : closureFor scope env = pure cl := by
  unfold closureFor
  have := clos_loop (env := env) scope.names [] cl h
  exact (congrArg (fun t => t >>= fun cs => pure cs) this).trans (by rfl)
theorem clos_sub {cells : List (Str × Addr)} : ∀ (names : List (Str × NameKind)) (acc cl : List (Str × Addr)), (∀ x c, acc.lookup x = some c → cells.lookup x = some c) → closL cells names acc = some cl → ∀ x c, cl.lookup x = some c → cells.lookup x = some c
  | [], acc, cl, ha, h, x, c, e => by
    have : acc = cl := Option.some.inj h
    subst this
    exact ha x c e
  | (n, k) :: r, acc, cl, ha, h, x, c, e => by
    unfold closL at h
    split at h
    · split at h
      · rename_i a hn
        refine clos_sub r _ cl (fun y d hy => ?_) h x c e
        rw [List.lookup_cons] at hy
        split at hy
        · rename_i hb
          have : y = n := by simpa using hb
          subst this
          cases hy
          exact hn
        · exact ha y d hy
      · cases h
    · exact clos_sub r acc cl ha h x c e
end G
set_option Elab.async false
set_option linter.all false
set_option maxRecDepth 100000
set_option maxHeartbeats 4000000
namespace G
open PySem PySem.Spec PyProof.Rows L2

/-- the context of a comprehension's block -/
@[reducible] def cxC (X : Cx) (pins : List (Addr × Obj)) (scope : Scope) (cl : List (Str × Addr)) (C : Addr) (N : List Str) (fp : List Addr) (s : Shared) (H : Hp) : Cx :=
  { X with env := compEnvC scope cl C X.env, N := N, s₀ := s, H₀ := H, outer := X.stack, stack := X.stack, ex := fp, fn := fun _ => false, pn := X.pn ++ pins, xe := fun _ _ => False }

/-- what the block sees of the slots around: k slots of its own, then those at ix -/
def inn (k : Nat) (ix : List Nat) (σ : PSt) : PSt := List.replicate k none ++ ix.map fun i => match σ[i]? with
  | some (some (.sh p)) => some (.sh p)
  | _ => none
def innV (k : Nat) (ix : List Nat) (τ : L2.St) : L2.St := List.replicate k none ++ ix.map fun i => (τ[i]?).join
theorem repl_none {α : Type} {k j : Nat} {x : α} (h : (List.replicate k (none : Option α))[j]? = some (some x)) : False := by
  rw [List.getElem?_replicate] at h
  split at h <;> cases h
theorem inn_get {k : Nat} {ix : List Nat} {σ : PSt} {j : Nat} {sv : SV} (h : (inn k ix σ)[j]? = some (some sv)) : ∃ i p, k ≤ j ∧ ix[j - k]? = some i ∧ σ[i]? = some (some (.sh p)) ∧ sv = .sh p := by
  unfold inn at h
  by_cases hj : j < k
  · rw [List.getElem?_append_left (by simpa using hj)] at h
    exact (repl_none h).elim
  · rw [List.getElem?_append_right (by simpa using hj), List.length_replicate, List.getElem?_map] at h
    cases e : ix[j - k]? with
    | none => rw [e] at h; cases h
    | some i =>
      rw [e] at h
      have h' : (match σ[i]? with
        | some (some (.sh p)) => some (.sh p)
        | _ => none) = some sv := Option.some.inj h
      split at h'
      · rename_i p ep
        cases h'
        exact ⟨i, p, by omega, rfl, ep, rfl⟩
      · cases h'
theorem innV_at {k : Nat} {ix : List Nat} {τ : L2.St} {j i : Nat} {v : V} (hj : k ≤ j) (e : ix[j - k]? = some i) (h : τ[i]? = some (some v)) : (innV k ix τ)[j]? = some (some v) := by
  unfold innV
  rw [List.getElem?_append_right (by simpa using hj), List.length_replicate, List.getElem?_map, e]
  show some ((τ[i]?).join) = _
  rw [h]; rfl
theorem innV_get {k : Nat} {ix : List Nat} {τ : L2.St} {j : Nat} {v : V} (h : (innV k ix τ)[j]? = some (some v)) : ∃ i, k ≤ j ∧ ix[j - k]? = some i ∧ τ[i]? = some (some v) := by
  unfold innV at h
  by_cases hj : j < k
  · rw [List.getElem?_append_left (by simpa using hj)] at h
    exact (repl_none h).elim
  · rw [List.getElem?_append_right (by simpa using hj), List.length_replicate, List.getElem?_map] at h
    cases e : ix[j - k]? with
    | none => rw [e] at h; cases h
    | some i =>
      rw [e] at h
      have h' : (τ[i]?).join = some v := Option.some.inj h
      refine ⟨i, by omega, rfl, ?_⟩
      cases q : τ[i]? with
      | none => rw [q] at h'; cases h'
      | some z => rw [q] at h'; exact congrArg some h'
theorem SR.inn {K : PySem.W.Frag} {H0 Hs0 Hs H : Hp} {σ : PSt} {τ : L2.St} (S : SR K H0 Hs0 Hs H σ τ) (k : Nat) (ix : List Nat) : SR K H Hs Hs H (G.inn k ix σ) (innV k ix τ) := by
  refine ⟨.refl S.g.i, fun j sv e => ?_, fun j l xs ys a _ e1 => ?_, by simp [G.inn, innV]⟩
  · obtain ⟨i, p, hj, e1, e2, rfl⟩ := inn_get e
    obtain ⟨v, e3, r⟩ := S.slot i _ e2
    exact ⟨v, innV_at hj e1 e3, r⟩
  · obtain ⟨_, _, _, _, _, z⟩ := inn_get e1
    cases z

/-- what the scope of a comprehension must show -/
structure CompOk (X : Cx) (scope : Scope) (cl : List (Str × Addr)) (N : List Str) (k : Nat) (ix : List Nat) : Prop where
  kind : scope.kind = .function
  nocell : ∀ y ∈ scope.names, y.2 ≠ .cell
  names : ∀ y ∈ scope.names, y.2 = .local → scope.names.lookup y.1 = some .local
  clos : closL X.env.cells scope.names [] = some cl
  has : ∀ x, ((relabel scope X.env).names.lookup x = some .cell ∨ (relabel scope X.env).names.lookup x = some .free) → ∃ c, cl.lookup x = some c
  nd : N.Nodup
  len : N.length = k + ix.length
  at' : ∀ (j i : Nat) (x : Str), ix[j]? = some i → N[k + j]? = some x → X.N[i]? = some x ∧ X.env.kindOf x = some .cell ∧ ((relabel scope X.env).names.lookup x = some .cell ∨ (relabel scope X.env).names.lookup x = some .free)

section
variable {X : Cx} {pins : List (Addr × Obj)} {H0 Hs0 Hs H : Hp} {σ : PSt} {τ : L2.St} {s : Shared}
theorem stk_sub (I : Inv X pins τ H s) {p : Addr} (h1 : p ≠ X.env.locals) (h2 : p ∉ X.fs) : p ∉ frs X.stack := fun h => (List.mem_cons.mp (I.stkSub p h)).elim h1 h2
/-- the block is entered: s is the state behind the new list, s4 the one behind the block's own dict -/
theorem inv_comp {scope : Scope} {cl : List (Str × Addr)} {N : List Str} {k : Nat} {ix : List Nat} {fp : List Addr} {h4 : Heap} {t4 : Nat} (I : Inv X pins τ H s) (O : CompOk X scope cl N k ix) (hcalm : X.calm = true)
    (hfp : ∀ b ∈ fp, FpOk X pins H b) (hfl : ∀ b ∈ fp, b < s.heap.objs.size) (hns : h4.Ns s.heap.objs.size (fun _ => none)) (hk : ∀ b o, s.heap.get? b = some o → h4.get? b = some o) :
    Inv (cxC X pins scope cl s.heap.objs.size N fp s H) [] (innV k ix τ) H { s with heap := h4, toks := t4 } := by
  have sub := clos_sub (cells := X.env.cells) scope.names [] cl (fun x c e => by cases e) O.clos
  have lt : ∀ {b : Addr} {o : Obj}, s.heap.get? b = some o → b ≠ s.heap.objs.size := fun e => Nat.ne_of_lt (Heap.lt_size e)
  have celln : ∀ x c, cl.lookup x = some c → c ≠ s.heap.objs.size := fun x c e => by
    obtain ⟨v, o, ho, _⟩ := I.cell x c (sub x c e)
    exact lt ho
  refine ⟨⟨I.ok.mod, ?_, I.ok.glob, I.ok.blt, Nat.le_refl _, fun x y c e1 e2 => I.ok.inj x y c (sub x c e1) (sub y c e2), fun x hx => O.has x hx, fun x c hf => ?_, I.ok.hd, I.ok.frames, .inl rfl, fun b hb => ⟨?_, fun x c e => (hfp b hb).2.2.2.2.1 x c (sub x c e)⟩, I.bs, Nat.le_trans I.ok.bsz I.sz, fun b o e hb => ?_, fun b hb => stk_sub I (hfp b hb).2.1 (hfp b hb).2.2.1, I.stack, I.stkFree⟩,
    rfl, I.bare, Un.kept hk, ⟨_, hns, fun j x v e1 e2 e3 => ?_⟩, fun x c e => ?_, I.hok.fresh (Nat.le_refl _), fun x c e => I.freeC x c (sub x c e), fun p hp => ?_, I.hok.kept hk, ?_⟩
  · show (relabel scope X.env).kind = .function
    exact O.kind
  · cases hf
  · exact Nat.ne_of_lt (hfl b hb)
  · have e' := I.bs b o e
    obtain ⟨f0, f1, f2, f3, _⟩ := hfp b hb
    rcases f3 with z | z
    · exact I.ok.noex b o e z
    · have := (I.ok.bs b o e).1
      exact absurd (Nat.lt_of_lt_of_le (Heap.lt_size this) z) (Nat.lt_irrefl _)
  · obtain ⟨i, hj, ei, eτ⟩ := innV_get e2
    have ex : N[k + (j - k)]? = some x := by rw [show k + (j - k) = j by omega]; exact e1
    obtain ⟨a1, a2, a3⟩ := O.at' (j - k) i x ei ex
    obtain ⟨m, hn, hl⟩ := I.loc
    obtain ⟨u, r, l⟩ := hl i x v a1 eτ (.inr (.inl a2))
    refine ⟨u, r, ?_⟩
    rcases l with ⟨q, _⟩ | ⟨q, c, ec, z⟩
    · rw [a2] at q; cases q
    · obtain ⟨c', ec'⟩ := O.has x a3
      have : c' = c := Option.some.inj ((sub x c' ec').symm.trans ec)
      subst this
      obtain ⟨o, ho, hd⟩ := z
      exact .inr ⟨a3, c', ec', o, hk _ _ ho, hd⟩
  · obtain ⟨v, o, ho, hd⟩ := I.cell x c (sub x c e)
    exact ⟨v, o, hk _ _ ho, hd⟩
  · have hp' : p ∈ X.pn ++ pins := by simpa [cxC] using hp
    obtain ⟨e, n, ne, nf, d⟩ := I.pin p hp'
    exact ⟨hk _ _ e, n, lt e, stk_sub I ne nf, d⟩
  · show (innV k ix τ).length = N.length
    rw [O.len]; simp [innV]
end
end G
set_option Elab.async false
set_option linter.all false
set_option maxRecDepth 100000
set_option maxHeartbeats 4000000
namespace G
open PySem PySem.Spec PyProof.Rows L2
theorem SR.weak {K : PySem.W.Frag} {H0 Hs0 Hs H : Hp} {σ σ' : PSt} {τ : L2.St} (S : SR K H0 Hs0 Hs H σ τ) (w : ∀ (j : Nat) (sv : SV), σ'[j]? = some (some sv) → σ[j]? = some (some sv)) (hl : σ'.length = σ.length) : SR K H0 Hs0 Hs H σ' τ :=
  ⟨S.g, fun j sv e => S.slot j sv (w j sv e), fun i j xs ys a hij e1 e2 => S.inj i j xs ys a hij (w i _ e1) (w j _ e2), hl.trans S.len⟩
theorem SR.hid {K : PySem.W.Frag} {H0 Hs0 Hs H : Hp} {σ : PSt} {τ : L2.St} {D : Addr} {o : HO} (S : SR K H0 Hs0 Hs H σ τ) (h1 : Hs D = none) (h2 : H0 D = none) (no : ∀ (i : Nat) (xs : List PV), σ[i]? ≠ some (some (.own xs))) : SR K H0 Hs0 Hs (upd H D o) σ τ := by
  have sm : ∀ {b : Addr}, b ≠ D → upd H D o b = H b := fun h => upd_ne h
  refine ⟨⟨S.g.s, fun b u h => ?_, fun b u h => ?_, S.g.o⟩, fun j sv e => ?_, S.inj, S.len⟩
  · rw [sm (ne_of_none h h1)]; exact S.g.i b u h
  · rw [sm (ne_of_none h h2)]; exact S.g.h b u h
  · obtain ⟨v, e1, r⟩ := S.slot j sv e
    cases sv with
    | sh p => exact ⟨v, e1, r⟩
    | own xs => exact absurd e (no j xs)
theorem inn_no {k : Nat} {ix : List Nat} {σ : PSt} (i : Nat) (xs : List PV) : (inn k ix σ)[i]? ≠ some (some (.own xs)) := fun h => by
  obtain ⟨_, _, _, _, _, z⟩ := inn_get h
  cases z
theorem SR.base' {K : PySem.W.Frag} {A B H0 Hs0 Hs H : Hp} {σ : PSt} {τ : L2.St} (S : SR K A B Hs H σ τ) (no : ∀ (i : Nat) (xs : List PV), σ[i]? ≠ some (some (.own xs))) (g : Grow Hs0 H0 Hs H) : SR K H0 Hs0 Hs H σ τ :=
  ⟨g, fun j sv e => by
    obtain ⟨v, e1, r⟩ := S.slot j sv e
    cases sv with
    | sh p => exact ⟨v, e1, r⟩
    | own xs => exact absurd e (no j xs), fun i j xs ys a _ e1 => absurd e1 (no i xs), S.len⟩
theorem noErr_ok {r : Res PV} {q : PV} (h : noErr r = .ok q) : r = .ok q := by
  cases r with
  | ok p => exact h
  | err c => cases h
  | stuck => cases h
def mapR (f : PV → Res PV) : List PV → Res (List PV)
  | [] => .ok []
  | p :: ps => (f p).bind fun q => (mapR f ps).bind fun qs => .ok (q :: qs)
def turnF (g : DG) (de : DE) (σ0 : PSt) (p : PV) : Res PV := match g p σ0 with
  | .ok σ1 => noErr (de σ1)
  | _ => .stuck
/-- the values of a block -/
def cVal (d : DI) (g : DG) (de : DE) (k : Nat) (ix : List Nat) : PSt → Res (List PV) := fun σ => (d σ).bind fun ps => match mapR (turnF g de (inn k ix σ)) ps with
  | .ok qs => if qs.length ≤ 10000000 then .ok qs else .stuck
  | _ => .stuck
def eComp (d : DI) (g : DG) (de : DE) (k : Nat) (ix : List Nat) : DE := fun σ => (cVal d g de k ix σ).bind fun qs => .ok (.lst qs)
def sComp (i : Nat) (d : DI) (g : DG) (de : DE) (k : Nat) (ix : List Nat) : DS := fun σ => (cVal d g de k ix σ).bind fun qs => .ok (.next (σ.set i (some (.sh (.lst qs)))))
def sCompO (i : Nat) (d : DI) (g : DG) (de : DE) (k : Nat) (ix : List Nat) : DS := fun σ => (cVal d g de k ix σ).bind fun qs => .ok (.next (σ.set i (some (.own qs))))
theorem mapR_len {f : PV → Res PV} : ∀ {ps qs : List PV}, mapR f ps = .ok qs → qs.length = ps.length
  | [], qs, h => by cases h; rfl
  | p :: ps, qs, h => by
    unfold mapR at h
    cases e : f p with
    | ok q =>
      rw [e] at h
      simp only [Res.bind_ok] at h
      cases e2 : mapR f ps with
      | ok rs =>
        rw [e2] at h
        cases h
        rw [List.length_cons, List.length_cons, mapR_len e2]
      | err c => rw [e2] at h; cases h
      | stuck => rw [e2] at h; cases h
    | err c => rw [e] at h; cases h
    | stuck => rw [e] at h; cases h
/-- turn by turn -/
theorem mapR_at {f : PV → Res PV} : ∀ {ps qs : List PV}, mapR f ps = .ok qs → ∀ (i : Nat) (p : PV), ps[i]? = some p → ∃ q, qs[i]? = some q ∧ f p = .ok q
  | [], qs, h, i, p, e => by simp at e
  | p0 :: ps, qs, h, i, p, e => by
    unfold mapR at h
    cases e1 : f p0 with
    | ok q =>
      rw [e1] at h
      simp only [Res.bind_ok] at h
      cases e2 : mapR f ps with
      | ok rs =>
        rw [e2] at h
        cases h
        cases i with
        | zero => simp at e; subst e; exact ⟨q, rfl, e1⟩
        | succ i =>
          obtain ⟨q', h1, h2⟩ := mapR_at e2 i p (by simpa using e)
          exact ⟨q', by simpa using h1, h2⟩
      | err c => rw [e2] at h; cases h
      | stuck => rw [e2] at h; cases h
    | err c => rw [e1] at h; cases h
    | stuck => rw [e1] at h; cases h
section
variable {X : Cx} {pins : List (Addr × Obj)} {H0 Hs0 : Hp} {σ : PSt} {τ : L2.St} {tg elt iter : Expr} {scope : Scope} {pos : Pos} {cl : List (Str × Addr)} {N : List Str} {k : Nat} {ix : List Nat} {g : DG} {de : DE}
/-- the loop of a block, from the state behind the new list (D) and the block's dict (C) on -/
theorem comp_run {Hs2 H2 : Hp} {s2 : Shared} {it : Addr} {fp : List Addr} {tn : Nat → Heap → Prop} {J : It} {ps qs : List PV} {h4 : Heap} {t4 : Nat} {RR : Result → Shared → Prop}
    (I2 : Inv X pins τ H2 s2) (S2 : SR X.K H0 Hs0 Hs2 H2 σ τ) (O : CompOk X scope cl N k ix) (hcalm : X.calm = true) (T : Turn X.prog X.w X.K tg J fp it tn) (st : tn 0 s2.heap) (fpok : ∀ b ∈ fp, FpOk X pins H2 b) (jok : JOk X.K J Hs2 ps)
    (hg : ∀ (C : Addr) (s : Shared) (H A B : Hp), QG (cxC X pins scope cl C N fp s H) A B tg g)
    (he : ∀ (C : Addr) (s : Shared) (H A B : Hp), QE (cxC X pins scope cl C N fp s H) A B elt de)
    (gk : ∀ p σ1, g p (inn k ix σ) = .ok σ1 → (∀ (j : Nat) (sv : SV), (inn k ix σ)[j]? = some (some sv) → σ1[j]? = some (some sv)) ∧ σ1.length = (inn k ix σ).length)
    (hm : mapR (turnF g de (inn k ix σ)) ps = .ok qs) (hl : qs.length ≤ 10000000)
    (hns : h4.Ns (s2.heap.objs.size + 1) (fun _ => none)) (hsb : ∀ b o, (s2.heap.push { cls := .type "list", data := .seq ([] : List Value).toArray }).get? b = some o → h4.get? b = some o)
    (hR : ∀ (s' : Shared) (Hs' H' : Hp) (vs : List V) (m : Str → Option Value), Inv X pins τ H' s' → SR X.K H0 Hs0 Hs' H' σ τ → Same Hs2 Hs' → Grow Hs2 H2 Hs' H' → H' s2.heap.objs.size = some (.lst vs) → Hs' s2.heap.objs.size = none → H2 s2.heap.objs.size = none → Reps X.K Hs' vs qs → s'.heap.Ns (s2.heap.objs.size + 1) m →
      H' (s2.heap.objs.size + 1) = none → RR (.ok .next) s') :
    codeAny (model X.prog X.w) X.A (.compStart (.ListComp elt [⟨tg, iter, [], 0⟩] scope pos) 0 (.ref it) (.ref s2.heap.objs.size) (compEnvC scope cl (s2.heap.objs.size + 1) X.env)) RR { s2 with heap := h4, toks := t4 } := by
  have hD : H2 s2.heap.objs.size = none := I2.hok.fresh (Nat.le_refl _)
  have hDs : Hs2 s2.heap.objs.size = none := S2.g.i.free hD
  -- the state behind the new list
  have I3 : Inv X pins τ (upd H2 s2.heap.objs.size (.lst [])) { s2 with heap := s2.heap.push { cls := .type "list", data := .seq ([] : List Value).toArray } } := I2.lnew (its := []) (ys := []) (t' := s2.toks) .nil (by show 0 ≤ sizeLine; exact Nat.zero_le _)
  have hsz : (s2.heap.push { cls := .type "list", data := .seq ([] : List Value).toArray }).objs.size = s2.heap.objs.size + 1 := Heap.size_push ..
  have fpl : ∀ b ∈ fp, ∃ o, s2.heap.get? b = some o := fun b hb => by obtain ⟨o, e, _⟩ := T.obj _ _ st b hb; exact ⟨o, e⟩
  have fpD : ∀ b ∈ fp, b ≠ s2.heap.objs.size := fun b hb => by obtain ⟨o, e⟩ := fpl b hb; exact Nat.ne_of_lt (Heap.lt_size e)
  have fpok3 : ∀ b ∈ fp, FpOk X pins (upd H2 s2.heap.objs.size (.lst [])) b := fun b hb => ⟨by rw [upd_ne (fpD b hb)]; exact (fpok b hb).1, (fpok b hb).2⟩
  have I4 := inv_comp (h4 := h4) (t4 := t4) (fp := fp) I3 O hcalm fpok3 (fun b hb => by obtain ⟨o, e⟩ := fpl b hb; exact Nat.lt_trans (Heap.lt_size e) (by rw [hsz]; exact Nat.lt_succ_self _)) (by rw [hsz]; exact hns) hsb
  rw [hsz] at I4
  generalize hX : cxC X pins scope cl (s2.heap.objs.size + 1) N fp { s2 with heap := s2.heap.push { cls := .type "list", data := .seq ([] : List Value).toArray } } (upd H2 s2.heap.objs.size (.lst [])) = X' at I4
  have eA : X'.A = X.A := by rw [← hX]
  have eP : X'.prog = X.prog := by rw [← hX]
  have ew : X'.w = X.w := by rw [← hX]
  have eK : X'.K = X.K := by rw [← hX]
  have eE : X'.env = compEnvC scope cl (s2.heap.objs.size + 1) X.env := by rw [← hX]
  have exe : X'.xe = fun _ _ => False := by rw [← hX]
  have ecalm : X'.calm = true := by rw [← hX]; exact hcalm
  have emg : X'.mg = X.mg := by rw [← hX]
  have ebase : X'.base = X.base := by rw [← hX]
  have eN : X'.N = N := by rw [← hX]
  have stat : ∀ {H' : Hp}, (∀ b ∈ fp, H' b = none) → ∀ b ∈ fp, FpOk X' [] H' b := fun {H'} hn b hb => by
    obtain ⟨f0, f1, f2, f3, f4, f5⟩ := fpok b hb
    have sub := clos_sub (cells := X.env.cells) scope.names [] cl (fun x c e => by cases e) O.clos
    obtain ⟨o, e⟩ := fpl b hb
    refine ⟨hn b hb, ?_, ?_, ?_, fun x c ec => ?_, fun p hp => ?_⟩
    · rw [eE]; exact Nat.ne_of_lt (Nat.lt_succ_of_lt (Heap.lt_size e))
    · have : X'.fs = frs X.stack := by rw [← hX]
      rw [this]; exact stk_sub I2 f1 f2
    · exact .inl (by rw [← hX]; exact hb)
    · rw [eE] at ec; exact f4 x c (sub x c ec)
    · have : p ∈ X.pn ++ pins := by rw [← hX] at hp; simpa [cxC] using hp
      exact f5 p this
  have st4 : tn 0 h4 := T.keep _ _ _ st fun b hb o e => hsb _ _ (Heap.get?_push_of_some _ e)
  have S4 : SR X.K H2 Hs2 Hs2 (upd H2 s2.heap.objs.size (.lst [])) (inn k ix σ) (innV k ix τ) := (S2.inn k ix).hid hDs hD (fun i xs => inn_no i xs)
  have hlen := mapR_len hm
  have loop : ∀ s5 : Shared, s5 = { s2 with heap := h4, toks := t4 } → codeAny (model X.prog X.w) X.A (.compLoop (.ListComp elt [⟨tg, iter, [], 0⟩] scope pos) 0 (.ref it) (.ref s2.heap.objs.size) (compEnvC scope cl (s2.heap.objs.size + 1) X.env)) RR s5 := by
    intro s5 hs5
    refine codeAny_loop rfl (fun n s' => ∃ i τ' Hs' H' vs, n + i = ps.length ∧ Inv X' [] τ' H' s' ∧ tn i s'.heap ∧ (∀ b ∈ fp, H' b = none) ∧ SR X.K H2 Hs2 Hs' H' (inn k ix σ) τ' ∧ H' s2.heap.objs.size = some (.lst vs) ∧ Hs' s2.heap.objs.size = none ∧ Reps X.K Hs' vs (qs.take i)) ?_ ps.length
      ⟨0, innV k ix τ, Hs2, _, [], rfl, hs5 ▸ I4, hs5 ▸ st4, fun b hb => by rw [upd_ne (fpD b hb)]; exact (fpok b hb).1, S4, upd_same, hDs, .nil⟩
    rintro n s6 ⟨i, τ6, Hs6, H6, vs, hni, I6, st6, fr6, S6, hD6, hDs6, R6⟩
    show wpAny _ _ ((compTurn (.ListComp elt [⟨tg, iter, [], 0⟩] scope pos) 0 (.ref it) (.ref s2.heap.objs.size) (compEnvC scope cl (s2.heap.objs.size + 1) X.env)).onRaise (fun x => do noteFrame x (compEnvC scope cl (s2.heap.objs.size + 1) X.env); theTreesLotGoes x)) _ _ s6
    refine wpAny_noted ?_
    rw [compTurn_list1]
    refine wpAny_bind (wpAny_standAt ?_)
    refine wpAny_noRaise ?_
    obtain ⟨j1, j2⟩ := jok i H6 Hs6 S6.g.s S6.g.i
    change wpAny (model X.prog X.w) X.A _ _ _ s6
    by_cases hlt : i < ps.length
    · obtain ⟨go, yl⟩ := j1 hlt
      have hp' : ps[i]? = some ps[i] := List.getElem?_eq_getElem hlt
      obtain ⟨q, hq, hf⟩ := mapR_at hm i ps[i] hp'
      have TI := T.item X' eP ew eK ecalm i [] s6 τ6 H6 (fun _ _ => False) I6 (stat fr6) st6 go
      rw [eA] at TI
      refine wpAny_bind (thn TI fun r s7 ⟨u, hr, h7⟩ => ?_)
      subst hr
      refine wpAny_bind (thn h7 fun _ s8 ⟨x, H8, I8, r8, y8, st8, fr8⟩ => ?_)
      obtain ⟨rfl, p, ep, rp⟩ := yl x H8 y8
      have ep' : ps[i] = p := by rw [hp'] at ep; exact Option.some.inj ep
      subst ep'
      have I8' := I8.pinned (stat fr8) (T.obj _ _ st8)
      unfold turnF at hf
      have hg' : QG X' H8 Hs6 tg g := hX ▸ hg _ _ _ H8 Hs6
      have he' : QE X' H8 Hs6 elt de := hX ▸ he _ _ _ H8 Hs6
      have S8 : SR X.K H8 Hs6 Hs6 H8 (inn k ix σ) τ6 := S6.base' (fun i xs => inn_no i xs) (.refl S6.g.i)
      cases eg : g ps[i] (inn k ix σ) with
      | ok σ1 =>
        rw [eg] at hf
        have hf : noErr (de σ1) = .ok q := hf
        obtain ⟨w1, w2⟩ := gk _ _ eg
        have hgr := hg' _ s8 τ6 H8 x u (fun τ9 H9 => ∃ Hs9, SR X.K H8 Hs6 Hs9 H9 σ1 τ9) I8' r8 ⟨Hs6, inn k ix σ, ps[i], eK ▸ S8, eK ▸ (rp.mono S6.g.s), by
          rw [eg]
          exact fun Hs' H' τ' e S' => ⟨Hs', eK ▸ S'⟩⟩
        rw [eP, ew, eA, eE, exe] at hgr
        refine wpAny_bind (thn hgr fun _ s9 ⟨τ9, H9, I9, Hs9, S9⟩ => ?_)
        have her := he' _ s9 τ9 H9 (fun y H10 => ∃ Hs10, Grow Hs9 H9 Hs10 H10 ∧ Rep X.K Hs10 y q) I9 ⟨Hs9, σ1, eK ▸ S9, by
          rw [noErr_ok hf]
          exact fun v Hs' H' g' r' => ⟨Hs', g', eK ▸ r'⟩⟩
        rw [eP, ew, eA, eE, exe] at her
        refine wpAny_bind (wpAny_bind (thn her fun y s10 ⟨y', H10, I10, ry, Hs10, g10, rq⟩ => ?_))
        have g6 : Grow Hs6 H8 Hs10 H10 := S9.g.trans g10
        have hD10 : H10 s2.heap.objs.size = some (.lst vs) := g6.h _ _ hD6
        have hDs10 : Hs10 s2.heap.objs.size = none := g6.o _ (by rw [hD6]; exact fun z => by cases z) hDs6
        have hvl : vs.length < sizeLine := by
          rw [R6.length, sizeLine_eq, List.length_take]
          omega
        have hap := mt_append (X := X') _ s10 τ9 H10 (.ref s2.heap.objs.size) [y'] (.ref s2.heap.objs.size) [y] (fun _ H' => H' = upd H10 s2.heap.objs.size (.lst (vs ++ [y']))) I10 rfl (.cons ry .nil) ⟨_, vs, y', rfl, rfl, hD10, hvl, rfl⟩
        rw [eP, ew, eA, exe] at hap
        refine wpAny_bind (thn hap fun _ s11 ⟨_, H11, I11, _, eH⟩ => wpAny_pure (wpAny_pure ⟨rfl, n - 1, by omega, i + 1, τ9, Hs10, H11, vs ++ [y'], by omega, I11.unpinned, ?_, ?_, ?_, ?_, hDs10, ?_⟩))
        · exact T.keep _ _ _ st8 fun b hb o e => (I11.pin (b, o) (List.mem_append_right _ (List.mem_append_right _ (mem_pinsAt hb e)))).1
        · intro b hb
          obtain ⟨o, e, _⟩ := T.obj _ _ st8 b hb
          exact (I11.pin (b, o) (List.mem_append_right _ (List.mem_append_right _ (mem_pinsAt hb e)))).2.1
        · subst eH
          exact (((S9.weak w1 w2.symm).grow g10).base' (fun i xs => inn_no i xs) (S6.g.trans g6)).hid hDs10 hD (fun i xs => inn_no i xs)
        · subst eH; exact upd_same
        · rw [List.take_add_one, hq]
          exact (R6.mono g6.s).append (.cons rq .nil)
      | err c => rw [eg] at hf; cases hf
      | stuck => rw [eg] at hf; cases hf
    · have TD := T.done X' eP ew eK ecalm i [] s6 τ6 H6 (fun _ _ => False) I6 (stat fr6) st6 (j2 (by omega))
      rw [eA] at TD
      refine wpAny_bind (thn TD fun r s7 ⟨hr, I7⟩ => ?_)
      subst hr
      refine wpAny_pure ?_
      have hfull : qs.take i = qs := List.take_of_length_le (by omega)
      rw [hfull] at R6
      obtain ⟨m, hm7, _⟩ := I7.loc
      have hfree := I7.free
      have hos := I7.os
      have hun := I7.base
      have hok := I7.hok
      rw [eE] at hm7 hfree
      rw [eP, ew] at hok
      rw [← hX] at hos hun
      have I9 : Inv X pins τ H6 s7 := I3.call' (ch := fp) hos hun hok I7.bare fun b hb => by
        obtain ⟨f0, f1, f2, f3, f4, f5⟩ := fpok b hb
        exact ⟨f3, f1, f4, f5⟩
      exact hR s7 Hs6 H6 vs m I9 (S2.grow S6.g) S6.g.s S6.g hD6 hDs6 hD R6 hm7 hfree
  exact codeAny_compStart_list (loop _ rfl) (T.self _ _ _ _ _ st4 (loop _ rfl))
end
end G
set_option Elab.async false
set_option linter.all false
set_option maxRecDepth 100000
set_option maxHeartbeats 4000000
namespace G
open PySem PySem.Spec PyProof.Rows L2
section
variable {X : Cx} {pins : List (Addr × Obj)} {H0 Hs0 : Hp} {σ : PSt} {τ : L2.St} {tg elt iter : Expr} {scope : Scope} {pos : Pos} {cl : List (Str × Addr)} {N : List Str} {k : Nat} {ix : List Nat} {g : DG} {de : DE} {d : DI}
/-- an object outside of all tracked ones has changed -/
theorem inv_off {H : Hp} {s : Shared} {C : Addr} {h' : Heap} (I : Inv X pins τ H s) (f : FpOk X pins H C) (sb : Heap.SameBut C s.heap h') : Inv X pins τ H { s with heap := h' } := by
  obtain ⟨f0, f1, f2, f3, f4, f5⟩ := f
  have k : ∀ b u, b ≠ C → s.heap.get? b = some u → h'.get? b = some u := fun b u hb e => (sb.2 b hb).trans e
  refine I.call' (ch := [C]) rfl ⟨fun b o e _ _ hc => k b o (by simpa using hc) e, fun b o e _ _ hc => ⟨o.slots, k b o (by simpa using hc) e⟩, fun _ _ _ n _ => n, fun b o e hc => ⟨o, k b o (by simpa using hc) e⟩, fun _ _ q => q, fun _ _ _ q => q, fun _ ps q => ⟨#[], by rw [q]; simp⟩⟩ (fun a o e => ?_) I.bare fun b hb => ?_
  · refine (I.hok a o e).stay (fun b u hb q => k b u (fun z => ?_) q) (fun _ q => q) fun _ _ q => q
    subst z
    rcases hb with rfl | hb
    · rw [e] at f0; cases f0
    · rw [hb] at f0; cases f0
  · have : b = C := by simpa using hb
    subst this
    exact ⟨f3, f1, f4, f5⟩
/-- what the parts of a block show -/
structure BlkOk (X : Cx) (tg elt : Expr) (scope : Scope) (cl : List (Str × Addr)) (N : List Str) (k : Nat) (ix : List Nat) (g : DG) (de : DE) : Prop where
  O : CompOk X scope cl N k ix
  calm : X.calm = true
  hg : ∀ (pins : List (Addr × Obj)) (fp : List Addr) (C : Addr) (s : Shared) (H A B : Hp), QG (cxC X pins scope cl C N fp s H) A B tg g
  he : ∀ (pins : List (Addr × Obj)) (fp : List Addr) (C : Addr) (s : Shared) (H A B : Hp), QE (cxC X pins scope cl C N fp s H) A B elt de
  gk : ∀ σ p σ1, g p (inn k ix σ) = .ok σ1 → (∀ (j : Nat) (sv : SV), (inn k ix σ)[j]? = some (some sv) → σ1[j]? = some (some sv)) ∧ σ1.length = (inn k ix σ).length
theorem blk {E : Value → Shared → Prop} {Hs2 H2 : Hp} {s2 : Shared} {it : Addr} {fp : List Addr} {tn : Nat → Heap → Prop} {J : It} {ps qs : List PV} {RR : Value → Addr → Result → Shared → Prop}
    (B : BlkOk X tg elt scope cl N k ix g de) (I2 : Inv X pins τ H2 s2) (S2 : SR X.K H0 Hs0 Hs2 H2 σ τ) (T : Turn X.prog X.w X.K tg J fp it tn) (st : tn 0 s2.heap) (fpok : ∀ b ∈ fp, FpOk X pins H2 b) (jok : JOk X.K J Hs2 ps)
    (hm : mapR (turnF g de (inn k ix σ)) ps = .ok qs) (hl : qs.length ≤ 10000000)
    (hR : ∀ (s' : Shared) (Hs' H' : Hp) (vs : List V) (D C : Addr) (m : Str → Option Value), Inv X pins τ H' s' → SR X.K H0 Hs0 Hs' H' σ τ → Same Hs2 Hs' → Grow Hs2 H2 Hs' H' → H' D = some (.lst vs) → Hs' D = none → H2 D = none → Reps X.K Hs' vs qs → s'.heap.Ns C m →
      FpOk X pins H' C → RR (.ref D) C (.ok .next) s') :
    wpAny (model X.prog X.w) X.A (newList []) (fun acc s3 => wpAny (model X.prog X.w) X.A (newFunctionEnv scope X.env.globals cl [] X.env.qual none .none (some X.env)) (fun cenv s4 =>
      codeAny (model X.prog X.w) X.A (.compStart (.ListComp elt [⟨tg, iter, [], 0⟩] scope pos) 0 (.ref it) acc { cenv with scope := relabel scope X.env }) (RR acc cenv.locals) s4) E s3) E s2 := by
  refine wpAny_newObj_type (wpAny_newFunctionEnv B.O.nocell (by intro y hy; simp at hy) (fun h1 hns1 hsb1 => ?_) B.O.kind)
  dsimp only at hns1 hsb1 ⊢
  have hsz : (s2.heap.push { cls := .type "list", dict := none, data := .seq ([] : List Value).toArray }).objs.size = s2.heap.objs.size + 1 := Heap.size_push ..
  rw [hsz] at hns1 hsb1 ⊢
  refine comp_run (t4 := s2.toks + 0) I2 S2 B.O B.calm T st fpok jok (B.hg pins fp) (B.he pins fp) (B.gk σ) hm hl hns1 (fun b o e => ?_) (fun s' Hs' H' vs m I' S' e' gr h1' h2' h3' h4' h5' h6' => ?_)
  · exact hsb1.extBut b o (Nat.ne_of_lt (by have := Heap.lt_size e; rw [hsz] at this; exact this)) (Heap.get?_push_of_some _ e)
  · exact hR s' Hs' H' vs _ _ m I' S' e' gr h1' h2' h3' h4' h5' (I2.fpOk (Nat.le_succ _) h6')
theorem same_lay {Hs : Hp} {D : Addr} {o : HO} (h : Hs D = none) : Same Hs (upd Hs D o) := fun b u e => by rw [upd_ne (ne_of_none e h)]; exact e
theorem Grow.lay {Hs H Hs' H' : Hp} {D : Addr} {o : HO} (g : Grow Hs H Hs' H') (h1 : H' D = some o) (h2 : Hs' D = none) (h3 : H D = none) : Grow Hs H (upd Hs' D o) H' :=
  ⟨g.s.trans (same_lay h2), fun b u e => by
    by_cases hb : b = D
    · subst hb; rw [upd_same] at e; cases e; exact h1
    · rw [upd_ne hb] at e; exact g.i b u e, g.h, fun x hx hn => by
    have : x ≠ D := fun z => hx (z ▸ h3)
    rw [upd_ne this]; exact g.o x hx hn⟩
theorem cVal_ok {r : Res (List PV)} {f : List PV → Res (List PV)} {EO : Str → Prop} {K : PySem.W.Frag} {Hs H : Hp} {Q : VK} (h : Ret K Hs H ((r.bind f).bind fun qs => .ok (.lst qs)) EO Q) : (∃ c, r = .err c ∧ EO c) ∨ ∃ ps, r = .ok ps ∧ Ret K Hs H ((f ps).bind fun qs => .ok (.lst qs)) EO Q := by
  cases r with
  | ok ps => exact .inr ⟨ps, rfl, h⟩
  | err c => exact .inl ⟨c, rfl, h⟩
  | stuck => exact h.elim
theorem qe_comp (B : BlkOk X tg elt scope cl N k ix g de) (hi : QI X H0 Hs0 tg iter d) (hs : ∀ x, foldedSetIterable iter X.env x = pure x) :
    QE X H0 Hs0 (.ListComp elt [⟨tg, iter, [], 0⟩] scope pos) (eComp d g de k ix) := by
  intro pins s τ H Q I ⟨Hs, σ, S, h⟩
  rw [eval_ListComp]
  have h0 : wpAny (model X.prog X.w) X.A (eval iter X.env) (fun v s1 => wpAny (model X.prog X.w) X.A (pyIter v) (PIE X pins τ tg fun J H2 => ∃ Hs2 ps qs, Grow Hs H Hs2 H2 ∧ JOk X.K J Hs2 ps ∧ mapR (turnF g de (inn k ix σ)) ps = .ok qs ∧ qs.length ≤ 10000000 ∧ Ret X.K Hs H (.ok (.lst qs)) (ErrOk X H0 Hs0) Q) X.xe s1) X.xe s := by
    refine hi pins s τ H _ I ⟨Hs, σ, S, ?_⟩
    rcases cVal_ok h with ⟨c, e, ec⟩ | ⟨ps, e, h1⟩
    · rw [e]; exact ec
    · rw [e]
      intro J Hs2 H2 g2 j2
      cases em : mapR (turnF g de (inn k ix σ)) ps with
      | ok qs =>
        simp only [em] at h1
        by_cases hl : qs.length ≤ 10000000
        · rw [if_pos hl] at h1
          exact ⟨Hs2, ps, qs, g2, j2, em, hl, h1⟩
        · rw [if_neg hl] at h1
          exact h1.elim
      | err c => simp only [em] at h1; exact h1.elim
      | stuck => simp only [em] at h1; exact h1.elim
  refine wpAny_comprehension_free (use := none) rfl hs (clos_for B.O.clos) B.O.kind B.O.names (wpAny_mono h0 (fun v s1 h1 => wpAny_mono h1 (fun itv s2 h2 => ?_) fun _ _ e => e) fun _ _ e => e)
  obtain ⟨it, fp, tn, J, H2, rfl, I2, T, st, fpok, Hs2, ps, qs, g2, jok, hm, hl, hq⟩ := h2
  refine blk B I2 (S.grow g2) T st fpok jok hm hl fun s' Hs' H' vs D C m I' S' e' gr h1 h2 h3 h4 h5 h6 => ?_
  refine ⟨m, h5, fun h' sb => ⟨.ref D, H', inv_off I' h6 sb, rfl, ?_⟩⟩
  exact hq (.ref D) (upd Hs' D (.lst vs)) H' ((g2.trans gr).lay h1 h2 (g2.h.free h3)) (.lst upd_same (h4.mono (same_lay h2)))
/-- x = [..]: the list is stored ahead of the letting go -/
theorem qs_compG {i : Nat} {x : Str} {pos' spos : Pos} {ds : DS} (B : BlkOk X tg elt scope cl N k ix g de) (hi : QI X H0 Hs0 tg iter d) (hs : ∀ x, foldedSetIterable iter X.env x = pure x)
    (hN : X.N.Nodup) (hiN : X.N[i]? = some x) (hx : Loc X.env.scope x) (hf : X.fn x = true ∨ X.env.scope.names.lookup x = some .local)
    (hsw : swapsWith (.ListComp elt [⟨tg, iter, [], 0⟩] scope pos) (some (.Name x pos')) spos.line X.env = pure true)
    (hd : ∀ D σ τ Hs H, SR X.K H0 Hs0 Hs H σ τ → EndR X H0 Hs0 D Hs H (ds σ) → (∃ c, d σ = .err c ∧ ErrOk X H0 Hs0 c) ∨ ∃ ps, d σ = .ok ps ∧ ∃ qs, mapR (turnF g de (inn k ix σ)) ps = .ok qs ∧ qs.length ≤ 10000000 ∧
      ∀ (Hs' H' : Hp) (vs : List V) (a : Addr), SR X.K H0 Hs0 Hs' H' σ τ → Grow Hs H Hs' H' → H' a = some (.lst vs) → Hs' a = none → H a = none → Reps X.K Hs' vs qs → D.nx (τ.set i (some (.ref a))) H') :
    QS X H0 Hs0 (.Assign [.Name x pos'] (.ListComp elt [⟨tg, iter, [], 0⟩] scope pos) spos) ds := by
  intro pins s τ H D I ⟨Hs, σ, S, h⟩
  have h0 : wpAny (model X.prog X.w) X.A (eval iter X.env) (fun v s1 => wpAny (model X.prog X.w) X.A (pyIter v) (PIE X pins τ tg fun J H2 => ∃ Hs2 ps qs, Grow Hs H Hs2 H2 ∧ JOk X.K J Hs2 ps ∧ mapR (turnF g de (inn k ix σ)) ps = .ok qs ∧ qs.length ≤ 10000000 ∧
      ∀ (Hs' H' : Hp) (vs : List V) (a : Addr), SR X.K H0 Hs0 Hs' H' σ τ → Grow Hs H Hs' H' → H' a = some (.lst vs) → Hs' a = none → H a = none → Reps X.K Hs' vs qs → D.nx (τ.set i (some (.ref a))) H') X.xe s1) X.xe s := by
    refine hi pins s τ H _ I ⟨Hs, σ, S, ?_⟩
    rcases hd D σ τ Hs H S h with ⟨c, e, ec⟩ | ⟨ps, e, qs, em, hl, h1⟩
    · rw [e]; exact ec
    · rw [e]
      exact fun J Hs2 H2 g2 j2 => ⟨Hs2, ps, qs, g2, j2, em, hl, h1⟩
  rw [exec_Assign_Name_used _ _ _ _ hsw]
  refine wpAny_bind (wpAny_standAt (wpAny_bind ?_))
  show wpAny _ X.A (do let _ ← comprehension (.ListComp elt [⟨tg, iter, [], 0⟩] scope pos) scope X.env _ (newList []) false (eval iter X.env) (some (assign (.Name x pos') X.env))) _ _ s
  refine wpAny_bind (wpAny_mono (wpAny_comprehension_free (use := some (assign (.Name x pos') X.env)) (Q := fun _ s' => SP X pins D .next s') rfl hs (clos_for B.O.clos) B.O.kind B.O.names
    (wpAny_mono h0 (fun v s1 h1 => wpAny_mono h1 (fun itv s2 h2 => ?_) fun _ _ e => e) fun _ _ e => e)) (fun _ s' hq => wpAny_pure (wpAny_pure hq)) fun _ _ e => e)
  obtain ⟨it, fp, tn, J, H2, rfl, I2, T, st, fpok, Hs2, ps, qs, g2, jok, hm, hl, hq⟩ := h2
  refine blk B I2 (S.grow g2) T st fpok jok hm hl fun s' Hs' H' vs a C m I' S' e' gr h1 h2 h3 h4 h5 h6 => ?_
  show wpAny _ X.A (assign (.Name x pos') X.env (.ref a)) _ _ s'
  have h5' := h5
  obtain ⟨o, es, ep, ho, hdt, hrest⟩ := h5'
  have I'' := I'.pinned (fp := [C]) (fun b hb => by have : b = C := by simpa using hb
                                                    subst this; exact h6) (fun b hb => by
    have : b = C := by simpa using hb
    subst this
    exact ⟨o, ho, fun v z => by rw [hdt] at z; cases z⟩)
  refine thn (pg_name hN hiN hx hf _ s' τ H' (.ref a) (.ref a) (fun τ' H'' => τ' = τ.set i (some (.ref a)) ∧ H'' = H') I'' rfl ⟨rfl, rfl⟩) fun _ s'' ⟨τ', H'', I3, e1, e2⟩ => ?_
  subst e1 e2
  have hC := (I3.pin (C, o) (List.mem_append_right _ (List.mem_append_right _ (mem_pinsAt (by simp) ho)))).1
  have I4 := I3.unpinned
  refine ⟨m, ⟨o, es, ep, hC, hdt, hrest⟩, fun h' sb => ?_⟩
  exact ⟨_, _, inv_off I4 h6 sb, hq Hs' H'' vs a S' (g2.trans gr) h1 h2 (g2.h.free h3) h4⟩
theorem SR.ownAt {Hs H Hs' H' : Hp} {σ : PSt} {τ : L2.St} {a : Addr} {vs : List V} {xs : List PV} (S : SR X.K H0 Hs0 Hs H σ τ) (g : Grow Hs H Hs' H') (i : Nat) (h1 : H' a = some (.lst vs)) (h2 : Hs' a = none) (h3 : H a = none) (r : Reps X.K Hs' vs xs) :
    SR X.K H0 Hs0 Hs' H' (σ.set i (some (.own xs))) (τ.set i (some (.ref a))) := by
  have far : ∀ (j : Nat) (ys : List PV) (ad : Addr), σ[j]? = some (some (.own ys)) → τ[j]? = some (some (.ref ad)) → ad ≠ a := fun j ys ad e1 e2 z => by
    obtain ⟨v, e3, a', vs', rfl, q1, _⟩ := S.slot j _ e1
    rw [e2] at e3
    cases e3
    subst z
    rw [h3] at q1; cases q1
  refine ⟨S.g.trans g, fun j sv e => ?_, fun j k xs' ys' ad hjk e1 e2 e3 => ?_, by rw [List.length_set, List.length_set]; exact S.len⟩
  · rcases set_some e with ⟨rfl, e', hl⟩ | ⟨hne, e'⟩
    · cases e'
      refine ⟨.ref a, by rw [List.getElem?_set_self (by rw [← S.len]; exact hl)], a, vs, rfl, h1, h2, S.g.h.free h3, r⟩
    · obtain ⟨w, e1, r1⟩ := S.slot j sv e'
      exact ⟨w, by rw [List.getElem?_set_ne (fun z => hne z.symm)]; exact e1, r1.grow g⟩
  · rcases set_some e1 with ⟨rfl, e', hl⟩ | ⟨hj, e1'⟩
    · rw [List.getElem?_set_self (by rw [← S.len]; exact hl)] at e3
      cases e3
      rcases set_some e2 with ⟨rfl, _, _⟩ | ⟨hk, e2'⟩
      · exact absurd rfl hjk
      · rw [List.getElem?_set_ne (fun z => hk z.symm)]
        exact fun z => far k _ _ e2' z rfl
    · rw [List.getElem?_set_ne (fun z => hj z.symm)] at e3
      rcases set_some e2 with ⟨rfl, _, hl⟩ | ⟨hk, e2'⟩
      · rw [List.getElem?_set_self (by rw [← S.len]; exact hl)]
        exact fun z => by cases z; exact far j _ _ e1' e3 rfl
      · rw [List.getElem?_set_ne (fun z => hk z.symm)]
        exact S.inj j k _ _ _ hjk e1' e2' e3
theorem cVal_s {D : Ends} {Hs H : Hp} {f : List PV → Fl} {σ : PSt} (h : EndR X H0 Hs0 D Hs H ((cVal d g de k ix σ).bind fun qs => .ok (f qs))) : (∃ c, d σ = .err c ∧ ErrOk X H0 Hs0 c) ∨ ∃ ps, d σ = .ok ps ∧ ∃ qs, mapR (turnF g de (inn k ix σ)) ps = .ok qs ∧ qs.length ≤ 10000000 ∧ EndR X H0 Hs0 D Hs H (.ok (f qs)) := by
  unfold cVal at h
  cases e : d σ with
  | err c => rw [e] at h; exact .inl ⟨c, rfl, h⟩
  | stuck => rw [e] at h; exact h.elim
  | ok ps =>
    rw [e] at h
    refine .inr ⟨ps, rfl, ?_⟩
    cases em : mapR (turnF g de (inn k ix σ)) ps with
    | ok qs =>
      simp only [Res.bind_ok, em] at h
      by_cases hl : qs.length ≤ 10000000
      · rw [if_pos hl] at h
        exact ⟨qs, rfl, hl, h⟩
      · rw [if_neg hl] at h
        exact h.elim
    | err c => simp only [Res.bind_ok, em] at h; exact h.elim
    | stuck => simp only [Res.bind_ok, em] at h; exact h.elim
variable {i : Nat} {x : Str} {pos' spos : Pos}
theorem qs_comp (B : BlkOk X tg elt scope cl N k ix g de) (hi : QI X H0 Hs0 tg iter d) (hs : ∀ x, foldedSetIterable iter X.env x = pure x)
    (hN : X.N.Nodup) (hiN : X.N[i]? = some x) (hx : Loc X.env.scope x) (hf : X.fn x = true ∨ X.env.scope.names.lookup x = some .local)
    (hsw : swapsWith (.ListComp elt [⟨tg, iter, [], 0⟩] scope pos) (some (.Name x pos')) spos.line X.env = pure true) :
    QS X H0 Hs0 (.Assign [.Name x pos'] (.ListComp elt [⟨tg, iter, [], 0⟩] scope pos) spos) (sComp i d g de k ix) :=
  qs_compG B hi hs hN hiN hx hf hsw fun D σ τ Hs H S h => (cVal_s h).imp id fun ⟨ps, e, qs, em, hl, q⟩ => ⟨ps, e, qs, em, hl, fun Hs' H' vs a S' gr h1 h2 h3 h4 =>
    q (upd Hs' a (.lst vs)) H' _ (gr.s.trans (same_lay h2)) ((S.grow (gr.lay h1 h2 h3)).set i (.lst upd_same (h4.mono (same_lay h2))))⟩
theorem qs_compO (B : BlkOk X tg elt scope cl N k ix g de) (hi : QI X H0 Hs0 tg iter d) (hs : ∀ x, foldedSetIterable iter X.env x = pure x)
    (hN : X.N.Nodup) (hiN : X.N[i]? = some x) (hx : Loc X.env.scope x) (hf : X.fn x = true ∨ X.env.scope.names.lookup x = some .local)
    (hsw : swapsWith (.ListComp elt [⟨tg, iter, [], 0⟩] scope pos) (some (.Name x pos')) spos.line X.env = pure true) :
    QS X H0 Hs0 (.Assign [.Name x pos'] (.ListComp elt [⟨tg, iter, [], 0⟩] scope pos) spos) (sCompO i d g de k ix) :=
  qs_compG B hi hs hN hiN hx hf hsw fun D σ τ Hs H S h => (cVal_s h).imp id fun ⟨ps, e, qs, em, hl, q⟩ => ⟨ps, e, qs, em, hl, fun Hs' H' vs a S' gr h1 h2 h3 h4 =>
    q Hs' H' _ gr.s (S.ownAt gr i h1 h2 h3 h4)⟩
end
end G
set_option Elab.async false
set_option linter.all false
set_option maxRecDepth 100000
set_option maxHeartbeats 4000000
namespace G
open PySem PySem.Spec PyProof.Rows L2
theorem closL_has {cells : List (Str × Addr)} {x : Str} : ∀ (names : List (Str × NameKind)) (acc cl : List (Str × Addr)), closL cells names acc = some cl → ((x, .free) ∈ names ∨ ∃ c, acc.lookup x = some c) → ∃ c, cl.lookup x = some c
  | [], acc, cl, h, hx => by
    have : acc = cl := Option.some.inj h
    subst this
    exact hx.elim (fun z => by cases z) id
  | (n, k) :: r, acc, cl, h, hx => by
    unfold closL at h
    split at h
    · rename_i hk
      split at h
      · rename_i a hn
        refine closL_has r _ cl h ?_
        rcases hx with hx | ⟨c, hx⟩
        · rcases List.mem_cons.mp hx with e | hx
          · cases e
            exact .inr ⟨a, by simp [List.lookup_cons]⟩
          · exact .inl hx
        · refine .inr ?_
          rw [List.lookup_cons]
          split
          · exact ⟨a, rfl⟩
          · exact ⟨c, hx⟩
      · cases h
    · rename_i hk
      refine closL_has r acc cl h ?_
      rcases hx with hx | hx
      · rcases List.mem_cons.mp hx with e | hx
        · cases e
          exact absurd rfl hk
        · exact .inl hx
      · exact .inr hx
theorem lookup_mem' {x : Str} {q : NameKind} : ∀ {names : List (Str × NameKind)}, names.lookup x = some q → (x, q) ∈ names
  | [], h => by simp at h
  | (n, k) :: r, h => by
    rw [List.lookup_cons] at h
    split at h
    · rename_i hb
      have : x = n := by simpa using hb
      subst this
      cases h
      exact List.mem_cons_self
    · exact List.mem_cons_of_mem _ (lookup_mem' h)
theorem relabel_has {scope : Scope} {env : Env} {x : Str} {q : NameKind} (h : (relabel scope env).names.lookup x = some q) : ∃ k, (x, k) ∈ scope.names ∧ (q = k ∨ k = .free) := by
  have := lookup_mem' h
  unfold relabel at this
  obtain ⟨⟨n, k⟩, h1, h2⟩ := List.mem_map.mp this
  dsimp only at h2
  split at h2
  · rename_i hc
    cases h2
    simp only [Bool.and_eq_true, beq_iff_eq] at hc
    exact ⟨k, h1, .inr hc.1.1⟩
  · cases h2
    exact ⟨_, h1, .inl rfl⟩
theorem relabel_free {env : Env} {x : Str} : ∀ {names : List (Str × NameKind)}, names.lookup x = some .free → env.scope.kind = .function → env.kindOf x = some .cell →
    (names.map fun (n, k) => if (k == NameKind.free && env.scope.kind == .function && env.kindOf n == some .cell) then (n, NameKind.cell) else (n, k)).lookup x = some .cell
  | [], h, _, _ => by simp at h
  | (n, k) :: r, h, h1, h2 => by
    have ih := @relabel_free env x r
    rw [List.lookup_cons] at h
    rw [List.map_cons]
    dsimp only
    split at h
    · rename_i hb
      have : x = n := by simpa using hb
      subst this
      cases h
      rw [if_pos (by simp [h1, h2])]
      simp [List.lookup_cons]
    · rename_i hb
      split
      · rw [List.lookup_cons, hb]; exact ih h h1 h2
      · rw [List.lookup_cons, hb]; exact ih h h1 h2
/-- the names that a block takes along -/
inductive CapOk (X : Cx) (scope : Scope) : List Nat → List Str → Prop
  | nil : CapOk X scope [] []
  | cons {i : Nat} {x : Str} {ix : List Nat} {xs : List Str} : X.N[i]? = some x → X.env.kindOf x = some .cell → scope.names.lookup x = some .free → CapOk X scope ix xs → CapOk X scope (i :: ix) (x :: xs)
theorem cap0 {X : Cx} {scope : Scope} : CapOk X scope [] [] := .nil
theorem cap {X : Cx} {scope : Scope} {ix : List Nat} {xs : List Str} (i : Nat) (x : Str) (c : CapOk X scope ix xs) (h1 : X.N[i]? = some x := by rfl) (h2 : X.env.kindOf x = some .cell := by rfl) (h3 : scope.names.lookup x = some .free := by rfl) : CapOk X scope (i :: ix) (x :: xs) := .cons h1 h2 h3 c
theorem CapOk.len {X : Cx} {scope : Scope} {ix : List Nat} {xs : List Str} (c : CapOk X scope ix xs) : xs.length = ix.length := by
  induction c with
  | nil => rfl
  | cons _ _ _ _ ih => rw [List.length_cons, List.length_cons, ih]
theorem CapOk.at' {X : Cx} {scope : Scope} {ix : List Nat} {xs : List Str} (c : CapOk X scope ix xs) : ∀ (j i : Nat) (x : Str), ix[j]? = some i → xs[j]? = some x → X.N[i]? = some x ∧ X.env.kindOf x = some .cell ∧ scope.names.lookup x = some .free := by
  induction c with
  | nil => intro j i x h; simp at h
  | cons h1 h2 h3 _ ih =>
    intro j i x e1 e2
    cases j with
    | zero => simp at e1 e2; subst e1 e2; exact ⟨h1, h2, h3⟩
    | succ j => exact ih j i x (by simpa using e1) (by simpa using e2)
def clOf (X : Cx) (scope : Scope) : List (Str × Addr) := (closL X.env.cells scope.names []).getD []
def scopeOk (scope : Scope) : Prop := (∀ y ∈ scope.names, y.2 ≠ .cell) ∧ (∀ y ∈ scope.names, y.2 = .local → scope.names.lookup y.1 = some .local)
instance {scope : Scope} : Decidable (scopeOk scope) := by unfold scopeOk; exact inferInstance
theorem compOk {X : Cx} {scope : Scope} {own xs : List Str} {ix : List Nat} (hk : scope.kind = .function) (hs : scopeOk scope) (hX : X.env.scope.kind = .function) (hc : (closL X.env.cells scope.names []).isSome = true) (hn : (own ++ xs).Nodup) (c : CapOk X scope ix xs) : CompOk X scope (clOf X scope) (own ++ xs) own.length ix := by
  have hcl : closL X.env.cells scope.names [] = some (clOf X scope) := by
    unfold clOf
    cases e : closL X.env.cells scope.names [] with
    | none => rw [e] at hc; cases hc
    | some cl => rfl
  refine ⟨hk, hs.1, hs.2, hcl, fun x hx => ?_, hn, by rw [List.length_append, c.len], fun j i x e1 e2 => ?_⟩
  · have : (x, NameKind.free) ∈ scope.names := by
      rcases hx with hx | hx
      · obtain ⟨k, h1, h2⟩ := relabel_has hx
        rcases h2 with rfl | rfl
        · exact absurd rfl (hs.1 _ h1)
        · exact h1
      · obtain ⟨k, h1, h2⟩ := relabel_has hx
        rcases h2 with rfl | rfl <;> exact h1
    exact closL_has _ _ _ hcl (.inl this)
  · rw [List.getElem?_append_right (Nat.le_add_right _ _), Nat.add_sub_cancel_left] at e2
    obtain ⟨a1, a2, a3⟩ := c.at' j i x e1 e2
    exact ⟨a1, a2, .inl (relabel_free a3 hX a2)⟩
/-- a target keeps what the block takes along -/
structure GK (k : Nat) (g : DG) : Prop where
  h : ∀ (ix : List Nat) (σ : PSt) (p : PV) (σ1 : PSt), g p (inn k ix σ) = .ok σ1 → (∀ (j : Nat) (sv : SV), (inn k ix σ)[j]? = some (some sv) → σ1[j]? = some (some sv)) ∧ σ1.length = (inn k ix σ).length
theorem inn_low {k i : Nat} {ix : List Nat} {σ : PSt} (h : i < k) {sv : SV} : (inn k ix σ)[i]? ≠ some (some sv) := fun e => by
  obtain ⟨_, _, h1, _⟩ := inn_get e
  omega
theorem gk_n {k i : Nat} (h : i < k := by decide) : GK k (gN i) := ⟨fun ix σ p σ1 e => by
  have e : σ1 = (inn k ix σ).set i (some (.sh p)) := by
    unfold gN at e
    first | (injection e with e; exact e.symm) | (cases e; rfl)
  subst e
  refine ⟨fun j sv hj => ?_, List.length_set⟩
  rw [List.getElem?_set_ne (fun z => inn_low (h) (z ▸ hj))]
  exact hj⟩
section
variable {X : Cx} {H0 Hs0 : Hp} {tg elt iter : Expr} {scope : Scope} {pos : Pos} {g : DG} {de : DE} {d : DI} {ix : List Nat} {xs : List Str}
theorem xblk (own : List Str) (c : CapOk X scope ix xs) (k : GK own.length g) (hg : ∀ (pins : List (Addr × Obj)) (fp : List Addr) (C : Addr) (s : Shared) (H A B : Hp), (cxC X pins scope (clOf X scope) C (own ++ xs) fp s H).N.Nodup → XG (cxC X pins scope (clOf X scope) C (own ++ xs) fp s H) A B tg g)
    (he : ∀ (pins : List (Addr × Obj)) (fp : List Addr) (C : Addr) (s : Shared) (H A B : Hp), (cxC X pins scope (clOf X scope) C (own ++ xs) fp s H).N.Nodup → XE (cxC X pins scope (clOf X scope) C (own ++ xs) fp s H) A B elt de)
    (hk : scope.kind = .function := by rfl) (hs : scopeOk scope := by decide +kernel) (hX : X.env.scope.kind = .function := by rfl) (hc : (closL X.env.cells scope.names []).isSome = true := by rfl) (hn : (own ++ xs).Nodup := by decide) (hcalm : X.calm = true := by rfl) :
    BlkOk X tg elt scope (clOf X scope) (own ++ xs) own.length ix g de :=
  ⟨compOk hk hs hX hc hn c, hcalm, fun pins fp C s H A B => (hg pins fp C s H A B hn).h, fun pins fp C s H A B => (he pins fp C s H A B hn).h, fun σ p σ1 e => k.h ix σ p σ1 e⟩
theorem xcomp {cl : List (Str × Addr)} {N : List Str} {k : Nat} (B : BlkOk X tg elt scope cl N k ix g de) (hi : XI X H0 Hs0 tg iter d) (hs : noSet iter = true := by rfl) : XE X H0 Hs0 (.ListComp elt [⟨tg, iter, [], 0⟩] scope pos) (eComp d g de k ix) := ⟨qe_comp B hi.h (fold_no hs)⟩
theorem xscomp (i : Nat) {x : Str} {pos' spos : Pos} {cl : List (Str × Addr)} {N : List Str} {k : Nat} (B : BlkOk X tg elt scope cl N k ix g de) (hi : XI X H0 Hs0 tg iter d) (hN : X.N.Nodup := by assumption) (hiN : X.N[i]? = some x := by rfl) (hx : Loc X.env.scope x := by first | exact Or.inl rfl | exact Or.inr rfl)
    (hf : X.fn x = true ∨ X.env.scope.names.lookup x = some .local := by first | exact Or.inl rfl | exact Or.inr rfl) (hs : noSet iter = true := by rfl)
    (hsw : swapsWith (.ListComp elt [⟨tg, iter, [], 0⟩] scope pos) (some (.Name x pos')) spos.line X.env = pure true := by rfl) :
    XS X H0 Hs0 (.Assign [.Name x pos'] (.ListComp elt [⟨tg, iter, [], 0⟩] scope pos) spos) (sComp i d g de k ix) := ⟨qs_comp B hi.h (fold_no hs) hN hiN hx hf hsw⟩
theorem xscompO (i : Nat) {x : Str} {pos' spos : Pos} {cl : List (Str × Addr)} {N : List Str} {k : Nat} (B : BlkOk X tg elt scope cl N k ix g de) (hi : XI X H0 Hs0 tg iter d) (hN : X.N.Nodup := by assumption) (hiN : X.N[i]? = some x := by rfl) (hx : Loc X.env.scope x := by first | exact Or.inl rfl | exact Or.inr rfl)
    (hf : X.fn x = true ∨ X.env.scope.names.lookup x = some .local := by first | exact Or.inl rfl | exact Or.inr rfl) (hs : noSet iter = true := by rfl)
    (hsw : swapsWith (.ListComp elt [⟨tg, iter, [], 0⟩] scope pos) (some (.Name x pos')) spos.line X.env = pure true := by rfl) :
    XS X H0 Hs0 (.Assign [.Name x pos'] (.ListComp elt [⟨tg, iter, [], 0⟩] scope pos) spos) (sCompO i d g de k ix) := ⟨qs_compO B hi.h (fold_no hs) hN hiN hx hf hsw⟩
/-- the same where the store is an ordinary one -/
theorem xsetC (i : Nat) {x : Str} {pos' : Pos} {a : Expr} {da : DE} (ha : XE X H0 Hs0 a da) (hN : X.N.Nodup := by assumption) (hi : X.N[i]? = some x := by rfl) (hx : Loc X.env.scope x := by first | exact Or.inl rfl | exact Or.inr rfl) (hs : swapsWith a (some (.Name x pos')) pos.line X.env = pure false := by rfl)
    (hf : X.fn x = true ∨ X.env.scope.names.lookup x = some .local := by first | exact Or.inl rfl | exact Or.inr rfl) : XS X H0 Hs0 (.Assign [.Name x pos'] a pos) (sSet i da) := ⟨qs_set hN hi hx ha.h hs hf⟩
end
end G
set_option Elab.async false
set_option linter.all false
set_option maxRecDepth 100000
set_option maxHeartbeats 4000000
namespace G
open PySem PySem.Spec PyProof.Rows L2
theorem frs_mem {l : List Env} : ∀ env ∈ l, ∀ a, env.frame = some a → a ∈ frs l := fun env he a hf => List.mem_filterMap.mpr ⟨env, he, hf⟩
section
variable {P : Program} {w : World} {K : PySem.W.Frag} {mg : Str → Option Value} {base : Heap} {N : List Str} {qual : Str} {scope : Scope} {f : Addr} {cd : Value} {A : Around} {outer : List Env} {s : Shared} {H Hs : Hp} {E : XK} {c : Str}
/-- an exception leaves a def's frame -/
theorem err_ok (hE : ∀ (C : Addr) (Hs1 H1 : Hp), ClsIs K c C → Grow Hs H Hs1 H1 → E (.ref C) none H1) : ErrOk (cxOf (CXG P w) P w K mg base N qual scope f cd A outer s H E) H Hs c := by
  intro e s' ⟨pins, τ, H', s1, I, h⟩
  show wpAny (model P w) (A.deeper (envOfC qual scope s.heap.objs.size f cd)) (leaving (envOfC qual scope s.heap.objs.size f cd) e) (fun _ s'' => CXG P w outer H s E e s'') (fun e' s'' => CXG P w outer H s E e' s'') s'
  have u : Un (frs outer) [] H H' s.heap s1.heap := I.base
  have hfr : (A.deeper (envOfC qual scope s.heap.objs.size f cd)).frames = some (envOfC qual scope s.heap.objs.size f cd :: outer) := I.ok.frames
  have funs : s.heap.FunFrames base outer := I.ok.funs
  have frf : ∀ b ∈ frs outer, H b = none := I.ok.frf
  have stk : s1.heap.FunFrames base (envOfC qual scope s.heap.objs.size f cd :: outer) := I.stack
  have stf : ∀ b ∈ frs (envOfC qual scope s.heap.objs.size f cd :: outer), H' b = none := I.stkFree
  have fcons : frs (envOfC qual scope s.heap.objs.size f cd :: outer) = s.heap.objs.size :: frs outer := rfl
  have off : ∀ {b : Addr} {o : Obj}, s.heap.get? b = some o → b ∉ frs outer → b ∉ frs (envOfC qual scope s.heap.objs.size f cd :: outer) := fun e n z => by
    rw [fcons] at z
    rcases List.mem_cons.mp z with z | z
    · exact absurd (Heap.lt_size e) (by rw [z]; exact Nat.lt_irrefl _)
    · exact n z
  have nofield : ∀ {b : Addr} {o : Obj}, b ∈ frs outer → s.heap.get? b = some o → ∀ vs, o.data ≠ .fields vs := fun hb e vs z => by
    obtain ⟨_, o', ho, hd⟩ := funs.mem hb
    rw [e] at ho; cases ho
    exact hd vs z
  rcases h with ⟨ea, C, vs, h', Hs', rfl, hc, g, mk, rfl⟩ | ⟨ea, C, B, a0, H1, rfl, hos, hbare, fl, ux, hok, C', Hs1, ecls, hc, g⟩
  · have hB : ∀ b ∉ frs (envOfC qual scope s.heap.objs.size f cd :: outer), ∀ o, s1.heap.get? b = some o → (PySem.W.hideAll s1.heap (frs (envOfC qual scope s.heap.objs.size f cd :: outer))).get? b = some o := fun b hb o e => PySem.W.hideAll_get _ e hb
    refine wpAny_leaves_madeW (base := PySem.W.hideAll s1.heap (frs (envOfC qual scope s.heap.objs.size f cd :: outer))) (h := s1.heap) hfr rfl (fun b o q => PySem.W.of_hideAll _ q) (PySem.W.funFrames_hide stk fun env he a hf => frs_mem env he a hf) mk fun h'' t x1 x2 x3 x4 => ?_
    refine ⟨ea, C, _, .ref t, H', rfl, I.os, I.bare, x1, ⟨fun b o e n nf => ?_, fun b o e n nf => ?_, fun b o e n => u.free b o e n (by simp), fun b o e n => ?_, u.tups, u.frzs, u.tbls⟩, fun a o e => ?_, hE C Hs' H' hc g⟩
    · exact hB b (off e nf) o (u.keep b o e n nf (by simp))
    · obtain ⟨sl, e1⟩ := u.slot b o e n nf (by simp)
      obtain ⟨sl2, e2⟩ := x4 b _ (mk.keeps b _ e1) (fun vs z => nofield nf e vs z)
      exact ⟨sl2, e2⟩
    · obtain ⟨o', e1⟩ := u.there b o e (by simp)
      exact ⟨o', hB b (off e fun z => n (frf b z)) o' e1⟩
    · refine (I.hok a o e).stay (fun b v hb q => hB b (fun z => ?_) v q) (fun _ q => q) fun _ _ q => q
      have := stf b z
      rcases hb with rfl | hb
      · rw [e] at this; cases this
      · rw [hb] at this; cases this
  · cases ecls
    refine wpAny_leaves_onW hfr rfl fl fun h'' x1 x2 => ?_
    refine ⟨ea, C, B, a0, H1, rfl, hos.trans I.os, hbare, x1, ⟨fun b o e n nf => ?_, fun b o e n nf => ?_, fun b o e n => ?_, fun b o e n => ?_, fun b xs q => ux.tups b xs (u.tups b xs q), fun b o v q => ux.frzs b o v (u.frzs b o v q), fun b ps q => ?_⟩, hok, hE C Hs1 H1 hc g⟩
    · exact ux.keep b o (u.keep b o e n nf (by simp)) (u.free b o e n (by simp)) (off e nf)
    · obtain ⟨sl, e1⟩ := u.slot b o e n nf (by simp)
      obtain ⟨sl2, e2⟩ := ux.slot b _ e1 (u.free b o e n (by simp)) (by show b ∈ frs (_ :: outer); rw [fcons]; exact List.mem_cons_of_mem _ nf)
      obtain ⟨sl3, e3⟩ := x2 b _ e2 (fun vs z => nofield nf e vs z)
      exact ⟨sl3, e3⟩
    · obtain ⟨sl, e1⟩ := u.any e n (by simp)
      exact ux.free b _ e1 (u.free b o e n (by simp))
    · obtain ⟨o', e1⟩ := u.there b o e (by simp)
      cases hn : H' b with
      | none => exact ⟨o', ux.keep b o' e1 hn (off e fun z => n (frf b z))⟩
      | some v => exact ux.there b o' e1 (by rw [hn]; exact fun z => by cases z)
    · obtain ⟨m1, q1⟩ := u.tbls b ps q
      obtain ⟨m2, q2⟩ := ux.tbls b _ q1
      exact ⟨m1 ++ m2, by rw [q2, Array.append_assoc]⟩
end
/-! ### raise of a class of the text -/
structure ExcAt (K : PySem.W.Frag) (x : Str) : Prop where
  ex : ∃ C : Addr, ClsIs K x C ∧ PySem.W.excIn K C [.type "ValueError", .type "Exception", .type "BaseException", .type "object"] "ValueError.__new__" = true
def sRaise (c : Str) : DS := fun _ => .err c
section
variable {X : Cx} {H0 Hs0 : Hp} {x t : Str} {pos np cpos cp : Pos} {j}
theorem excCls {K : PySem.W.Frag} {h₀ : Heap} {mg : Str → Option Value} {C : Addr} {bmB : List Value} {newId : String} (XI : K.In h₀) (G : h₀.Ns mainGlobals mg) (e : PySem.W.nsIn K mainGlobals x = some (some (.ref C))) (q : PySem.W.excIn K C bmB newId = true) : OwnCls x C bmB newId mg h₀ := by
  refine ⟨PySem.W.mg_of XI G e, ?_⟩
  unfold PySem.W.excIn at q
  split at q
  · rename_i dd cd sl ho
    split at q
    · rename_i C' bm k0 k1 k2 k3 n k5 hm hs
      simp only [Bool.and_eq_true, beq_iff_eq, Bool.not_eq_true'] at q
      obtain ⟨⟨⟨⟨⟨rfl, rfl⟩, hdel⟩, ht⟩, hok⟩, hni⟩ := q
      obtain ⟨nm, bs, mro, ns, qn, hd, sn, sub, ab, col, del⟩ := cd
      dsimp only at hm hdel hok hni
      subst hm hdel
      have hsl : sl = #[k0, k1, k2, k3, some (.builtin n), k5] := by
        obtain ⟨l⟩ := sl
        simp only at hs
        rw [hs]
      subst hsl
      exact ⟨bm, ns, nm, qn, bs, hd, sn, sub, ab, col, dd, k0, k1, k2, k3, k5, _, XI _ _ ho, .of_isNs (PySem.W.isNs_of_in XI hok), PySem.W.nsMap_none_of_in XI hok hni, PySem.W.tail_of_in XI ht⟩
    · cases q
  · cases q
theorem qs_raise (hx : ExcAt X.K x) (hc : X.calm = true) (hg : Gl X x) (hd : (x == ("__debug__" : Str)) = false) (he : starEach [.Constant (.str t) j cp] X.env = [(false, eval (.Constant (.str t) j cp) X.env)]) :
    QS X H0 Hs0 (.Raise (some (.Call (.Name x np) [.Constant (.str t) j cp] [] cpos)) none pos) (sRaise x) := by
  obtain ⟨C, hcl, hin⟩ := hx.ex
  intro pins s τ H D I ⟨Hs, σ, S, h⟩
  have GN : s.heap.Ns mainGlobals X.mg := I.mod.glob.keeps I.bk
  have O := excCls I.kIn GN hcl hin
  obtain ⟨tl, NN, nm, q, bs, hdct, sn, sub, ab, col, dd, k0, k1, k2, k3, k5, mN, hC, hN, hni, T⟩ := O.obj
  refine wpAny_Raise_call_subT (C := C) (nm := nm) (q := q) (N := NN) (bs := bs) (bm := tl) (hdct := hdct) (sn := sn) (sub := sub) (ab := ab) (col := col) (dd := dd) (k0 := k0) (k1 := k1) (k2 := k2) (k3 := k3) (k5 := k5)
    PySem.F.excBase_ValueError (mN := mN) (T.hasType PySem.F.excBase_ValueError.hasBase) (I.ok.hd hc) (by rw [he]; rfl) hni (ld_glob I hg O.bound ⟨rfl, ?_⟩ hd)
  rw [he]
  refine Calls.evalArgs_plain (Calls.spliced_cons (@Calls.Constant_str _ _ _ _ _ t j cp _ (Calls.spliced_nil ⟨rfl, (show 1 ≤ sizeLine from small7 (by decide)), hC, hN, T, fun h' e mk => ?_⟩)))
  exact h (.ref e) _ ⟨pins, τ, H, _, I.tok _, .inl ⟨e, C, _, h', Hs, rfl, hcl, S.g, mk, rfl⟩⟩
end
end G
set_option Elab.async false
set_option linter.all false
set_option maxRecDepth 100000
set_option maxHeartbeats 4000000
namespace G
open PySem PySem.Spec PyProof.Rows L2
section
variable {X : Cx} {pins : List (Addr × Obj)} {H0 Hs0 Hs H : Hp} {σ : PSt} {τ : L2.St} {s : Shared}
/-- a name goes behind a handler -/
theorem goes_ok {M : Model} {A : Around} {E : Value → Shared → Prop} {i : Nat} {x : Str} {pos : Pos} {Q : Unit → Shared → Prop} (I : Inv X pins τ H s) (hN : X.N.Nodup) (hi : X.N[i]? = some x) (hk : X.env.scope.names.lookup x = some .local)
    (h : ∀ s', Inv X pins (τ.set i none) H s' → Q () s') : wpAny M A (do bindName X.env x .none; unbindBehindTheSuite X.env x pos) Q E s := by
  obtain ⟨m, hn, hl⟩ := id I.loc
  have hcls : (X.env.scope.kind == .class || (X.env.scope.kind == .module && X.env.locals != X.env.globals)) = false := by rw [I.ok.kind]; rfl
  have hiσ : i < τ.length := by rw [I.len]; exact (List.getElem?_eq_some_iff.mp hi).1
  have cne := I.cne
  refine wpAny_nameGoes_keeps hk hn hcls fun h' w hn' hs => ?_
  obtain ⟨oL, _, _, hoL, _⟩ := id hn
  have tracked : HOk X.prog X.w H h' := fun b ob e => by
    refine (I.hok b ob e).stay (fun c w' hc q => (hs.2 c ?_).trans q) (fun _ q => q) fun _ _ q => q
    rintro rfl
    have hfree := I.free
    rcases hc with rfl | hc
    · rw [hfree] at e; cases e
    · rw [hfree] at hc; cases hc
  refine h _ ⟨I.ok, I.os, I.bare, ⟨fun b o e n hb hx => ?_, fun b o e n hb hx => ?_, I.base.free, fun b o e hx => ?_, I.base.tups, I.base.frzs, I.base.tbls⟩, ⟨_, hn', fun j y v' e1 e2 e3 => ?_⟩, fun y c e => ?_, I.free, I.freeC, fun p hp => ?_, tracked, by simpa using I.len⟩
  · exact (hs.2 b (Nat.ne_of_lt (Nat.lt_of_lt_of_le (Heap.lt_size e) I.ok.above))).trans (I.base.keep b o e n hb hx)
  · obtain ⟨sl, e1⟩ := I.base.slot b o e n hb hx
    exact ⟨sl, (hs.2 b (Nat.ne_of_lt (Nat.lt_of_lt_of_le (Heap.lt_size e) I.ok.above))).trans e1⟩
  · obtain ⟨o', e1⟩ := I.base.there b o e hx
    exact ⟨o', (hs.2 b (Nat.ne_of_lt (Nat.lt_of_lt_of_le (Heap.lt_size e) I.ok.above))).trans e1⟩
  · by_cases hj : j = i
    · subst hj
      rw [List.getElem?_set_self hiσ] at e2
      cases e2
    · rw [List.getElem?_set_ne (Ne.symm hj)] at e2
      obtain ⟨u', r', q⟩ := hl j y v' e1 e2 e3
      refine ⟨u', r', ?_⟩
      rcases q with ⟨k, e⟩ | ⟨k, c, e, z⟩
      · refine .inl ⟨k, ?_⟩
        have : y ≠ x := fun e => hj (nodup_ix hN e1 (e ▸ hi))
        simp [this, e]
      · exact .inr ⟨k, c, e, z.sameBut hs (cne y c e)⟩
  · obtain ⟨w', z⟩ := I.cell y c e
    exact ⟨w', z.sameBut hs (cne y c e)⟩
  · obtain ⟨e, n, ne, nf, d⟩ := I.pin p hp
    exact ⟨(hs.2 p.1 ne).trans e, n, ne, nf, d⟩
theorem objOk_there {P : Program} {w : World} {h : Heap} {a : Addr} {o : HO} (x : ObjOk P w H h a o) : ∃ ob, h.get? a = some ob := by
  cases o with
  | lst xs => obtain ⟨_, _, _, _, e⟩ := x; exact ⟨_, e⟩
  | tup xs => obtain ⟨_, _, _, p⟩ := x; obtain ⟨ob, e, _⟩ := p; exact ⟨ob, e⟩
  | dK kvs => obtain ⟨_, _, _, _, o, _, _, e, _⟩ := x; exact ⟨_, e⟩
  | dT kvs => obtain ⟨_, _, _, _, o, _, _, e, _⟩ := x; exact ⟨_, e⟩
  | set S n => obtain ⟨o, _, _, _, e, _⟩ := x; exact ⟨_, e⟩
  | ins C dx fs => obtain ⟨_, _, _, e, _⟩ := x; exact ⟨_, e⟩
  | own y => exact x
  | xd fs => obtain ⟨_, ⟨_, _, _, e, _⟩, _⟩ := x; exact ⟨_, e⟩
  | rng lo hi => obtain ⟨_, _, _, e⟩ := x; exact ⟨_, e⟩
  | frz ob u => obtain ⟨e, _⟩ := x; exact ⟨_, e⟩
  | tbl ps => exact ⟨_, (show h.get? a = some _ from x)⟩
  | met f y => exact ⟨_, (show h.get? a = some _ from x)⟩
  | ext φ => obtain ⟨_, e, _⟩ := x; exact e
/-- the exception has come down in X -/
theorem landed {s' : Shared} {H2 : Hp} {B h5 : Heap} {ea C : Addr} {a0 : Value} (I : Inv X pins τ H s) (hos : s'.os = s.os) (hbare : AllBare s'.gens) (ux : UnX X.stack H H2 s.heap B s'.heap) (hok : HOk X.prog X.w H2 B) (fl : Heap.FlyingW B X.stack ea (.ref C) a0 h5) (sm : s'.heap.UpToSlots h5) :
    H2 ea = none ∧ Inv X pins τ (upd H2 ea (.ext (excφ ea C))) { s' with heap := h5 } := by
  obtain ⟨f1, f2, f3, oe, vs, T, oT, ts, he, ⟨hc, h0⟩, hd, _⟩ := fl
  have h2 : H2 ea = none := by
    cases e : H2 ea with
    | none => rfl
    | some o =>
      obtain ⟨ob, q⟩ := objOk_there (hok ea o e)
      rw [f2] at q; cases q
  have nofield : ∀ {b : Addr} {o : Obj}, b ∈ frs X.stack → s.heap.get? b = some o → ∀ vs, o.data ≠ .fields vs := fun hb e vs z => by
    obtain ⟨_, o', ho, hdd⟩ := I.stack.mem hb
    rw [e] at ho; cases ho
    exact hdd vs z
  have slot5 : ∀ b o, s.heap.get? b = some o → H b = none → b ∈ frs X.stack → ∃ sl, h5.get? b = some { o with slots := sl } := fun b o e n hb => by
    obtain ⟨sl, e1⟩ := ux.slot b o e n hb
    obtain ⟨sl2, e2⟩ := sm b _ e1 (fun vs z => nofield hb e vs z)
    exact ⟨sl2, e2⟩
  have ne : ∀ b o, s.heap.get? b = some o → H b = none → b ≠ ea := fun b o e n z => by
    subst z
    by_cases hb : b ∈ frs X.stack
    · obtain ⟨sl, e1⟩ := slot5 b o e n hb
      rw [he] at e1
      have := Option.some.inj e1
      subst this
      exact nofield hb e vs hd
    · have := ux.keep b o e n hb
      rw [f2] at this; cases this
  have neB : ∀ {b : Addr} {o : HO}, H2 b = some o → b ≠ ea := fun e z => by rw [z, h2] at e; cases e
  have up : ∀ {b : Addr} {o : HO}, H2 b = some o → upd H2 ea (.ext (excφ ea C)) b = some o := fun e => by rw [upd_ne (neB e)]; exact e
  refine ⟨h2, I.call' (ch := []) hos ⟨fun b o e n hb _ => f1 b o (ux.keep b o e n hb), fun b o e n hb _ => slot5 b o e n hb, fun b o e n _ => ?_, fun b o e _ => ?_, fun b xs q => up (ux.tups b xs q), fun b o u q => up (ux.frzs b o u q), fun b ps q => ?_⟩ (fun a o e => ?_) hbare (fun b hb => by cases hb)⟩
  · rw [upd_ne (ne b o e n)]; exact ux.free b o e n
  · cases n : H b with
    | none =>
      by_cases hb : b ∈ frs X.stack
      · obtain ⟨sl, e1⟩ := slot5 b o e n hb; exact ⟨_, e1⟩
      · exact ⟨o, f1 b o (ux.keep b o e n hb)⟩
    | some v =>
      obtain ⟨o', e1⟩ := ux.there b o e (by rw [n]; exact fun z => by cases z)
      exact ⟨o', f1 b o' e1⟩
  · obtain ⟨m, e1⟩ := ux.tbls b ps q
    exact ⟨m, up e1⟩
  · by_cases ha : a = ea
    · subst ha
      rw [upd_same] at e
      cases e
      exact ⟨⟨oe, vs, he, hc, hd⟩, ⟨oe, he⟩, fun h1 h2 ⟨o, vs, q1, q2, q3⟩ k => ⟨o, vs, k o q1, q2, q3⟩⟩
    · rw [upd_ne ha] at e
      exact (hok a o e).stay (fun b u _ q => f1 b u q) (fun b q => up q) fun b xs q => up q
end
end G
set_option Elab.async false
set_option linter.all false
set_option maxRecDepth 100000
set_option maxHeartbeats 4000000
namespace G
open PySem PySem.Spec PyProof.Rows L2
/-- the context of a handler's suite -/
@[reducible] def cxM (X : Cx) (ea : Addr) : Cx := { X with A := X.A.mark (some (.ref ea)), calm := false, xe := fun _ _ => False }
section
variable {X : Cx} {pins : List (Addr × Obj)} {H0 Hs0 Hs H : Hp} {σ : PSt} {τ : L2.St} {s : Shared} {ea : Addr}
theorem inv_mark (I : Inv X pins τ H s) : Inv (cxM X ea) pins τ H s :=
  ⟨⟨I.ok.mod, I.ok.kind, I.ok.glob, I.ok.blt, I.ok.above, I.ok.inj, I.ok.has, I.ok.cab, (fun z => nomatch z), I.ok.frames, I.ok.stk, I.ok.exf, I.ok.bs, I.ok.bsz, I.ok.noex, I.ok.exfs, I.ok.funs, I.ok.frf⟩, I.os, I.bare, I.base, I.loc, I.cell, I.free, I.freeC, I.pin, I.hok, I.len⟩
theorem inv_unmark (hX : X.Ok) (I : Inv (cxM X ea) pins τ H s) : Inv X pins τ H s := ⟨hX, I.os, I.bare, I.base, I.loc, I.cell, I.free, I.freeC, I.pin, I.hok, I.len⟩
theorem SR.unset {K : PySem.W.Frag} (S : SR K H0 Hs0 Hs H σ τ) (i : Nat) : SR K H0 Hs0 Hs H (σ.set i none) (τ.set i none) := by
  have get : ∀ {j : Nat} {sv : SV}, (σ.set i none)[j]? = some (some sv) → j ≠ i ∧ σ[j]? = some (some sv) := fun {j sv} e => by
    rcases set_some e with ⟨_, z, _⟩ | ⟨h, e'⟩
    · cases z
    · exact ⟨h, e'⟩
  refine ⟨S.g, fun j sv e => ?_, fun j k xs ys ad hjk e1 e2 e3 => ?_, by rw [List.length_set, List.length_set]; exact S.len⟩
  · obtain ⟨hj, e'⟩ := get e
    obtain ⟨v, e1, r⟩ := S.slot j sv e'
    exact ⟨v, by rw [List.getElem?_set_ne (Ne.symm hj)]; exact e1, r⟩
  · obtain ⟨hj, e1'⟩ := get e1
    obtain ⟨hk, e2'⟩ := get e2
    rw [List.getElem?_set_ne (Ne.symm hj)] at e3
    rw [List.getElem?_set_ne (Ne.symm hk)]
    exact S.inj j k xs ys ad hjk e1' e2' e3
/-- a call, with what it throws -/
theorem run_call {x : Str} {p pos : Pos} {e : Expr} {es : List Expr} {m : List PV → Res PV} {ra : DA} {qs : List PV} {Q : VK} {E : XK} (F : FunIs X x m) (hg : Gl X x) (ha : QA X.nox H0 Hs0 (e :: es) ra)
    (hdb : (x == ("__debug__" : Str)) = false) (he : starEach (e :: es) X.env = (false, eval e X.env) :: starEach es X.env) (hpl : (backTo pos (starEach es X.env)).any (·.1) = false)
    (I : Inv X pins τ H s) (S : SR X.K H0 Hs0 Hs H σ τ) (hps : ra σ = .ok qs)
    (hq : ∀ vs Hs1 H1, Grow Hs H Hs1 H1 → Reps X.K Hs1 vs qs → Ret X.K Hs1 H1 (m qs) (fun c => ∀ (C : Addr) (Hs2 H2 : Hp), ClsIs X.K c C → Grow Hs1 H1 Hs2 H2 → E (.ref C) none H2) Q) :
    wpAny (model X.prog X.w) X.A (eval (.Call (.Name x p) (e :: es) [] pos) X.env) (EP X pins τ Q) (fun e s' => ∃ H1 s1, Inv X pins τ H1 s1 ∧ CXG X.prog X.w X.stack H1 s1 E e s') s := by
  obtain ⟨a, fd, ps, k, hm, hk, hb, hr, har, F⟩ := F.ex
  refine wpAny_Call_Name_kw (ld_glob I hg hm ?_ hdb)
  refine PySem.W.callWith_K (h₀ := X.base) I.ok.mod.kin hk (wpAny_mono (ha pos pins s τ H (fun vs H1 => ∃ Hs1, Grow Hs H Hs1 H1 ∧ Reps X.K Hs1 vs qs) (I.wish _) ⟨Hs, σ, S, by rw [hps]; exact fun vs Hs' H' g r => ⟨Hs', g, r⟩⟩)
    (fun us s1 ⟨vs, H1, I1, r, Hs1, g1, r1⟩ => ⟨I1.unwish.kIn, ?_⟩) fun _ _ z => z.elim) he hpl
  have I1 := I1.unwish
  have hq1 := hq vs Hs1 H1 g1 r1
  have hl : qs.length = ps.length := by
    by_cases hl : qs.length = ps.length
    · exact hl
    · rw [har qs hl] at hq1; exact hq1.elim
  have r2 : Vals (vs ++ []) (us ++ []) := r.append .nil
  have hul : (us ++ []).length = ps.length := by rw [← r2.length, List.append_nil, r1.length, hl]
  refine wpAny_call (codeAny_mono (F.run X.A X.stack s1 H1 ⟨us, []⟩ (us ++ []) (vs ++ []) Q E hr I1.env0 (hb s1 us I1.kIn hul) r2 ⟨by rw [List.append_nil, r1.length, hl], Hs1, qs, g1.i, by rw [List.append_nil]; exact r1, hq1⟩) fun r s' hq => ?_)
  cases r with
  | error e => exact ⟨H1, s1, I1, hq⟩
  | ok fl =>
    cases fl with
    | ret u => exact I1.after hq
    | next => exact False.elim hq
    | brk => exact False.elim hq
    | cont => exact False.elim hq
end
/-! ### try: f(..) except g as n: .. -/
def sTry (m : List PV → Res PV) (ra : DA) (cs : List Str) (i : Nat) (ds : DS) : DS := fun σ => match ra σ with
  | .ok qs => match m qs with
    | .ok _ => .ok (.next σ)
    | .err c => if cs.contains c = true then (match ds (σ.set i (some (.sh (.exc c)))) with
        | .ok (.next σ') => .ok (.next (σ'.set i none))
        | _ => .stuck) else .stuck
    | .stuck => .stuck
  | _ => .stuck
structure Caught (K : PySem.W.Frag) (g : Str) (cs : List Str) : Prop where
  h : ∀ c ∈ cs, ∃ (G C : Addr), ClsIs K g G ∧ ClsIs K c C ∧ PySem.W.exmOne K (.ref C) (.ref G) = some true
section
variable {X : Cx} {H0 Hs0 : Hp}
theorem qs_try {x g n : Str} {i : Nat} {fp cpos bpos gp hpos pos : Pos} {e b0 : Expr} {es : List Expr} {st : Stmt} {sts : List Stmt} {m : List PV → Res PV} {ra : DA} {cs : List Str} {ds : DS} (F : FunIs X x m) (hg : Gl X x) (ha : QA X.nox H0 Hs0 (e :: es) ra)
    (hdb : (x == ("__debug__" : Str)) = false) (he : starEach (e :: es) X.env = (false, eval e X.env) :: starEach es X.env) (hpl : (backTo cpos (starEach es X.env)).any (·.1) = false)
    (hsw : swapsWith (.Call (.Name x fp) (e :: es) [] cpos) none bpos.line X.env = pure false)
    (hst : X.stack = X.env :: X.outer) (hfm : X.env.frame = some X.env.locals) (hgg : Gl X g) (hgd : (g == ("__debug__" : Str)) = false) (hC : Caught X.K g cs) (hN : X.N.Nodup) (hi : X.N[i]? = some n) (hk : X.env.scope.names.lookup n = some .local)
    (hs : ∀ ea, QSs (cxM X ea) H0 Hs0 (st :: sts) ds) :
    QS X H0 Hs0 (.Try [.Expr (.Call (.Name x fp) (e :: es) [] cpos) bpos] [.ExceptHandler (some (.Name g gp)) (some n) (st :: sts) hpos] [] [] pos) (sTry m ra cs i ds) := by
  intro pins s τ H D I ⟨Hs, σ, S, h⟩
  unfold sTry at h
  cases ea' : ra σ with
  | err c => rw [ea'] at h; exact h.elim
  | stuck => rw [ea'] at h; exact h.elim
  | ok qs =>
  rw [ea'] at h
  refine wpAny_Try_except ?_
  have hrun := run_call (Q := fun _ H1 => ∃ v Hs1, m qs = .ok v ∧ Grow Hs H Hs1 H1) (E := fun cls _ H2 => ∃ c C Hs2, cls = .ref C ∧ m qs = .err c ∧ ClsIs X.K c C ∧ Grow Hs H Hs2 H2) (pos := cpos) (p := fp) F hg ha hdb he hpl I S ea' (fun vs Hs1 H1 g1 r1 => by
    cases em : m qs with
    | ok v => exact fun v' Hs' H' g' r' => ⟨v, Hs', rfl, g1.trans g'⟩
    | err c => exact fun C Hs2 H2 hc g2 => ⟨c, C, Hs2, rfl, rfl, hc, g1.trans g2⟩
    | stuck => simp only [em] at h; exact h.elim)
  refine wpAny_execs_cons (wpAny_Expr_any (wpAny_mono hrun (fun v s1 ⟨_, H1, I1, _, v', Hs1, em, g1⟩ => wpAny_execs_nil ?_) fun e' s' ⟨H1, s1, I1, ea, C, B, a0, H2, eq1, hos, hbare, fl, ux, hok, c, C', Hs2, ecls, em, hcl, g2⟩ => ?_) I.quiet hsw)
  · simp only [em] at h
    exact wpAny_execs_nil ⟨τ, H1, I1, h Hs1 H1 τ g1.s (S.grow g1)⟩
  · subst eq1
    cases ecls
    simp only [em] at h
    split at h
    · rename_i hin
      have hin : c ∈ cs := by simpa using hin
      obtain ⟨G, C2, hG, hC2, hex⟩ := hC.h c hin
      have eC : C2 = C := by
        have := hC2.symm.trans hcl
        injection this with this
        injection this with this
        injection this
      subst eC
      have hfr : X.A.frames = some (X.env :: X.outer) := by rw [← hst]; exact I1.ok.frames
      rw [hst] at fl
      refine wpAny_looks_onW hfr hfm fl fun h4 held4 sm4 => ?_
      refine wpAny_landsW held4 fun h5 fl5 sm5 => ?_
      have sm45 := sm4.trans sm5
      rw [← hst] at fl5
      obtain ⟨hn5, I5⟩ := landed I1 hos hbare ux hok fl5 sm45
      have I5m := inv_mark (ea := ea) I5
      refine wpAny_handleBy_cons (codeAny_handlers_test (ld_glob (X := cxM X ea) I5m hgg (PySem.W.mg_of I5.kIn (I5.mod.glob.keeps I5.bk) hG) ?_ hgd)) (by intro q; cases q)
      obtain ⟨ob, hob, hobc⟩ := fl5.there
      have lt : PySem.W.Looks (model X.prog X.w) h5 (typeOf (.ref ea)) ob.cls := (PySem.W.Looks.ld hob).andThen .now
      rw [hobc] at lt
      refine (PySem.W.exm_one (K := X.K) I5.kIn lt hex).at ?_
      show codeAny _ _ _ _ _
      refine codeAny_handlers_suite_as ?_
      refine lands_againW fl5 fun h6 fl6 sm6 => ?_
      obtain ⟨hn6, I6⟩ := landed I1 hos hbare ux hok fl6 (sm45.trans sm6)
      have g3 : Grow Hs H (upd Hs2 ea (.ext (excφ ea C2))) (upd H2 ea (.ext (excφ ea C2))) := g2.trans (.new g2.i hn6)
      refine store_ok (X := cxM X ea) (inv_mark I6) hN hi (.inl hk) (v := .ref ea) rfl (fun s7 I7 => ?_) (.inr hk)
      have S3 := (S.grow g3).set i (v := .ref ea) (p := .exc c) (.exc upd_same hcl)
      cases eds : ds (σ.set i (some (.sh (.exc c)))) with
      | err c' => rw [eds] at h; exact h.elim
      | stuck => rw [eds] at h; exact h.elim
      | ok fl =>
        rw [eds] at h
        cases fl with
        | brk σ' => exact h.elim
        | cont σ' => exact h.elim
        | ret p => exact h.elim
        | next σ' =>
          refine wpAny_mono (hs ea pins s7 _ _ { nx := fun τ' H' => ∃ Hs', Same Hs Hs' ∧ SR X.K H0 Hs0 Hs' H' σ' τ', rt := fun _ _ => False } I7 ⟨_, _, S3, by
            rw [eds]
            exact fun Hs' H' τ' e S' => ⟨Hs', g3.s.trans e, S'⟩⟩) (fun f s8 q => ?_) fun _ _ z => z.elim
          cases f with
          | brk => obtain ⟨_, _, _, z⟩ := q; exact z.elim
          | cont => obtain ⟨_, _, _, z⟩ := q; exact z.elim
          | ret u => obtain ⟨_, _, _, _, _, z⟩ := q; exact z.elim
          | next =>
            obtain ⟨τ8, H8, I8, Hs8, e8, S8⟩ := q
            refine goes_ok (inv_unmark I.ok I8) hN hi hk fun s9 I9 => ⟨_, H8, I9, ?_⟩
            exact h Hs8 H8 _ e8 (S8.unset i)
    · exact h.elim
end
end G
set_option Elab.async false
set_option linter.all false
set_option maxRecDepth 100000
set_option maxHeartbeats 4000000
namespace G
open PySem PySem.Spec PyProof.Rows L2
section
open PySem.W PySem.Calls Builtin Builtin.ObjectAttr Builtin.Getset_descriptor
variable {prog : Program} {w : World} {A : Around} {s : Shared} {K : Frag} {x C : Addr} {R : Result → Shared → Prop}
theorem class_getL {tp : Value} (X : K.In s.heap) (L0 : Looks (model prog w) s.heap (typeOf (.ref x)) (.ref C)) (hm : mroIn K C (.type "object") = some true)
    (h : R (.ok (.ret (.ref C))) s) : codeAny (model prog w) A (.call (.builtin "getset_descriptor.__get__") ⟨[.builtin "object.__class__", .ref x, tp], []⟩) R s := by
  obtain ⟨hh, g, dr, t, os⟩ := s
  have L1 := looks_mroIn (M := model prog w) X hm
  refine codeAny_call_builtin KF.slot_gs.plain KF.entry_gs (KF.slot_gs.check _ _ _ _ _ _ _ _ KF.type_class (KF.args_gs _ _ _) ?_)
  unfold Builtin.«getset_descriptor.__get__» descrGet
  rw [dga_obj]
  refine wpAny_bind (wpAny_pure ?_)
  unfold descrGetter descrCheckInstance descrNameAndClass isInstance
  simp only [KF.owner_class]
  repeat lk
  refine ⟨Code.quiet_builtin _ (by decide +kernel), codeAny_builtin KF.entry_class ?_⟩
  unfold Builtin.«object.__class__» shownTypeOf
  repeat lk
  exact h
theorem find_data {M : Model} {h : Heap} {name : Str} {a g : Value} (X : K.In h) (ha : findIn K (.ref C) name = some (some a)) (hg : specialIn K a "__get__" = some (some g)) (ht : takesIn K a = some true) : Looks M h (find (.ref x) (.ref C) name) (.bind g a) := by
  have L1 := looks_findIn (M := M) X ha
  have L2 : Looks M h (getOf (some a)) (some g) := looks_specialIn X hg
  have L3 := looks_takesIn (M := M) X ht
  exact L1.andThen (L2.andThen ((show Looks M h (dataDescriptor? (some a) (some g)) (some (g, a)) from L3.andThen .now).andThen (Looks.tag .now)))
end
section
variable {prog : Program} {w : World} {A : Around} {E : Value → Shared → Prop} {s : Shared} {K : PySem.W.Frag} {x C : Addr} {ox : Obj}
theorem exc_class {Q : Option Value → Shared → Prop} (hc : (PySem.W.clsIn K C).isSome = true) (hga : PySem.W.findIn K (.ref C) "__getattribute__" = some (some (.builtin "BaseException.__getattribute__"))) (hk : PySem.W.findIn K (.ref C) "__getattr__" = some none)
    (ha : PySem.W.findIn K (.ref C) "__class__" = some (some (.builtin "object.__class__"))) (hn : PySem.W.specialIn K (.builtin "object.__class__") "__get__" = some (some (.builtin "getset_descriptor.__get__"))) (htk : PySem.W.takesIn K (.builtin "object.__class__") = some true) (hm : PySem.W.mroIn K C (.type "object") = some true)
    (hb : PySem.W.mroIn K C (.type "BaseException") = some true)
    (X : K.In s.heap) (L0 : PySem.W.Looks (model prog w) s.heap (typeOf (.ref x)) (.ref C)) (h : Q (some (.ref C)) { s with toks := s.toks + 1 }) : wpAny (model prog w) A (getAttr? (.ref x) "__class__") Q E s := by
  obtain ⟨hh, g, d, t, os⟩ := s
  have L1 := PySem.W.looks_findIn (M := model prog w) X hga
  have L2 := PySem.W.looks_findIn (M := model prog w) X hk
  have LF := find_data (M := model prog w) X ha hn htk (x := x)
  have LB := PySem.W.looks_mroIn (M := model prog w) X hb
  have hx2 : (Value.builtin "BaseException.__getattribute__" == Value.builtin "object.__getattribute__") = false := by decide +kernel
  unfold getAttr? getAttrBy? getAttrBy
  refine wpAny_bind (wpAny_mkText (wpAny_bind (wpAny_attempt (wpAny_holding (wpAny_bind (L0.at (wpAny_bind (L1.at ?_))))))))
  dsimp only
  rw [hx2, Bool.and_false, if_neg Bool.false_ne_true]
  unfold getAttrByItsOwn
  refine wpAny_bind (show wpAny _ _ (typeLookup (.ref C) "__getattr__") _ _ _ from L2.at ?_)
  refine wpAny_bind (wpAny_attempt (wpAny_holding ?_))
  show wpAny _ _ (boundAndCalled _ _ _) _ _ _
  unfold boundAndCalled
  refine wpAny_bind (wpAny_of_eq (PySem.F.attr_ValueError.ga.bind (.ref x)) ?_)
  refine wpAny_call (codeAny_call_builtin PySem.F.attr_ValueError.ga.plain PySem.F.entry_bexc_ga ?_)
  have hk1 : builtinKind "BaseException.__getattribute__" = some .slot := by decide +kernel
  have hsplit : splitId "BaseException.__getattribute__" = some ("BaseException", "__getattribute__") := by decide +kernel
  have hargs := PySem.F.args_bexc_ga (.ref x) (.str "__class__" t)
  have LI : PySem.W.Looks (model prog w) hh (isInstance (.ref x) (.type "BaseException")) true := L0.andThen LB
  simp only [List.singleton_append, checkBuiltinCall, hk1, hsplit]
  refine wpAny_bind ?_
  refine LI.at ?_
  simp only [Bool.not_true, Bool.false_eq_true, if_false]
  refine wpAny_of_eq hargs ?_
  show wpAny _ _ (Builtin.«object.__getattribute__» _) _ _ _
  unfold Builtin.«object.__getattribute__»
  repeat (any_goals (first | assumption | with_reducible refine L0.at ?_ | with_reducible refine LF.at ?_ | wp_step))
  refine class_getL X L0 hm ?_
  exact wpAny_pure (PySem.W.handed_on rfl (wpAny_pure h))
end
end G
set_option Elab.async false
set_option linter.all false
set_option maxRecDepth 100000
set_option maxHeartbeats 4000000
namespace G
open PySem PySem.Spec PyProof.Rows L2
open PySem.W (clsIn findIn specialIn takesIn mroIn kitOne kitAny KitX Looks)
/-- what is asked of an exception's class -/
def excOk (K : PySem.W.Frag) (C : Addr) : Bool := (clsIn K C).isSome && findIn K (.ref C) "__getattribute__" == some (some (.builtin "BaseException.__getattribute__")) && findIn K (.ref C) "__getattr__" == some none
  && findIn K (.ref C) "__class__" == some (some (.builtin "object.__class__")) && specialIn K (.builtin "object.__class__") "__get__" == some (some (.builtin "getset_descriptor.__get__")) && takesIn K (.builtin "object.__class__") == some true
  && mroIn K C (.type "object") == some true && mroIn K C (.type "BaseException") == some true
def ExcHere (x C : Addr) (h : Heap) : Prop := ∃ o, h.get? x = some o ∧ o.cls = .ref C
theorem ExcHere.ty {M : Model} {x C : Addr} {h : Heap} (p : ExcHere x C h) : Looks M h (typeOf (.ref x)) (.ref C) := by
  obtain ⟨o, h1, h2⟩ := p
  exact h2 ▸ (Looks.ld h1).andThen .now
theorem kitx_exc {K : PySem.W.Frag} {x C : Addr} (q : excOk K C = true) : KitX K (.ref x) (.ref C) (ExcHere x C) := by
  unfold excOk at q
  simp only [Bool.and_eq_true, beq_iff_eq] at q
  obtain ⟨⟨⟨⟨⟨⟨⟨hc, hga⟩, hk⟩, ha⟩, hn⟩, htk⟩, hm⟩, hb⟩ := q
  refine ⟨fun M h _ p => p.ty, fun M h X _ => ?_, fun h tp dd its n sl X htp => ?_, fun {_ _ _ _ _ s} X p k => exc_class hc hga hk ha hn htk hm hb X p.ty k⟩
  · obtain ⟨cd, hcd⟩ := Option.isSome_iff_exists.mp hc
    unfold clsIn at hcd
    split at hcd
    · rename_i c' d' cd' sl' ho
      intro A' Q' E' s' k q
      unfold isType loadHead
      exact wpAny_bind (wpAny_loadPart (k _ _ (X _ _ ho)) (wpAny_pure q))
    · cases hcd
  · obtain ⟨cd, hcd⟩ := Option.isSome_iff_exists.mp hc
    refine Bool.eq_false_iff.mpr fun q => ?_
    have e : C = tp := Value.ref.inj (beq_iff_eq.mp q)
    subst e
    unfold clsIn at hcd
    split at hcd
    · rename_i c' d' cd' sl' ho
      have z := (X _ _ ho).symm.trans htp
      cases z
    · cases hcd
/-- which classes are (not) kinds of t -/
structure IsTab (K : PySem.W.Frag) (t : List Value) (tab : List (Str × Bool)) : Prop where
  non : kitAny K (.type "NoneType") t = some false
  exc : ∀ c b, tab.lookup c = some b → ∃ C : Addr, ClsIs K c C ∧ excOk K C = true ∧ kitAny K (.ref C) t = some b
def pIsiX (tab : List (Str × Bool)) : PV → Res PV
  | .non => .ok (.bl false)
  | .exc c => match tab.lookup c with
    | some b => .ok (.bl b)
    | none => .stuck
  | _ => .stuck
theorem pIsiX_e {tab : List (Str × Bool)} {c : Str} : pIsiX tab (.exc c) = (match tab.lookup c with
    | some b => Res.ok (PV.bl b)
    | none => Res.stuck) := rfl
theorem kitAny_one {K : PySem.W.Frag} {t c : Value} {b : Bool} (h : kitAny K t [c] = some b) : kitOne K t c = some b := by
  unfold kitAny at h
  split at h
  · rename_i e; rw [e]; cases h; rfl
  · rename_i e; rw [e]; cases h; rfl
  · cases h
section
variable {X : Cx} {pins : List (Addr × Obj)} {τ : L2.St} {Hs H : Hp} {s : Shared} {Q : Value → Shared → Prop} {E : Value → Shared → Prop} {x : V} {u : Value} {p : PV} {tab : List (Str × Bool)} {b : Bool}
theorem exc_here {a C : Addr} (I : Inv X pins τ H s) (h : H a = some (.ext (excφ a C))) : ExcHere a C s.heap := by
  obtain ⟨⟨o, vs, h1, h2, _⟩, _⟩ := I.hok a _ h
  exact ⟨o, h1, h2⟩
theorem isx_one {t : Value} (I : Inv X pins τ H s) (i : Same Hs H) (rx : RelV x u) (r : Rep X.K Hs x p) (T : IsTab X.K [t] tab) (hb : pIsiX tab p = .ok (.bl b)) (h : ∀ tk, Q (.bool b) { s with toks := tk }) :
    wpAny (model X.prog X.w) X.A (call (.builtin "isinstance") [u, t]) Q E s := by
  cases r with
  | non =>
    cases hb
    cases (show u = Value.none from rx)
    exact PySem.W.kia_one PySem.W.kitx_none I.kIn True.intro (kitAny_one T.non) (fun z => nomatch z) h
  | @exc a C c hl hc =>
    have hb : (match tab.lookup c with
      | some b => Res.ok (PV.bl b)
      | none => Res.stuck) = Res.ok (PV.bl b) := hb
    cases e : tab.lookup c with
    | none => rw [e] at hb; cases hb
    | some b' =>
      rw [e] at hb
      cases hb
      obtain ⟨C', h1, h2, h3⟩ := T.exc c b e
      have eC : C' = C := by
        have := h1.symm.trans hc
        injection this with this
        injection this with this
        injection this
      subst eC
      cases (show u = Value.ref a from rx)
      exact PySem.W.kia_one (kitx_exc h2) I.kIn (exc_here I (i _ _ hl)) (kitAny_one h3) (fun z => nomatch z) h
  | _ => cases hb
theorem isx_tup {tp : Addr} {ts : List Value} (I : Inv X pins τ H s) (i : Same Hs H) (rx : RelV x u) (r : Rep X.K Hs x p) (ht : IsTup s.heap tp ts.toArray) (T : IsTab X.K ts tab) (hb : pIsiX tab p = .ok (.bl b)) (h : ∀ tk, Q (.bool b) { s with toks := tk }) :
    wpAny (model X.prog X.w) X.A (call (.builtin "isinstance") [u, .ref tp]) Q E s := by
  obtain ⟨o, ho, hoc, n, hod⟩ := ht
  obtain ⟨oc, od, oda, osl⟩ := o
  dsimp only at hoc hod
  subst hoc hod
  cases r with
  | non =>
    cases hb
    cases (show u = Value.none from rx)
    exact PySem.W.kia_tup PySem.W.kitx_none I.kIn True.intro ho T.non (fun z => nomatch z) h
  | @exc a C c hl hc =>
    have hb : (match tab.lookup c with
      | some b => Res.ok (PV.bl b)
      | none => Res.stuck) = Res.ok (PV.bl b) := hb
    cases e : tab.lookup c with
    | none => rw [e] at hb; cases hb
    | some b' =>
      rw [e] at hb
      cases hb
      obtain ⟨C', h1, h2, h3⟩ := T.exc c b e
      have eC : C' = C := by
        have := h1.symm.trans hc
        injection this with this
        injection this with this
        injection this
      subst eC
      cases (show u = Value.ref a from rx)
      exact PySem.W.kia_tup (kitx_exc h2) I.kIn (exc_here I (i _ _ hl)) ho h3 (fun z => nomatch z) h
  | _ => cases hb
end
section
variable {X : Cx} {H0 Hs0 : Hp} {a : Expr} {da : DE} {pos p1 p2 : Pos} {tab : List (Str × Bool)}
theorem isx_ok {p : PV} {Hs H : Hp} {Q : VK} (h : Ret X.K Hs H (pIsiX tab p) (ErrOk X H0 Hs0) Q) (i : Same Hs H) : ∃ b, pIsiX tab p = .ok (.bl b) ∧ Q (.bl b) H := by
  have key : (∃ b, pIsiX tab p = .ok (.bl b)) ∨ pIsiX tab p = .stuck := by
    cases p with
    | non => exact .inl ⟨false, rfl⟩
    | exc c =>
      cases e : tab.lookup c with
      | none => exact .inr (by rw [pIsiX_e, e])
      | some b => exact .inl ⟨b, by rw [pIsiX_e, e]⟩
    | _ => exact .inr rfl
  rcases key with ⟨b, e⟩ | e
  · rw [e] at h; exact ⟨b, e, ret_bl h i⟩
  · rw [e] at h; exact h.elim
/-- isinstance(a, C), C one class of the text or a built-in one -/
theorem q_isx {x : Str} {t : V} {tv : Value} (ha : QE X H0 Hs0 a da) (hc : PE X (.Name x p2) (tC t)) (rt : RelV t tv) (ut : ∀ u, RelV t u → u = tv) (T : IsTab X.K [tv] tab) (hg : Gl X "isinstance") (hm : X.mg "isinstance" = none)
    (h1 : starEach [a, .Name x p2] X.env = (false, eval a X.env) :: starEach [.Name x p2] X.env) (h2 : starEach [.Name x p2] X.env = [(false, eval (.Name x p2) X.env)])
    (hpl : (backTo pos (starEach [.Name x p2] X.env)).any (·.1) = false) : QE X H0 Hs0 (.Call (.Name "isinstance" p1) [a, .Name x p2] [] pos) (e1 (pIsiX tab) da) := by
  have cr : CallR X (.builtin "isinstance") (fun xs H Q => ∃ Hs y p b, xs = [y, t] ∧ Same Hs H ∧ Rep X.K Hs y p ∧ pIsiX tab p = .ok (.bl b) ∧ Q (.bl b) H) := by
    intro pins s σ H xs us Q I r ⟨Hs, y, p, b, e, i, rp, hb, q⟩
    subst e
    cases r with
    | cons r1 r2 =>
      cases r2 with
      | cons r3 r4 =>
        cases r4
        cases ut _ r3
        exact isx_one I i r1 rp T hb fun tk => ⟨.bl _, H, I.tok tk, rfl, q⟩
  exact PE.imp (pe_callB cr hg hm boot_isi (pa_cons ha (pa_cons hc pa_nil h2) h1) (by decide) (by decide) h1 hpl) fun τ H Q h =>
    RE.mono (one h) fun y H1 ⟨Hs, p, i, r, h1⟩ => by
      obtain ⟨b, e, q⟩ := isx_ok h1 i
      exact ⟨Hs, y, p, b, rfl, i, r, e, q⟩
/-- the classes of a tuple, by their names -/
inductive ClsL (K : PySem.W.Frag) : List Str → List Addr → Prop
  | nil : ClsL K [] []
  | cons {x : Str} {C : Addr} {xs : List Str} {Cs : List Addr} : ClsIs K x C → ClsL K xs Cs → ClsL K (x :: xs) (C :: Cs)
theorem vals_refs : ∀ {Cs : List Addr} {us : List Value}, Vals (Cs.map V.ref) us → us = Cs.map Value.ref
  | [], _, .nil => rfl
  | C :: Cs, _, .cons r t => by
    cases (show _ = Value.ref C from r)
    rw [vals_refs t]
    rfl
def tRefs (Cs : List Addr) : TA := fun _ H Q => Q (Cs.map V.ref) H
theorem pa_refs : ∀ {es : List Expr} {Cs : List Addr}, (∀ (i : Nat) (e : Expr) (C : Addr), es[i]? = some e → Cs[i]? = some C → PE X e (tC (.ref C))) → es.length = Cs.length → (∀ i, starEach (es.drop i) X.env = (es.drop i).map fun e => (false, eval e X.env)) → PA X es (tRefs Cs)
  | [], [], _, _, _ => pa_nil
  | e :: es, C :: Cs, h, hl, hs => by
    have h1 := h 0 e C rfl rfl
    have h2 := pa_refs (es := es) (Cs := Cs) (fun i e' C' a b => h (i + 1) e' C' (by simpa using a) (by simpa using b)) (by simpa using hl) (fun i => by have := hs (i + 1); simpa using this)
    have s0 := hs 0
    have s1 := hs 1
    simp only [List.drop_zero, List.map_cons] at s0
    simp only [List.drop_succ_cons, List.drop_zero] at s1
    exact fun pos pins s σ H Q I q => pa_cons h1 h2 (by rw [s0, s1]) pos pins s σ H Q I q
/-- isinstance(a, (C, D, ..)) -/
theorem q_isxt {es : List Expr} {Cs : List Addr} {k : Nat} {tp : Pos} (ha : QE X H0 Hs0 a da) (hc : PA X es (tRefs Cs)) (hz : Cs.length ≤ 1000) (T : IsTab X.K (Cs.map Value.ref) tab) (hg : Gl X "isinstance") (hm : X.mg "isinstance" = none)
    (h1 : starEach [a, .Tuple es k tp] X.env = (false, eval a X.env) :: starEach [.Tuple es k tp] X.env) (h2 : starEach [.Tuple es k tp] X.env = [(false, eval (.Tuple es k tp) X.env)])
    (hpl : (backTo pos (starEach [.Tuple es k tp] X.env)).any (·.1) = false) : QE X H0 Hs0 (.Call (.Name "isinstance" p1) [a, .Tuple es k tp] [] pos) (e1 (pIsiX tab) da) := by
  have cr : CallR X (.builtin "isinstance") (fun xs H Q => ∃ Hs y q p b, xs = [y, .ref q] ∧ Same Hs H ∧ Rep X.K Hs y p ∧ H q = some (.tup (Cs.map V.ref)) ∧ pIsiX tab p = .ok (.bl b) ∧ Q (.bl b) H) := by
    intro pins s σ H xs us Q I r ⟨Hs, y, q, p, b, e, i, rp, hq, hb, k⟩
    subst e
    cases r with
    | cons r1 r2 =>
      cases r2 with
      | cons r3 r4 =>
        cases r4
        cases (show _ = Value.ref q from r3)
        obtain ⟨z, its, rv, ht⟩ := I.hok q _ hq
        cases vals_refs rv
        exact isx_tup I i r1 rp ht T hb fun tk => ⟨.bl _, H, I.tok tk, rfl, k⟩
  exact PE.imp (pe_callB cr hg hm boot_isi (pa_cons ha (pa_cons (pe_tup hc) pa_nil h2) h1) (by decide) (by decide) h1 hpl) fun τ H Q h =>
    RE.mono (one h) fun y H1 ⟨Hs, p, i, r, h1⟩ => by
      obtain ⟨b, e, _⟩ := isx_ok h1 i
      refine ⟨small7 (by rw [List.length_map]; omega), fun q hq => ⟨Hs, y, q, p, b, rfl, i.trans (same_upd hq), r, upd_same, e, ?_⟩⟩
      rw [e] at h1
      exact h1 _ (upd Hs q _) _ (.new i hq) (.bl b)
end
end G
set_option Elab.async false
set_option linter.all false
set_option maxRecDepth 100000
set_option maxHeartbeats 4000000
namespace G
open PySem PySem.Spec PyProof.Rows L2
open PySem.W (kitAny)
def finE : Res Fl → Res PV
  | .ok (.ret p) => .ok p
  | .ok (.next _) => .ok .non
  | .err c => .err c
  | _ => .stuck
def runE (n m : Nat) (d : DS) (ps : List PV) : Res PV := if ps.length = n then finE (d (start0 m ps)) else .stuck
theorem runE_eq {n m : Nat} {d : DS} {ps : List PV} (h : ps.length = n) : runE n m d ps = finE (d (start0 m ps)) := if_pos h
theorem runE_ne {n m : Nat} {d : DS} {ps : List PV} (h : ps.length ≠ n) : runE n m d ps = .stuck := if_neg h
section
variable {P : Program} {w : World} {K : PySem.W.Frag} {mg : Str → Option Value} {base h : Heap}
theorem fn_okE {x qual : Str} {st : Stmt} {f : Addr} {fd : FuncData} {N ps : List Str} {k : Nat} {d : DS} (F : Fun K x qual st f fd) (S : FnScope N ps (defScope st))
    (hbody : ∀ (cdv : Value) (A : Around) (outer : List Env) (s : Shared) (H Hs : Hp) (E : XK), Room k (A.deeper (envOfC qual (defScope st) s.heap.objs.size f cdv)) →
      QSs (cxOf (CXG P w) P w K mg base N qual (defScope st) f cdv A outer s H E) H Hs (defBody st) d) :
    FnOk P w K mg base (CXG P w) (k + 1) f fd ps (Fsp K ps.length (runE ps.length N.length d)) := by
  have hpl : ps.length ≤ N.length := by have := congrArg List.length S.pre; rw [List.length_take] at this; omega
  refine fun_okX F S (fun vs H Q E h => h.1) (fun cdv A outer s H vs Q E hr h => ?_)
  obtain ⟨hl, Hs, qs, i, r, h⟩ := h
  refine ⟨_, hbody cdv A outer s H Hs E hr, Hs, start0 N.length qs, SR.start i r (by omega), ?_⟩
  rw [runE_eq (by rw [← r.length, hl])] at h
  generalize d (start0 N.length qs) = rr at h ⊢
  cases rr with
  | ok fl =>
    cases fl with
    | next σ' => exact fun Hs' H' τ' _ S' => h _ Hs' H' S'.g .non
    | ret p => exact fun v Hs' H' g rv => h v Hs' H' g rv
    | brk σ' => exact h.elim
    | cont σ' => exact h.elim
  | err c => exact err_ok fun C Hs1 H1 hc g => h C Hs1 H1 hc g
  | stuck => exact h
theorem def_inE {x : Str} {st : Stmt} {N ps : List Str} {k : Nat} {d : DS} (D : DefAt K x st) (KI : K.In h) (GN : h.Ns mainGlobals mg) (S : FnScope N ps (defScope st))
    (hb : ∀ (kV doc pm : Value) (an : Option Addr) (cdv ct : Value) (us : List Value), us.length = ps.length → bindArgs (PySem.W.fnOf x x (defArgs st) (defBody st) (defScope st) .none kV doc pm an cdv ct) ⟨us, []⟩ = pure (ps.zip us))
    (hbody : ∀ (f : Addr) (cdv : Value) (A : Around) (outer : List Env) (s : Shared) (H Hs : Hp) (E : XK), Room k (A.deeper (envOfC x (defScope st) s.heap.objs.size f cdv)) →
      XB (cxOf (CXG P w) P w K mg base N x (defScope st) f cdv A outer s H E) H Hs (defBody st) d) : FunIn P w K mg base x (k + 1) (runE ps.length N.length d) := by
  obtain ⟨f, fd, a, F⟩ := D.ex
  exact ⟨f, fd, ps, PySem.W.mg_of KI GN a, F.kp, F.binds hb, fun qs h => runE_ne h, fn_okE F S fun cdv A outer s H Hs E hr => (hbody f cdv A outer s H Hs E hr).h⟩
end
/-! ### class facts by their names -/
section
variable {K : PySem.W.Frag} {x g c : Str} {C G : Addr}
theorem exc_at (a : ClsIs K x C) (q : PySem.W.excIn K C [.type "ValueError", .type "Exception", .type "BaseException", .type "object"] "ValueError.__new__" = true) : ExcAt K x := ⟨C, a, q⟩
theorem caught0 : Caught K g [] := ⟨fun c h => nomatch h⟩
theorem caught1 {cs : List Str} (a : ClsIs K g G) (b : ClsIs K c C) (e : PySem.W.exmOne K (.ref C) (.ref G) = some true) (r : Caught K g cs) : Caught K g (c :: cs) := ⟨fun d hd => by
  rcases List.mem_cons.mp hd with rfl | hd
  · exact ⟨G, C, a, b, e⟩
  · exact r.h d hd⟩
theorem istab0 {t : List Value} (n : kitAny K (.type "NoneType") t = some false) : IsTab K t [] := ⟨n, fun c b h => nomatch h⟩
theorem istab1 {t : List Value} {v : Bool} {tab : List (Str × Bool)} (b : ClsIs K c C) (q : excOk K C = true) (e : kitAny K (.ref C) t = some v) (r : IsTab K t tab) : IsTab K t ((c, v) :: tab) := ⟨r.non, fun d w hd => by
  rw [List.lookup_cons] at hd
  split at hd
  · rename_i hb
    have : d = c := by simpa using hb
    subst this
    cases hd
    exact ⟨C, b, q, e⟩
  · exact r.exc d w hd⟩
structure IsOwn (K : PySem.W.Frag) (g : Str) (tab : List (Str × Bool)) : Prop where
  ex : ∃ G : Addr, ClsIs K g G ∧ IsTab K [.ref G] tab
structure IsMany (K : PySem.W.Frag) (gs : List Str) (tab : List (Str × Bool)) : Prop where
  ex : ∃ Cs : List Addr, ClsL K gs Cs ∧ IsTab K (Cs.map Value.ref) tab
end
section
variable {X : Cx} {H0 Hs0 : Hp} {a : Expr} {da : DE} {es : List Expr} {ra : DA} {pos p1 p2 p : Pos} {tab : List (Str × Bool)} {x g t : Str}
/-- the globals by K, in a def's context -/
def KGl (X : Cx) : Prop := ∀ (y : Str) (C : Addr), ClsIs X.K y C → X.mg y = some (.ref C)
theorem ClsL.get {K : PySem.W.Frag} {gs : List Str} {Cs : List Addr} (h : ClsL K gs Cs) : gs.length = Cs.length ∧ ∀ (i : Nat) (y : Str) (C : Addr), gs[i]? = some y → Cs[i]? = some C → ClsIs K y C := by
  induction h with
  | nil => exact ⟨rfl, fun i y C h => by simp at h⟩
  | cons a _ ih =>
    refine ⟨by simp [ih.1], fun i y C e1 e2 => ?_⟩
    cases i with
    | zero => simp at e1 e2; subst e1 e2; exact a
    | succ i => exact ih.2 i y C (by simpa using e1) (by simpa using e2)
theorem xraise {np cpos cp : Pos} {j} (hx : ExcAt X.K x) (hc : X.calm = true := by rfl) (hg : Gl X x := by rfl) (hd : (x == ("__debug__" : Str)) = false := by decide) :
    XS X H0 Hs0 (.Raise (some (.Call (.Name x np) [.Constant (.str t) j cp] [] cpos)) none pos) (sRaise x) := ⟨qs_raise hx hc hg hd rfl⟩
theorem xcFe {e : Expr} {m : List PV → Res PV} (F : FunIs X x m) (ha : XA X H0 Hs0 (e :: es) ra) (hg : Gl X x := by rfl)
    (hdb : (x == ("__debug__" : Str)) = false := by decide) (he : noStar e = true := by rfl) (hpl : es.all noStar = true := by rfl) :
    XE X H0 Hs0 (.Call (.Name x p) (e :: es) [] pos) (eA m ra) := ⟨q_callE F hg ha.h hdb (star_cons he) (star_any hpl)⟩
theorem xtry (i : Nat) {n : Str} {fp cpos bpos gp hpos : Pos} {e : Expr} {st : Stmt} {sts : List Stmt} {m : List PV → Res PV} {cs : List Str} {ds : DS} (F : FunIs X x m) (ha : XA X.nox H0 Hs0 (e :: es) ra) (hC : Caught X.K g cs) (hs : ∀ ea, XB (cxM X ea) H0 Hs0 (st :: sts) ds)
    (hN : X.N.Nodup := by assumption) (hg : Gl X x := by rfl) (hdb : (x == ("__debug__" : Str)) = false := by decide) (he : noStar e = true := by rfl) (hpl : es.all noStar = true := by rfl)
    (hst : X.stack = X.env :: X.outer := by rfl) (hfm : X.env.frame = some X.env.locals := by rfl) (hgg : Gl X g := by rfl) (hgd : (g == ("__debug__" : Str)) = false := by decide) (hi : X.N[i]? = some n := by rfl) (hk : X.env.scope.names.lookup n = some .local := by rfl) :
    XS X H0 Hs0 (.Try [.Expr (.Call (.Name x fp) (e :: es) [] cpos) bpos] [.ExceptHandler (some (.Name g gp)) (some n) (st :: sts) hpos] [] [] pos) (sTry m ra cs i ds) :=
  ⟨qs_try (b0 := e) F hg ha.h hdb (star_cons he) (star_any hpl) rfl hst hfm hgg hgd hC hN hi hk fun ea => (hs ea).h⟩
theorem xisb {T : String} (ha : XE X H0 Hs0 a da) (hx : bootBuiltins x = some (.type T)) (I : IsTab X.K [.type T] tab) (hm : X.mg "isinstance" = none) (hm2 : X.mg x = none) (hg : Gl X "isinstance" := by rfl) (hg2 : Gl X x := by rfl) (hn : x ≠ "__name__" := by decide)
    (hdb : (x == ("__debug__" : Str)) = false := by decide) (h1 : noStar a = true := by rfl) : XE X H0 Hs0 (.Call (.Name "isinstance" p1) [a, .Name x p2] [] pos) (e1 (pIsiX tab) da) :=
  ⟨q_isx ha.h (pe_bltn (v := .ty T) hg2 hm2 hx rfl hn hdb) rfl (fun u r => r) I hg hm (star_cons h1) rfl rfl⟩
theorem xiso (ha : XE X H0 Hs0 a da) (I : IsOwn X.K g tab) (KG : KGl X) (hm : X.mg "isinstance" = none) (hg : Gl X "isinstance" := by rfl) (hg2 : Gl X g := by rfl)
    (hdb : (g == ("__debug__" : Str)) = false := by decide) (h1 : noStar a = true := by rfl) : XE X H0 Hs0 (.Call (.Name "isinstance" p1) [a, .Name g p2] [] pos) (e1 (pIsiX tab) da) := by
  obtain ⟨G, hG, T⟩ := I.ex
  exact ⟨q_isx ha.h (pe_glob (v := .ref G) hg2 (KG g G hG) rfl hdb) rfl (fun u r => r) T hg hm (star_cons h1) rfl rfl⟩
/-- the names of a tuple of classes -/
def namesOf : List Expr → Option (List Str)
  | [] => some []
  | .Name x _ :: r => (namesOf r).map (x :: ·)
  | _ => none
theorem namesOf_get : ∀ {es : List Expr} {gs : List Str}, namesOf es = some gs → es.length = gs.length ∧ ∀ (i : Nat) (e : Expr), es[i]? = some e → ∃ y q, e = .Name y q ∧ gs[i]? = some y
  | [], gs, h => by cases h; exact ⟨rfl, fun i e h => by simp at h⟩
  | .Name x q :: r, gs, h => by
    unfold namesOf at h
    cases e : namesOf r with
    | none => rw [e] at h; cases h
    | some ys =>
      rw [e] at h
      cases h
      obtain ⟨h1, h2⟩ := namesOf_get e
      refine ⟨by simp [h1], fun i e' he => ?_⟩
      cases i with
      | zero => simp at he; subst he; exact ⟨x, q, rfl, rfl⟩
      | succ i => obtain ⟨y, q', a, b⟩ := h2 i e' (by simpa using he); exact ⟨y, q', a, by simpa using b⟩
def glAll (X : Cx) (gs : List Str) : Bool := gs.all fun y => X.env.kindOf y == some .globalImplicit && !(y == ("__debug__" : Str))
theorem star_map {env : Env} : ∀ {es : List Expr}, es.all noStar = true → starEach es env = es.map fun e => (false, eval e env)
  | [], _ => rfl
  | e :: es, h => by
    rw [List.all_cons, Bool.and_eq_true] at h
    rw [star_cons h.1, star_map h.2]
    rfl
theorem all_drop {es : List Expr} (h : es.all noStar = true) (i : Nat) : (es.drop i).all noStar = true := List.all_eq_true.mpr fun e he => List.all_eq_true.mp h e (List.mem_of_mem_drop he)
theorem xist {k : Nat} {tp : Pos} {gs : List Str} (ha : XE X H0 Hs0 a da) (I : IsMany X.K gs tab) (KG : KGl X) (hm : X.mg "isinstance" = none) (hn : namesOf es = some gs := by rfl) (hgl : glAll X gs = true := by rfl) (hz : gs.length ≤ 1000 := by decide) (hst : es.all noStar = true := by rfl)
    (hg : Gl X "isinstance" := by rfl) (h1 : noStar a = true := by rfl) : XE X H0 Hs0 (.Call (.Name "isinstance" p1) [a, .Tuple es k tp] [] pos) (e1 (pIsiX tab) da) := by
  obtain ⟨Cs, hL, T⟩ := I.ex
  obtain ⟨l1, l2⟩ := hL.get
  obtain ⟨l3, l4⟩ := namesOf_get hn
  refine ⟨q_isxt ha.h (pa_refs (fun i e C he hC => ?_) (l3.trans l1) fun i => star_map (all_drop hst i)) (by omega) T hg hm (star_cons h1) rfl rfl⟩
  obtain ⟨y, q, rfl, hy⟩ := l4 i e he
  have hq := List.all_eq_true.mp hgl y (List.mem_of_getElem? hy)
  rw [Bool.and_eq_true, beq_iff_eq, Bool.not_eq_true'] at hq
  exact pe_glob (v := .ref C) hq.1 (KG y C (l2 i y C hy hC)) rfl hq.2
end
end G
set_option Elab.async false
set_option linter.all false
set_option maxRecDepth 100000
set_option maxHeartbeats 1000000
namespace G
open PySem PySem.Spec PyProof.Rows L2
/-! ### reckoning: what a def is worth, step by step -/
section
variable {g : PV → PV → Res PV} {h : PV → Res PV} {a b : DE} {r : DA} {σ : PSt} {s t : DT} {c d : DS} {i j : Int}
@[simp] theorem bind_ok' {α β : Type} (x : α) (f : α → Res β) : (Res.ok x).bind f = f x := rfl
@[simp] theorem bind_err' {α β : Type} (x : Str) (f : α → Res β) : (Res.err x : Res α).bind f = .err x := rfl
@[simp] theorem bind_stuck' {α β : Type} (f : α → Res β) : (Res.stuck : Res α).bind f = .stuck := rfl
@[simp] theorem e2_s : e2 g a b σ = (a σ).bind fun p => (b σ).bind fun q => g p q := rfl
@[simp] theorem e1_s : e1 h a σ = (a σ).bind h := rfl
@[simp] theorem eC_s {p : PV} : eC p σ = .ok p := rfl
@[simp] theorem eA_s {f : List PV → Res PV} : eA f r σ = (r σ).bind f := rfl
@[simp] theorem aNil_s : aNil σ = .ok [] := rfl
@[simp] theorem aCons_s : aCons a r σ = (a σ).bind fun p => (r σ).bind fun ps => .ok (p :: ps) := rfl
@[simp] theorem eIf_s : eIf t a b σ = (t σ).bind fun c => if c = true then a σ else b σ := rfl
@[simp] theorem eAnd_s : eAnd a b σ = (a σ).bind fun p => (asB p).bind fun c => if c = true then b σ else .ok (.bl false) := rfl
@[simp] theorem eOr_s : eOr a b σ = (a σ).bind fun p => (asB p).bind fun c => if c = true then .ok (.bl true) else b σ := rfl
@[simp] theorem asB_s {k : Bool} : asB (.bl k) = .ok k := rfl
@[simp] theorem pNot_s {k : Bool} : pNot (.bl k) = .ok (.bl (!k)) := rfl
@[simp] theorem tV_s : tV a σ = (a σ).bind asB := rfl
@[simp] theorem tAnd_s : G.tAnd s t σ = (s σ).bind fun c => if c = true then t σ else .ok false := rfl
@[simp] theorem tOr_s : G.tOr s t σ = (s σ).bind fun c => if c = true then .ok true else t σ := rfl
@[simp] theorem tNot_s : G.tNot s σ = (s σ).bind fun c => .ok (!c) := rfl
@[simp] theorem pAdd_s : pAdd (.int i) (.int j) = .ok (.int (i + j)) := rfl
@[simp] theorem pSub_s : pSub (.int i) (.int j) = .ok (.int (i - j)) := rfl
theorem pMul_s (h : IntMulOk i j) : pMul (.int i) (.int j) = .ok (.int (i * j)) := if_pos h
theorem pFdiv_s (h : j ≠ 0) (h' : Builtin.Int.intBits j ≤ 9000) : pFdiv (.int i) (.int j) = .ok (.int (i.fdiv j)) := if_pos ⟨h, h'⟩
theorem pMod_s (h : j ≠ 0) : pMod (.int i) (.int j) = .ok (.int (i.fmod j)) := if_pos h
theorem pPow_s (h : 0 ≤ j) (h' : j ≤ 1000000) (h'' : i.natAbs < 2 ^ 64) : pPow (.int i) (.int j) = .ok (.int (i ^ j.toNat)) := if_pos ⟨h, h', h''⟩
@[simp] theorem pNeg_s : pNeg (.int i) = .ok (.int (-i)) := rfl
@[simp] theorem pCmp_s {f : Int → Int → Bool} : pCmp f (.int i) (.int j) = .ok (.bl (f i j)) := rfl
@[simp] theorem pIs_s {p : PV} : pIs p .non = .ok (.bl (isNon p)) := rfl
@[simp] theorem pIsNot_s {p : PV} : pIsNot p .non = .ok (.bl (!isNon p)) := rfl
@[simp] theorem pEq_i : pEq (.int i) (.int j) = .ok (.bl (decide (i = j))) := by
  show Res.ok (PV.bl (peq (.int i) (.int j))) = _
  rw [show peq (.int i) (.int j) = (i == j) by rw [peq], Bool.beq_eq_decide_eq]
@[simp] theorem pNe_i : pNe (.int i) (.int j) = .ok (.bl (!decide (i = j))) := by
  show Res.ok (PV.bl (!peq (.int i) (.int j))) = _
  rw [show peq (.int i) (.int j) = (i == j) by rw [peq], Bool.beq_eq_decide_eq]
@[simp] theorem pEq_b {i j : Bool} : pEq (.bl i) (.bl j) = .ok (.bl (decide (i = j))) := by
  show Res.ok (PV.bl (peq (.bl i) (.bl j))) = _
  rw [show peq (.bl i) (.bl j) = (i == j) by rw [peq], Bool.beq_eq_decide_eq]
@[simp] theorem pNe_b {i j : Bool} : pNe (.bl i) (.bl j) = .ok (.bl (!decide (i = j))) := by
  show Res.ok (PV.bl (!peq (.bl i) (.bl j))) = _
  rw [show peq (.bl i) (.bl j) = (i == j) by rw [peq], Bool.beq_eq_decide_eq]
@[simp] theorem pIsi_n {T : String} : pIsi T .non = .ok (.bl (isSub (tyName .non) T)) := rfl
@[simp] theorem pIsi_b {T : String} {x : Bool} : pIsi T (.bl x) = .ok (.bl (isSub (tyName (.bl x)) T)) := rfl
@[simp] theorem pIsi_i {T : String} {x : Int} : pIsi T (.int x) = .ok (.bl (isSub (tyName (.int x)) T)) := rfl
@[simp] theorem pIsi_s {T : String} {x : Str} : pIsi T (.str x) = .ok (.bl (isSub (tyName (.str x)) T)) := rfl
@[simp] theorem pIsi_t {T : String} {x : List PV} : pIsi T (.tup x) = .ok (.bl (isSub (tyName (.tup x)) T)) := rfl
@[simp] theorem pIsi_l {T : String} {x : List PV} : pIsi T (.lst x) = .ok (.bl (isSub (tyName (.lst x)) T)) := rfl
@[simp] theorem pIsi_c {T : String} {x : List Int} : pIsi T (.scr x) = .ok (.bl (isSub (tyName (.scr x)) T)) := rfl
@[simp] theorem pIsi_d {T : String} : pIsi T .dic = .ok (.bl (isSub (tyName .dic) T)) := rfl
@[simp] theorem bAbs_s : bAbs [.int i] = .ok (.int (if i < 0 then -i else i)) := rfl
@[simp] theorem bMax_s : bMax [.int i, .int j] = .ok (.int (if j > i then j else i)) := rfl
@[simp] theorem bMin_s : bMin [.int i, .int j] = .ok (.int (if j < i then j else i)) := rfl
@[simp] theorem noErr_s {p : PV} : noErr (.ok p) = .ok p := rfl
@[simp] theorem sNext_s : sNext σ = .ok (.next σ) := rfl
@[simp] theorem sSeq_s : sSeq c d σ = (c σ).bind fun f => match f with
  | .next σ' => d σ'
  | f => .ok f := rfl
@[simp] theorem sRet_s : sRet a σ = (a σ).bind fun p => .ok (.ret p) := rfl
@[simp] theorem sRetN_s : sRetN σ = .ok (.ret .non) := rfl
@[simp] theorem sIf_s : sIf t c d σ = (t σ).bind fun k => if k = true then c σ else d σ := rfl
@[simp] theorem sBrk_s : sBrk σ = .ok (.brk σ) := rfl
@[simp] theorem sCont_s : sCont σ = .ok (.cont σ) := rfl
@[simp] theorem sSet_s {k : Nat} : sSet k a σ = (a σ).bind fun p => .ok (.next (σ.set k (some (.sh p)))) := rfl
@[simp] theorem sFor_s {it : DI} {gg : DG} : sFor it gg c σ = (it σ).bind fun ps => forS gg c ps σ := rfl
@[simp] theorem itE_s : itE a σ = (a σ).bind asSeq := rfl
@[simp] theorem itR_s {f : List PV → Res (List PV)} : itR f r σ = (r σ).bind f := rfl
@[simp] theorem oNo_s : oNo σ = .ok none := rfl
@[simp] theorem oE_s : oE a σ = (a σ).bind asI := rfl
@[simp] theorem asI_s : asI (.int i) = .ok (some i) := rfl
@[simp] theorem eSl_s {lo hi : DO} : eSl a lo hi σ = (a σ).bind fun p => (lo σ).bind fun l => (hi σ).bind fun h => pSl p l h := rfl
@[simp] theorem gN_s {k : Nat} {p : PV} : gN k p σ = .ok (σ.set k (some (.sh p))) := rfl
@[simp] theorem forS_nil {gg : DG} : forS gg c [] σ = .ok (.next σ) := rfl
theorem forS_cons {gg : DG} {p : PV} {ps : List PV} {σ1 : PSt} (h : gg p σ = .ok σ1) : forS gg c (p :: ps) σ = (c σ1).bind fun f => match f with
      | .next σ' => forS gg c ps σ'
      | .cont σ' => forS gg c ps σ'
      | .brk σ' => .ok (.next σ')
      | .ret p => .ok (.ret p) := by
  show (match gg p σ with | .ok σ1 => _ | _ => _) = _
  rw [h]
  all_goals rfl
@[simp] theorem pTup_1 {p : PV} : pTup [p] = .ok (.tup [p]) := rfl
@[simp] theorem pTup_2 {p q : PV} : pTup [p, q] = .ok (.tup [p, q]) := rfl
@[simp] theorem pTup_3 {p q r : PV} : pTup [p, q, r] = .ok (.tup [p, q, r]) := rfl
@[simp] theorem pTup_0 : pTup [] = .ok (.tup []) := rfl
@[simp] theorem fin_ret {p : PV} : fin (.ok (.ret p)) = .ok p := rfl
@[simp] theorem fin_err {c : Str} : fin (.err c) = .stuck := rfl
@[simp] theorem fin_next : fin (.ok (.next σ)) = .ok .non := rfl
end
theorem run1 {m : Nat} {d : DS} {p : PV} : runF 1 m d [p] = fin (d (some (.sh p) :: List.replicate (m - 1) none)) := (runF_eq rfl).trans rfl
theorem run2 {m : Nat} {d : DS} {p q : PV} : runF 2 m d [p, q] = fin (d (some (.sh p) :: some (.sh q) :: List.replicate (m - 2) none)) := (runF_eq rfl).trans rfl
theorem run3 {m : Nat} {d : DS} {p q r : PV} : runF 3 m d [p, q, r] = fin (d (some (.sh p) :: some (.sh q) :: some (.sh r) :: List.replicate (m - 3) none)) := (runF_eq rfl).trans rfl
theorem run4 {m : Nat} {d : DS} {p q r s : PV} : runF 4 m d [p, q, r, s] = fin (d (some (.sh p) :: some (.sh q) :: some (.sh r) :: some (.sh s) :: List.replicate (m - 4) none)) := (runF_eq rfl).trans rfl
theorem run5 {m : Nat} {d : DS} {p q r s t : PV} : runF 5 m d [p, q, r, s, t] = fin (d (some (.sh p) :: some (.sh q) :: some (.sh r) :: some (.sh s) :: some (.sh t) :: List.replicate (m - 5) none)) := (runF_eq rfl).trans rfl
end G
namespace G
open PySem PySem.Spec PyProof.Rows L2
/-- a loop that always goes on to its end -/
theorem for_all {gg : DG} {c : DS} (I : PSt → Prop) (P : PV → Prop) (h : ∀ p σ, P p → I σ → ∃ σ1 σ', gg p σ = .ok σ1 ∧ c σ1 = .ok (.next σ') ∧ I σ') :
    ∀ (ps : List PV), (∀ p ∈ ps, P p) → ∀ σ, I σ → ∃ σ', forS gg c ps σ = .ok (.next σ') ∧ I σ'
  | [], _, σ, i => ⟨σ, rfl, i⟩
  | p :: ps, hp, σ, i => by
    obtain ⟨σ1, σ2, h1, h2, h3⟩ := h p σ (hp p List.mem_cons_self) i
    obtain ⟨σ3, h4, h5⟩ := for_all I P h ps (fun q hq => hp q (List.mem_cons_of_mem _ hq)) σ2 h3
    refine ⟨σ3, ?_, h5⟩
    rw [forS_cons h1, h2]
    exact h4
theorem rangeL_mem {lo c : Int} {n : Nat} {p : PV} (h : p ∈ rangeL lo c n) : ∃ i : Nat, i < n ∧ p = .int (lo + i * c) := by
  unfold rangeL at h
  obtain ⟨i, hi, rfl⟩ := List.mem_map.mp h
  exact ⟨i, List.mem_range.mp hi, rfl⟩
open Builtin.Int (intBits) in
theorem mulR {i j : Int} (h1 : -(2 ^ 64) < j) (h2 : j < 2 ^ 64) : IntMulOk i j := .of_right (intBits_le_64 h1 h2)
open Builtin.Int (intBits) in
theorem mulL {i j : Int} (h1 : -(2 ^ 64) < i) (h2 : i < 2 ^ 64) : IntMulOk i j := .of_left (intBits_le_64 h1 h2)
theorem atI_of {α : Type} {xs : List α} {k : Int} (h0 : 0 ≤ k) (h : k < xs.length) : ∃ x, atI xs k = some x ∧ x ∈ xs := by
  have hk : k.toNat < xs.length := by omega
  refine ⟨xs[k.toNat], ?_, List.getElem_mem _⟩
  have e : k = ((k.toNat : Nat) : Int) := by omega
  have q : atI xs ((k.toNat : Nat) : Int) = some xs[k.toNat] := atI_nat (by simp [hk])
  rw [← e] at q
  exact q
end G
namespace G
open PySem PySem.Spec PyProof.Rows L2
section
variable {p : PV} {σ : PSt} {db : DE} {xs : List PV} {x0 x1 x2 x3 x4 x5 x6 x7 x8 x9 x10 x11 x12 x13 x14 x15 x16 x17 x18 x19 x20 x21 x22 x23 x24 x25 : Option SV}
@[simp] theorem eVar_0 : eVar 0 (some (.sh p) :: σ) = .ok p := rfl
@[simp] theorem eIxV_0 : eIxV 0 db (some (.sh p) :: σ) = (db (some (.sh p) :: σ)).bind fun q => pIx p q := rfl
@[simp] theorem eIxO_0 : eIxV 0 db (some (.own xs) :: σ) = (db (some (.own xs) :: σ)).bind fun q => pIx (.lst xs) q := rfl
@[simp] theorem eLenV_0 : eLenV 0 (some (.sh p) :: σ) = bLen [p] := rfl
@[simp] theorem eLenO_0 : eLenV 0 (some (.own xs) :: σ) = .ok (.int xs.length) := rfl
@[simp] theorem eVar_1 : eVar 1 (x0 :: some (.sh p) :: σ) = .ok p := rfl
@[simp] theorem eIxV_1 : eIxV 1 db (x0 :: some (.sh p) :: σ) = (db (x0 :: some (.sh p) :: σ)).bind fun q => pIx p q := rfl
@[simp] theorem eIxO_1 : eIxV 1 db (x0 :: some (.own xs) :: σ) = (db (x0 :: some (.own xs) :: σ)).bind fun q => pIx (.lst xs) q := rfl
@[simp] theorem eLenV_1 : eLenV 1 (x0 :: some (.sh p) :: σ) = bLen [p] := rfl
@[simp] theorem eLenO_1 : eLenV 1 (x0 :: some (.own xs) :: σ) = .ok (.int xs.length) := rfl
@[simp] theorem eVar_2 : eVar 2 (x0 :: x1 :: some (.sh p) :: σ) = .ok p := rfl
@[simp] theorem eIxV_2 : eIxV 2 db (x0 :: x1 :: some (.sh p) :: σ) = (db (x0 :: x1 :: some (.sh p) :: σ)).bind fun q => pIx p q := rfl
@[simp] theorem eIxO_2 : eIxV 2 db (x0 :: x1 :: some (.own xs) :: σ) = (db (x0 :: x1 :: some (.own xs) :: σ)).bind fun q => pIx (.lst xs) q := rfl
@[simp] theorem eLenV_2 : eLenV 2 (x0 :: x1 :: some (.sh p) :: σ) = bLen [p] := rfl
@[simp] theorem eLenO_2 : eLenV 2 (x0 :: x1 :: some (.own xs) :: σ) = .ok (.int xs.length) := rfl
@[simp] theorem eVar_3 : eVar 3 (x0 :: x1 :: x2 :: some (.sh p) :: σ) = .ok p := rfl
@[simp] theorem eIxV_3 : eIxV 3 db (x0 :: x1 :: x2 :: some (.sh p) :: σ) = (db (x0 :: x1 :: x2 :: some (.sh p) :: σ)).bind fun q => pIx p q := rfl
@[simp] theorem eIxO_3 : eIxV 3 db (x0 :: x1 :: x2 :: some (.own xs) :: σ) = (db (x0 :: x1 :: x2 :: some (.own xs) :: σ)).bind fun q => pIx (.lst xs) q := rfl
@[simp] theorem eLenV_3 : eLenV 3 (x0 :: x1 :: x2 :: some (.sh p) :: σ) = bLen [p] := rfl
@[simp] theorem eLenO_3 : eLenV 3 (x0 :: x1 :: x2 :: some (.own xs) :: σ) = .ok (.int xs.length) := rfl
@[simp] theorem eVar_4 : eVar 4 (x0 :: x1 :: x2 :: x3 :: some (.sh p) :: σ) = .ok p := rfl
@[simp] theorem eIxV_4 : eIxV 4 db (x0 :: x1 :: x2 :: x3 :: some (.sh p) :: σ) = (db (x0 :: x1 :: x2 :: x3 :: some (.sh p) :: σ)).bind fun q => pIx p q := rfl
@[simp] theorem eIxO_4 : eIxV 4 db (x0 :: x1 :: x2 :: x3 :: some (.own xs) :: σ) = (db (x0 :: x1 :: x2 :: x3 :: some (.own xs) :: σ)).bind fun q => pIx (.lst xs) q := rfl
@[simp] theorem eLenV_4 : eLenV 4 (x0 :: x1 :: x2 :: x3 :: some (.sh p) :: σ) = bLen [p] := rfl
@[simp] theorem eLenO_4 : eLenV 4 (x0 :: x1 :: x2 :: x3 :: some (.own xs) :: σ) = .ok (.int xs.length) := rfl
@[simp] theorem eVar_5 : eVar 5 (x0 :: x1 :: x2 :: x3 :: x4 :: some (.sh p) :: σ) = .ok p := rfl
@[simp] theorem eIxV_5 : eIxV 5 db (x0 :: x1 :: x2 :: x3 :: x4 :: some (.sh p) :: σ) = (db (x0 :: x1 :: x2 :: x3 :: x4 :: some (.sh p) :: σ)).bind fun q => pIx p q := rfl
@[simp] theorem eIxO_5 : eIxV 5 db (x0 :: x1 :: x2 :: x3 :: x4 :: some (.own xs) :: σ) = (db (x0 :: x1 :: x2 :: x3 :: x4 :: some (.own xs) :: σ)).bind fun q => pIx (.lst xs) q := rfl
@[simp] theorem eLenV_5 : eLenV 5 (x0 :: x1 :: x2 :: x3 :: x4 :: some (.sh p) :: σ) = bLen [p] := rfl
@[simp] theorem eLenO_5 : eLenV 5 (x0 :: x1 :: x2 :: x3 :: x4 :: some (.own xs) :: σ) = .ok (.int xs.length) := rfl
@[simp] theorem eVar_6 : eVar 6 (x0 :: x1 :: x2 :: x3 :: x4 :: x5 :: some (.sh p) :: σ) = .ok p := rfl
@[simp] theorem eIxV_6 : eIxV 6 db (x0 :: x1 :: x2 :: x3 :: x4 :: x5 :: some (.sh p) :: σ) = (db (x0 :: x1 :: x2 :: x3 :: x4 :: x5 :: some (.sh p) :: σ)).bind fun q => pIx p q := rfl
@[simp] theorem eIxO_6 : eIxV 6 db (x0 :: x1 :: x2 :: x3 :: x4 :: x5 :: some (.own xs) :: σ) = (db (x0 :: x1 :: x2 :: x3 :: x4 :: x5 :: some (.own xs) :: σ)).bind fun q => pIx (.lst xs) q := rfl
@[simp] theorem eLenV_6 : eLenV 6 (x0 :: x1 :: x2 :: x3 :: x4 :: x5 :: some (.sh p) :: σ) = bLen [p] := rfl
@[simp] theorem eLenO_6 : eLenV 6 (x0 :: x1 :: x2 :: x3 :: x4 :: x5 :: some (.own xs) :: σ) = .ok (.int xs.length) := rfl
@[simp] theorem eVar_7 : eVar 7 (x0 :: x1 :: x2 :: x3 :: x4 :: x5 :: x6 :: some (.sh p) :: σ) = .ok p := rfl
@[simp] theorem eIxV_7 : eIxV 7 db (x0 :: x1 :: x2 :: x3 :: x4 :: x5 :: x6 :: some (.sh p) :: σ) = (db (x0 :: x1 :: x2 :: x3 :: x4 :: x5 :: x6 :: some (.sh p) :: σ)).bind fun q => pIx p q := rfl
@[simp] theorem eIxO_7 : eIxV 7 db (x0 :: x1 :: x2 :: x3 :: x4 :: x5 :: x6 :: some (.own xs) :: σ) = (db (x0 :: x1 :: x2 :: x3 :: x4 :: x5 :: x6 :: some (.own xs) :: σ)).bind fun q => pIx (.lst xs) q := rfl
@[simp] theorem eLenV_7 : eLenV 7 (x0 :: x1 :: x2 :: x3 :: x4 :: x5 :: x6 :: some (.sh p) :: σ) = bLen [p] := rfl
@[simp] theorem eLenO_7 : eLenV 7 (x0 :: x1 :: x2 :: x3 :: x4 :: x5 :: x6 :: some (.own xs) :: σ) = .ok (.int xs.length) := rfl
@[simp] theorem eVar_8 : eVar 8 (x0 :: x1 :: x2 :: x3 :: x4 :: x5 :: x6 :: x7 :: some (.sh p) :: σ) = .ok p := rfl
@[simp] theorem eIxV_8 : eIxV 8 db (x0 :: x1 :: x2 :: x3 :: x4 :: x5 :: x6 :: x7 :: some (.sh p) :: σ) = (db (x0 :: x1 :: x2 :: x3 :: x4 :: x5 :: x6 :: x7 :: some (.sh p) :: σ)).bind fun q => pIx p q := rfl
@[simp] theorem eIxO_8 : eIxV 8 db (x0 :: x1 :: x2 :: x3 :: x4 :: x5 :: x6 :: x7 :: some (.own xs) :: σ) = (db (x0 :: x1 :: x2 :: x3 :: x4 :: x5 :: x6 :: x7 :: some (.own xs) :: σ)).bind fun q => pIx (.lst xs) q := rfl
@[simp] theorem eLenV_8 : eLenV 8 (x0 :: x1 :: x2 :: x3 :: x4 :: x5 :: x6 :: x7 :: some (.sh p) :: σ) = bLen [p] := rfl
@[simp] theorem eLenO_8 : eLenV 8 (x0 :: x1 :: x2 :: x3 :: x4 :: x5 :: x6 :: x7 :: some (.own xs) :: σ) = .ok (.int xs.length) := rfl
@[simp] theorem eVar_9 : eVar 9 (x0 :: x1 :: x2 :: x3 :: x4 :: x5 :: x6 :: x7 :: x8 :: some (.sh p) :: σ) = .ok p := rfl
@[simp] theorem eIxV_9 : eIxV 9 db (x0 :: x1 :: x2 :: x3 :: x4 :: x5 :: x6 :: x7 :: x8 :: some (.sh p) :: σ) = (db (x0 :: x1 :: x2 :: x3 :: x4 :: x5 :: x6 :: x7 :: x8 :: some (.sh p) :: σ)).bind fun q => pIx p q := rfl
@[simp] theorem eIxO_9 : eIxV 9 db (x0 :: x1 :: x2 :: x3 :: x4 :: x5 :: x6 :: x7 :: x8 :: some (.own xs) :: σ) = (db (x0 :: x1 :: x2 :: x3 :: x4 :: x5 :: x6 :: x7 :: x8 :: some (.own xs) :: σ)).bind fun q => pIx (.lst xs) q := rfl
@[simp] theorem eLenV_9 : eLenV 9 (x0 :: x1 :: x2 :: x3 :: x4 :: x5 :: x6 :: x7 :: x8 :: some (.sh p) :: σ) = bLen [p] := rfl
@[simp] theorem eLenO_9 : eLenV 9 (x0 :: x1 :: x2 :: x3 :: x4 :: x5 :: x6 :: x7 :: x8 :: some (.own xs) :: σ) = .ok (.int xs.length) := rfl
@[simp] theorem eVar_10 : eVar 10 (x0 :: x1 :: x2 :: x3 :: x4 :: x5 :: x6 :: x7 :: x8 :: x9 :: some (.sh p) :: σ) = .ok p := rfl
@[simp] theorem eIxV_10 : eIxV 10 db (x0 :: x1 :: x2 :: x3 :: x4 :: x5 :: x6 :: x7 :: x8 :: x9 :: some (.sh p) :: σ) = (db (x0 :: x1 :: x2 :: x3 :: x4 :: x5 :: x6 :: x7 :: x8 :: x9 :: some (.sh p) :: σ)).bind fun q => pIx p q := rfl
@[simp] theorem eIxO_10 : eIxV 10 db (x0 :: x1 :: x2 :: x3 :: x4 :: x5 :: x6 :: x7 :: x8 :: x9 :: some (.own xs) :: σ) = (db (x0 :: x1 :: x2 :: x3 :: x4 :: x5 :: x6 :: x7 :: x8 :: x9 :: some (.own xs) :: σ)).bind fun q => pIx (.lst xs) q := rfl
@[simp] theorem eLenV_10 : eLenV 10 (x0 :: x1 :: x2 :: x3 :: x4 :: x5 :: x6 :: x7 :: x8 :: x9 :: some (.sh p) :: σ) = bLen [p] := rfl
@[simp] theorem eLenO_10 : eLenV 10 (x0 :: x1 :: x2 :: x3 :: x4 :: x5 :: x6 :: x7 :: x8 :: x9 :: some (.own xs) :: σ) = .ok (.int xs.length) := rfl
@[simp] theorem eVar_11 : eVar 11 (x0 :: x1 :: x2 :: x3 :: x4 :: x5 :: x6 :: x7 :: x8 :: x9 :: x10 :: some (.sh p) :: σ) = .ok p := rfl
@[simp] theorem eIxV_11 : eIxV 11 db (x0 :: x1 :: x2 :: x3 :: x4 :: x5 :: x6 :: x7 :: x8 :: x9 :: x10 :: some (.sh p) :: σ) = (db (x0 :: x1 :: x2 :: x3 :: x4 :: x5 :: x6 :: x7 :: x8 :: x9 :: x10 :: some (.sh p) :: σ)).bind fun q => pIx p q := rfl
@[simp] theorem eIxO_11 : eIxV 11 db (x0 :: x1 :: x2 :: x3 :: x4 :: x5 :: x6 :: x7 :: x8 :: x9 :: x10 :: some (.own xs) :: σ) = (db (x0 :: x1 :: x2 :: x3 :: x4 :: x5 :: x6 :: x7 :: x8 :: x9 :: x10 :: some (.own xs) :: σ)).bind fun q => pIx (.lst xs) q := rfl
@[simp] theorem eLenV_11 : eLenV 11 (x0 :: x1 :: x2 :: x3 :: x4 :: x5 :: x6 :: x7 :: x8 :: x9 :: x10 :: some (.sh p) :: σ) = bLen [p] := rfl
@[simp] theorem eLenO_11 : eLenV 11 (x0 :: x1 :: x2 :: x3 :: x4 :: x5 :: x6 :: x7 :: x8 :: x9 :: x10 :: some (.own xs) :: σ) = .ok (.int xs.length) := rfl
@[simp] theorem eVar_12 : eVar 12 (x0 :: x1 :: x2 :: x3 :: x4 :: x5 :: x6 :: x7 :: x8 :: x9 :: x10 :: x11 :: some (.sh p) :: σ) = .ok p := rfl
@[simp] theorem eIxV_12 : eIxV 12 db (x0 :: x1 :: x2 :: x3 :: x4 :: x5 :: x6 :: x7 :: x8 :: x9 :: x10 :: x11 :: some (.sh p) :: σ) = (db (x0 :: x1 :: x2 :: x3 :: x4 :: x5 :: x6 :: x7 :: x8 :: x9 :: x10 :: x11 :: some (.sh p) :: σ)).bind fun q => pIx p q := rfl
@[simp] theorem eIxO_12 : eIxV 12 db (x0 :: x1 :: x2 :: x3 :: x4 :: x5 :: x6 :: x7 :: x8 :: x9 :: x10 :: x11 :: some (.own xs) :: σ) = (db (x0 :: x1 :: x2 :: x3 :: x4 :: x5 :: x6 :: x7 :: x8 :: x9 :: x10 :: x11 :: some (.own xs) :: σ)).bind fun q => pIx (.lst xs) q := rfl
@[simp] theorem eLenV_12 : eLenV 12 (x0 :: x1 :: x2 :: x3 :: x4 :: x5 :: x6 :: x7 :: x8 :: x9 :: x10 :: x11 :: some (.sh p) :: σ) = bLen [p] := rfl
@[simp] theorem eLenO_12 : eLenV 12 (x0 :: x1 :: x2 :: x3 :: x4 :: x5 :: x6 :: x7 :: x8 :: x9 :: x10 :: x11 :: some (.own xs) :: σ) = .ok (.int xs.length) := rfl
@[simp] theorem eVar_13 : eVar 13 (x0 :: x1 :: x2 :: x3 :: x4 :: x5 :: x6 :: x7 :: x8 :: x9 :: x10 :: x11 :: x12 :: some (.sh p) :: σ) = .ok p := rfl
@[simp] theorem eIxV_13 : eIxV 13 db (x0 :: x1 :: x2 :: x3 :: x4 :: x5 :: x6 :: x7 :: x8 :: x9 :: x10 :: x11 :: x12 :: some (.sh p) :: σ) = (db (x0 :: x1 :: x2 :: x3 :: x4 :: x5 :: x6 :: x7 :: x8 :: x9 :: x10 :: x11 :: x12 :: some (.sh p) :: σ)).bind fun q => pIx p q := rfl
@[simp] theorem eIxO_13 : eIxV 13 db (x0 :: x1 :: x2 :: x3 :: x4 :: x5 :: x6 :: x7 :: x8 :: x9 :: x10 :: x11 :: x12 :: some (.own xs) :: σ) = (db (x0 :: x1 :: x2 :: x3 :: x4 :: x5 :: x6 :: x7 :: x8 :: x9 :: x10 :: x11 :: x12 :: some (.own xs) :: σ)).bind fun q => pIx (.lst xs) q := rfl
@[simp] theorem eLenV_13 : eLenV 13 (x0 :: x1 :: x2 :: x3 :: x4 :: x5 :: x6 :: x7 :: x8 :: x9 :: x10 :: x11 :: x12 :: some (.sh p) :: σ) = bLen [p] := rfl
@[simp] theorem eLenO_13 : eLenV 13 (x0 :: x1 :: x2 :: x3 :: x4 :: x5 :: x6 :: x7 :: x8 :: x9 :: x10 :: x11 :: x12 :: some (.own xs) :: σ) = .ok (.int xs.length) := rfl
@[simp] theorem eVar_14 : eVar 14 (x0 :: x1 :: x2 :: x3 :: x4 :: x5 :: x6 :: x7 :: x8 :: x9 :: x10 :: x11 :: x12 :: x13 :: some (.sh p) :: σ) = .ok p := rfl
@[simp] theorem eIxV_14 : eIxV 14 db (x0 :: x1 :: x2 :: x3 :: x4 :: x5 :: x6 :: x7 :: x8 :: x9 :: x10 :: x11 :: x12 :: x13 :: some (.sh p) :: σ) = (db (x0 :: x1 :: x2 :: x3 :: x4 :: x5 :: x6 :: x7 :: x8 :: x9 :: x10 :: x11 :: x12 :: x13 :: some (.sh p) :: σ)).bind fun q => pIx p q := rfl
@[simp] theorem eIxO_14 : eIxV 14 db (x0 :: x1 :: x2 :: x3 :: x4 :: x5 :: x6 :: x7 :: x8 :: x9 :: x10 :: x11 :: x12 :: x13 :: some (.own xs) :: σ) = (db (x0 :: x1 :: x2 :: x3 :: x4 :: x5 :: x6 :: x7 :: x8 :: x9 :: x10 :: x11 :: x12 :: x13 :: some (.own xs) :: σ)).bind fun q => pIx (.lst xs) q := rfl
@[simp] theorem eLenV_14 : eLenV 14 (x0 :: x1 :: x2 :: x3 :: x4 :: x5 :: x6 :: x7 :: x8 :: x9 :: x10 :: x11 :: x12 :: x13 :: some (.sh p) :: σ) = bLen [p] := rfl
@[simp] theorem eLenO_14 : eLenV 14 (x0 :: x1 :: x2 :: x3 :: x4 :: x5 :: x6 :: x7 :: x8 :: x9 :: x10 :: x11 :: x12 :: x13 :: some (.own xs) :: σ) = .ok (.int xs.length) := rfl
@[simp] theorem eVar_15 : eVar 15 (x0 :: x1 :: x2 :: x3 :: x4 :: x5 :: x6 :: x7 :: x8 :: x9 :: x10 :: x11 :: x12 :: x13 :: x14 :: some (.sh p) :: σ) = .ok p := rfl
@[simp] theorem eIxV_15 : eIxV 15 db (x0 :: x1 :: x2 :: x3 :: x4 :: x5 :: x6 :: x7 :: x8 :: x9 :: x10 :: x11 :: x12 :: x13 :: x14 :: some (.sh p) :: σ) = (db (x0 :: x1 :: x2 :: x3 :: x4 :: x5 :: x6 :: x7 :: x8 :: x9 :: x10 :: x11 :: x12 :: x13 :: x14 :: some (.sh p) :: σ)).bind fun q => pIx p q := rfl
@[simp] theorem eIxO_15 : eIxV 15 db (x0 :: x1 :: x2 :: x3 :: x4 :: x5 :: x6 :: x7 :: x8 :: x9 :: x10 :: x11 :: x12 :: x13 :: x14 :: some (.own xs) :: σ) = (db (x0 :: x1 :: x2 :: x3 :: x4 :: x5 :: x6 :: x7 :: x8 :: x9 :: x10 :: x11 :: x12 :: x13 :: x14 :: some (.own xs) :: σ)).bind fun q => pIx (.lst xs) q := rfl
@[simp] theorem eLenV_15 : eLenV 15 (x0 :: x1 :: x2 :: x3 :: x4 :: x5 :: x6 :: x7 :: x8 :: x9 :: x10 :: x11 :: x12 :: x13 :: x14 :: some (.sh p) :: σ) = bLen [p] := rfl
@[simp] theorem eLenO_15 : eLenV 15 (x0 :: x1 :: x2 :: x3 :: x4 :: x5 :: x6 :: x7 :: x8 :: x9 :: x10 :: x11 :: x12 :: x13 :: x14 :: some (.own xs) :: σ) = .ok (.int xs.length) := rfl
@[simp] theorem eVar_16 : eVar 16 (x0 :: x1 :: x2 :: x3 :: x4 :: x5 :: x6 :: x7 :: x8 :: x9 :: x10 :: x11 :: x12 :: x13 :: x14 :: x15 :: some (.sh p) :: σ) = .ok p := rfl
@[simp] theorem eIxV_16 : eIxV 16 db (x0 :: x1 :: x2 :: x3 :: x4 :: x5 :: x6 :: x7 :: x8 :: x9 :: x10 :: x11 :: x12 :: x13 :: x14 :: x15 :: some (.sh p) :: σ) = (db (x0 :: x1 :: x2 :: x3 :: x4 :: x5 :: x6 :: x7 :: x8 :: x9 :: x10 :: x11 :: x12 :: x13 :: x14 :: x15 :: some (.sh p) :: σ)).bind fun q => pIx p q := rfl
@[simp] theorem eIxO_16 : eIxV 16 db (x0 :: x1 :: x2 :: x3 :: x4 :: x5 :: x6 :: x7 :: x8 :: x9 :: x10 :: x11 :: x12 :: x13 :: x14 :: x15 :: some (.own xs) :: σ) = (db (x0 :: x1 :: x2 :: x3 :: x4 :: x5 :: x6 :: x7 :: x8 :: x9 :: x10 :: x11 :: x12 :: x13 :: x14 :: x15 :: some (.own xs) :: σ)).bind fun q => pIx (.lst xs) q := rfl
@[simp] theorem eLenV_16 : eLenV 16 (x0 :: x1 :: x2 :: x3 :: x4 :: x5 :: x6 :: x7 :: x8 :: x9 :: x10 :: x11 :: x12 :: x13 :: x14 :: x15 :: some (.sh p) :: σ) = bLen [p] := rfl
@[simp] theorem eLenO_16 : eLenV 16 (x0 :: x1 :: x2 :: x3 :: x4 :: x5 :: x6 :: x7 :: x8 :: x9 :: x10 :: x11 :: x12 :: x13 :: x14 :: x15 :: some (.own xs) :: σ) = .ok (.int xs.length) := rfl
@[simp] theorem eVar_17 : eVar 17 (x0 :: x1 :: x2 :: x3 :: x4 :: x5 :: x6 :: x7 :: x8 :: x9 :: x10 :: x11 :: x12 :: x13 :: x14 :: x15 :: x16 :: some (.sh p) :: σ) = .ok p := rfl
@[simp] theorem eIxV_17 : eIxV 17 db (x0 :: x1 :: x2 :: x3 :: x4 :: x5 :: x6 :: x7 :: x8 :: x9 :: x10 :: x11 :: x12 :: x13 :: x14 :: x15 :: x16 :: some (.sh p) :: σ) = (db (x0 :: x1 :: x2 :: x3 :: x4 :: x5 :: x6 :: x7 :: x8 :: x9 :: x10 :: x11 :: x12 :: x13 :: x14 :: x15 :: x16 :: some (.sh p) :: σ)).bind fun q => pIx p q := rfl
@[simp] theorem eIxO_17 : eIxV 17 db (x0 :: x1 :: x2 :: x3 :: x4 :: x5 :: x6 :: x7 :: x8 :: x9 :: x10 :: x11 :: x12 :: x13 :: x14 :: x15 :: x16 :: some (.own xs) :: σ) = (db (x0 :: x1 :: x2 :: x3 :: x4 :: x5 :: x6 :: x7 :: x8 :: x9 :: x10 :: x11 :: x12 :: x13 :: x14 :: x15 :: x16 :: some (.own xs) :: σ)).bind fun q => pIx (.lst xs) q := rfl
@[simp] theorem eLenV_17 : eLenV 17 (x0 :: x1 :: x2 :: x3 :: x4 :: x5 :: x6 :: x7 :: x8 :: x9 :: x10 :: x11 :: x12 :: x13 :: x14 :: x15 :: x16 :: some (.sh p) :: σ) = bLen [p] := rfl
@[simp] theorem eLenO_17 : eLenV 17 (x0 :: x1 :: x2 :: x3 :: x4 :: x5 :: x6 :: x7 :: x8 :: x9 :: x10 :: x11 :: x12 :: x13 :: x14 :: x15 :: x16 :: some (.own xs) :: σ) = .ok (.int xs.length) := rfl
@[simp] theorem eVar_18 : eVar 18 (x0 :: x1 :: x2 :: x3 :: x4 :: x5 :: x6 :: x7 :: x8 :: x9 :: x10 :: x11 :: x12 :: x13 :: x14 :: x15 :: x16 :: x17 :: some (.sh p) :: σ) = .ok p := rfl
@[simp] theorem eIxV_18 : eIxV 18 db (x0 :: x1 :: x2 :: x3 :: x4 :: x5 :: x6 :: x7 :: x8 :: x9 :: x10 :: x11 :: x12 :: x13 :: x14 :: x15 :: x16 :: x17 :: some (.sh p) :: σ) = (db (x0 :: x1 :: x2 :: x3 :: x4 :: x5 :: x6 :: x7 :: x8 :: x9 :: x10 :: x11 :: x12 :: x13 :: x14 :: x15 :: x16 :: x17 :: some (.sh p) :: σ)).bind fun q => pIx p q := rfl
@[simp] theorem eIxO_18 : eIxV 18 db (x0 :: x1 :: x2 :: x3 :: x4 :: x5 :: x6 :: x7 :: x8 :: x9 :: x10 :: x11 :: x12 :: x13 :: x14 :: x15 :: x16 :: x17 :: some (.own xs) :: σ) = (db (x0 :: x1 :: x2 :: x3 :: x4 :: x5 :: x6 :: x7 :: x8 :: x9 :: x10 :: x11 :: x12 :: x13 :: x14 :: x15 :: x16 :: x17 :: some (.own xs) :: σ)).bind fun q => pIx (.lst xs) q := rfl
@[simp] theorem eLenV_18 : eLenV 18 (x0 :: x1 :: x2 :: x3 :: x4 :: x5 :: x6 :: x7 :: x8 :: x9 :: x10 :: x11 :: x12 :: x13 :: x14 :: x15 :: x16 :: x17 :: some (.sh p) :: σ) = bLen [p] := rfl
@[simp] theorem eLenO_18 : eLenV 18 (x0 :: x1 :: x2 :: x3 :: x4 :: x5 :: x6 :: x7 :: x8 :: x9 :: x10 :: x11 :: x12 :: x13 :: x14 :: x15 :: x16 :: x17 :: some (.own xs) :: σ) = .ok (.int xs.length) := rfl
@[simp] theorem eVar_19 : eVar 19 (x0 :: x1 :: x2 :: x3 :: x4 :: x5 :: x6 :: x7 :: x8 :: x9 :: x10 :: x11 :: x12 :: x13 :: x14 :: x15 :: x16 :: x17 :: x18 :: some (.sh p) :: σ) = .ok p := rfl
@[simp] theorem eIxV_19 : eIxV 19 db (x0 :: x1 :: x2 :: x3 :: x4 :: x5 :: x6 :: x7 :: x8 :: x9 :: x10 :: x11 :: x12 :: x13 :: x14 :: x15 :: x16 :: x17 :: x18 :: some (.sh p) :: σ) = (db (x0 :: x1 :: x2 :: x3 :: x4 :: x5 :: x6 :: x7 :: x8 :: x9 :: x10 :: x11 :: x12 :: x13 :: x14 :: x15 :: x16 :: x17 :: x18 :: some (.sh p) :: σ)).bind fun q => pIx p q := rfl
@[simp] theorem eIxO_19 : eIxV 19 db (x0 :: x1 :: x2 :: x3 :: x4 :: x5 :: x6 :: x7 :: x8 :: x9 :: x10 :: x11 :: x12 :: x13 :: x14 :: x15 :: x16 :: x17 :: x18 :: some (.own xs) :: σ) = (db (x0 :: x1 :: x2 :: x3 :: x4 :: x5 :: x6 :: x7 :: x8 :: x9 :: x10 :: x11 :: x12 :: x13 :: x14 :: x15 :: x16 :: x17 :: x18 :: some (.own xs) :: σ)).bind fun q => pIx (.lst xs) q := rfl
@[simp] theorem eLenV_19 : eLenV 19 (x0 :: x1 :: x2 :: x3 :: x4 :: x5 :: x6 :: x7 :: x8 :: x9 :: x10 :: x11 :: x12 :: x13 :: x14 :: x15 :: x16 :: x17 :: x18 :: some (.sh p) :: σ) = bLen [p] := rfl
@[simp] theorem eLenO_19 : eLenV 19 (x0 :: x1 :: x2 :: x3 :: x4 :: x5 :: x6 :: x7 :: x8 :: x9 :: x10 :: x11 :: x12 :: x13 :: x14 :: x15 :: x16 :: x17 :: x18 :: some (.own xs) :: σ) = .ok (.int xs.length) := rfl
@[simp] theorem eVar_20 : eVar 20 (x0 :: x1 :: x2 :: x3 :: x4 :: x5 :: x6 :: x7 :: x8 :: x9 :: x10 :: x11 :: x12 :: x13 :: x14 :: x15 :: x16 :: x17 :: x18 :: x19 :: some (.sh p) :: σ) = .ok p := rfl
@[simp] theorem eIxV_20 : eIxV 20 db (x0 :: x1 :: x2 :: x3 :: x4 :: x5 :: x6 :: x7 :: x8 :: x9 :: x10 :: x11 :: x12 :: x13 :: x14 :: x15 :: x16 :: x17 :: x18 :: x19 :: some (.sh p) :: σ) = (db (x0 :: x1 :: x2 :: x3 :: x4 :: x5 :: x6 :: x7 :: x8 :: x9 :: x10 :: x11 :: x12 :: x13 :: x14 :: x15 :: x16 :: x17 :: x18 :: x19 :: some (.sh p) :: σ)).bind fun q => pIx p q := rfl
@[simp] theorem eIxO_20 : eIxV 20 db (x0 :: x1 :: x2 :: x3 :: x4 :: x5 :: x6 :: x7 :: x8 :: x9 :: x10 :: x11 :: x12 :: x13 :: x14 :: x15 :: x16 :: x17 :: x18 :: x19 :: some (.own xs) :: σ) = (db (x0 :: x1 :: x2 :: x3 :: x4 :: x5 :: x6 :: x7 :: x8 :: x9 :: x10 :: x11 :: x12 :: x13 :: x14 :: x15 :: x16 :: x17 :: x18 :: x19 :: some (.own xs) :: σ)).bind fun q => pIx (.lst xs) q := rfl
@[simp] theorem eLenV_20 : eLenV 20 (x0 :: x1 :: x2 :: x3 :: x4 :: x5 :: x6 :: x7 :: x8 :: x9 :: x10 :: x11 :: x12 :: x13 :: x14 :: x15 :: x16 :: x17 :: x18 :: x19 :: some (.sh p) :: σ) = bLen [p] := rfl
@[simp] theorem eLenO_20 : eLenV 20 (x0 :: x1 :: x2 :: x3 :: x4 :: x5 :: x6 :: x7 :: x8 :: x9 :: x10 :: x11 :: x12 :: x13 :: x14 :: x15 :: x16 :: x17 :: x18 :: x19 :: some (.own xs) :: σ) = .ok (.int xs.length) := rfl
@[simp] theorem eVar_21 : eVar 21 (x0 :: x1 :: x2 :: x3 :: x4 :: x5 :: x6 :: x7 :: x8 :: x9 :: x10 :: x11 :: x12 :: x13 :: x14 :: x15 :: x16 :: x17 :: x18 :: x19 :: x20 :: some (.sh p) :: σ) = .ok p := rfl
@[simp] theorem eIxV_21 : eIxV 21 db (x0 :: x1 :: x2 :: x3 :: x4 :: x5 :: x6 :: x7 :: x8 :: x9 :: x10 :: x11 :: x12 :: x13 :: x14 :: x15 :: x16 :: x17 :: x18 :: x19 :: x20 :: some (.sh p) :: σ) = (db (x0 :: x1 :: x2 :: x3 :: x4 :: x5 :: x6 :: x7 :: x8 :: x9 :: x10 :: x11 :: x12 :: x13 :: x14 :: x15 :: x16 :: x17 :: x18 :: x19 :: x20 :: some (.sh p) :: σ)).bind fun q => pIx p q := rfl
@[simp] theorem eIxO_21 : eIxV 21 db (x0 :: x1 :: x2 :: x3 :: x4 :: x5 :: x6 :: x7 :: x8 :: x9 :: x10 :: x11 :: x12 :: x13 :: x14 :: x15 :: x16 :: x17 :: x18 :: x19 :: x20 :: some (.own xs) :: σ) = (db (x0 :: x1 :: x2 :: x3 :: x4 :: x5 :: x6 :: x7 :: x8 :: x9 :: x10 :: x11 :: x12 :: x13 :: x14 :: x15 :: x16 :: x17 :: x18 :: x19 :: x20 :: some (.own xs) :: σ)).bind fun q => pIx (.lst xs) q := rfl
@[simp] theorem eLenV_21 : eLenV 21 (x0 :: x1 :: x2 :: x3 :: x4 :: x5 :: x6 :: x7 :: x8 :: x9 :: x10 :: x11 :: x12 :: x13 :: x14 :: x15 :: x16 :: x17 :: x18 :: x19 :: x20 :: some (.sh p) :: σ) = bLen [p] := rfl
@[simp] theorem eLenO_21 : eLenV 21 (x0 :: x1 :: x2 :: x3 :: x4 :: x5 :: x6 :: x7 :: x8 :: x9 :: x10 :: x11 :: x12 :: x13 :: x14 :: x15 :: x16 :: x17 :: x18 :: x19 :: x20 :: some (.own xs) :: σ) = .ok (.int xs.length) := rfl
@[simp] theorem eVar_22 : eVar 22 (x0 :: x1 :: x2 :: x3 :: x4 :: x5 :: x6 :: x7 :: x8 :: x9 :: x10 :: x11 :: x12 :: x13 :: x14 :: x15 :: x16 :: x17 :: x18 :: x19 :: x20 :: x21 :: some (.sh p) :: σ) = .ok p := rfl
@[simp] theorem eIxV_22 : eIxV 22 db (x0 :: x1 :: x2 :: x3 :: x4 :: x5 :: x6 :: x7 :: x8 :: x9 :: x10 :: x11 :: x12 :: x13 :: x14 :: x15 :: x16 :: x17 :: x18 :: x19 :: x20 :: x21 :: some (.sh p) :: σ) = (db (x0 :: x1 :: x2 :: x3 :: x4 :: x5 :: x6 :: x7 :: x8 :: x9 :: x10 :: x11 :: x12 :: x13 :: x14 :: x15 :: x16 :: x17 :: x18 :: x19 :: x20 :: x21 :: some (.sh p) :: σ)).bind fun q => pIx p q := rfl
@[simp] theorem eIxO_22 : eIxV 22 db (x0 :: x1 :: x2 :: x3 :: x4 :: x5 :: x6 :: x7 :: x8 :: x9 :: x10 :: x11 :: x12 :: x13 :: x14 :: x15 :: x16 :: x17 :: x18 :: x19 :: x20 :: x21 :: some (.own xs) :: σ) = (db (x0 :: x1 :: x2 :: x3 :: x4 :: x5 :: x6 :: x7 :: x8 :: x9 :: x10 :: x11 :: x12 :: x13 :: x14 :: x15 :: x16 :: x17 :: x18 :: x19 :: x20 :: x21 :: some (.own xs) :: σ)).bind fun q => pIx (.lst xs) q := rfl
@[simp] theorem eLenV_22 : eLenV 22 (x0 :: x1 :: x2 :: x3 :: x4 :: x5 :: x6 :: x7 :: x8 :: x9 :: x10 :: x11 :: x12 :: x13 :: x14 :: x15 :: x16 :: x17 :: x18 :: x19 :: x20 :: x21 :: some (.sh p) :: σ) = bLen [p] := rfl
@[simp] theorem eLenO_22 : eLenV 22 (x0 :: x1 :: x2 :: x3 :: x4 :: x5 :: x6 :: x7 :: x8 :: x9 :: x10 :: x11 :: x12 :: x13 :: x14 :: x15 :: x16 :: x17 :: x18 :: x19 :: x20 :: x21 :: some (.own xs) :: σ) = .ok (.int xs.length) := rfl
@[simp] theorem eVar_23 : eVar 23 (x0 :: x1 :: x2 :: x3 :: x4 :: x5 :: x6 :: x7 :: x8 :: x9 :: x10 :: x11 :: x12 :: x13 :: x14 :: x15 :: x16 :: x17 :: x18 :: x19 :: x20 :: x21 :: x22 :: some (.sh p) :: σ) = .ok p := rfl
@[simp] theorem eIxV_23 : eIxV 23 db (x0 :: x1 :: x2 :: x3 :: x4 :: x5 :: x6 :: x7 :: x8 :: x9 :: x10 :: x11 :: x12 :: x13 :: x14 :: x15 :: x16 :: x17 :: x18 :: x19 :: x20 :: x21 :: x22 :: some (.sh p) :: σ) = (db (x0 :: x1 :: x2 :: x3 :: x4 :: x5 :: x6 :: x7 :: x8 :: x9 :: x10 :: x11 :: x12 :: x13 :: x14 :: x15 :: x16 :: x17 :: x18 :: x19 :: x20 :: x21 :: x22 :: some (.sh p) :: σ)).bind fun q => pIx p q := rfl
@[simp] theorem eIxO_23 : eIxV 23 db (x0 :: x1 :: x2 :: x3 :: x4 :: x5 :: x6 :: x7 :: x8 :: x9 :: x10 :: x11 :: x12 :: x13 :: x14 :: x15 :: x16 :: x17 :: x18 :: x19 :: x20 :: x21 :: x22 :: some (.own xs) :: σ) = (db (x0 :: x1 :: x2 :: x3 :: x4 :: x5 :: x6 :: x7 :: x8 :: x9 :: x10 :: x11 :: x12 :: x13 :: x14 :: x15 :: x16 :: x17 :: x18 :: x19 :: x20 :: x21 :: x22 :: some (.own xs) :: σ)).bind fun q => pIx (.lst xs) q := rfl
@[simp] theorem eLenV_23 : eLenV 23 (x0 :: x1 :: x2 :: x3 :: x4 :: x5 :: x6 :: x7 :: x8 :: x9 :: x10 :: x11 :: x12 :: x13 :: x14 :: x15 :: x16 :: x17 :: x18 :: x19 :: x20 :: x21 :: x22 :: some (.sh p) :: σ) = bLen [p] := rfl
@[simp] theorem eLenO_23 : eLenV 23 (x0 :: x1 :: x2 :: x3 :: x4 :: x5 :: x6 :: x7 :: x8 :: x9 :: x10 :: x11 :: x12 :: x13 :: x14 :: x15 :: x16 :: x17 :: x18 :: x19 :: x20 :: x21 :: x22 :: some (.own xs) :: σ) = .ok (.int xs.length) := rfl
@[simp] theorem eVar_24 : eVar 24 (x0 :: x1 :: x2 :: x3 :: x4 :: x5 :: x6 :: x7 :: x8 :: x9 :: x10 :: x11 :: x12 :: x13 :: x14 :: x15 :: x16 :: x17 :: x18 :: x19 :: x20 :: x21 :: x22 :: x23 :: some (.sh p) :: σ) = .ok p := rfl
@[simp] theorem eIxV_24 : eIxV 24 db (x0 :: x1 :: x2 :: x3 :: x4 :: x5 :: x6 :: x7 :: x8 :: x9 :: x10 :: x11 :: x12 :: x13 :: x14 :: x15 :: x16 :: x17 :: x18 :: x19 :: x20 :: x21 :: x22 :: x23 :: some (.sh p) :: σ) = (db (x0 :: x1 :: x2 :: x3 :: x4 :: x5 :: x6 :: x7 :: x8 :: x9 :: x10 :: x11 :: x12 :: x13 :: x14 :: x15 :: x16 :: x17 :: x18 :: x19 :: x20 :: x21 :: x22 :: x23 :: some (.sh p) :: σ)).bind fun q => pIx p q := rfl
@[simp] theorem eIxO_24 : eIxV 24 db (x0 :: x1 :: x2 :: x3 :: x4 :: x5 :: x6 :: x7 :: x8 :: x9 :: x10 :: x11 :: x12 :: x13 :: x14 :: x15 :: x16 :: x17 :: x18 :: x19 :: x20 :: x21 :: x22 :: x23 :: some (.own xs) :: σ) = (db (x0 :: x1 :: x2 :: x3 :: x4 :: x5 :: x6 :: x7 :: x8 :: x9 :: x10 :: x11 :: x12 :: x13 :: x14 :: x15 :: x16 :: x17 :: x18 :: x19 :: x20 :: x21 :: x22 :: x23 :: some (.own xs) :: σ)).bind fun q => pIx (.lst xs) q := rfl
@[simp] theorem eLenV_24 : eLenV 24 (x0 :: x1 :: x2 :: x3 :: x4 :: x5 :: x6 :: x7 :: x8 :: x9 :: x10 :: x11 :: x12 :: x13 :: x14 :: x15 :: x16 :: x17 :: x18 :: x19 :: x20 :: x21 :: x22 :: x23 :: some (.sh p) :: σ) = bLen [p] := rfl
@[simp] theorem eLenO_24 : eLenV 24 (x0 :: x1 :: x2 :: x3 :: x4 :: x5 :: x6 :: x7 :: x8 :: x9 :: x10 :: x11 :: x12 :: x13 :: x14 :: x15 :: x16 :: x17 :: x18 :: x19 :: x20 :: x21 :: x22 :: x23 :: some (.own xs) :: σ) = .ok (.int xs.length) := rfl
@[simp] theorem eVar_25 : eVar 25 (x0 :: x1 :: x2 :: x3 :: x4 :: x5 :: x6 :: x7 :: x8 :: x9 :: x10 :: x11 :: x12 :: x13 :: x14 :: x15 :: x16 :: x17 :: x18 :: x19 :: x20 :: x21 :: x22 :: x23 :: x24 :: some (.sh p) :: σ) = .ok p := rfl
@[simp] theorem eIxV_25 : eIxV 25 db (x0 :: x1 :: x2 :: x3 :: x4 :: x5 :: x6 :: x7 :: x8 :: x9 :: x10 :: x11 :: x12 :: x13 :: x14 :: x15 :: x16 :: x17 :: x18 :: x19 :: x20 :: x21 :: x22 :: x23 :: x24 :: some (.sh p) :: σ) = (db (x0 :: x1 :: x2 :: x3 :: x4 :: x5 :: x6 :: x7 :: x8 :: x9 :: x10 :: x11 :: x12 :: x13 :: x14 :: x15 :: x16 :: x17 :: x18 :: x19 :: x20 :: x21 :: x22 :: x23 :: x24 :: some (.sh p) :: σ)).bind fun q => pIx p q := rfl
@[simp] theorem eIxO_25 : eIxV 25 db (x0 :: x1 :: x2 :: x3 :: x4 :: x5 :: x6 :: x7 :: x8 :: x9 :: x10 :: x11 :: x12 :: x13 :: x14 :: x15 :: x16 :: x17 :: x18 :: x19 :: x20 :: x21 :: x22 :: x23 :: x24 :: some (.own xs) :: σ) = (db (x0 :: x1 :: x2 :: x3 :: x4 :: x5 :: x6 :: x7 :: x8 :: x9 :: x10 :: x11 :: x12 :: x13 :: x14 :: x15 :: x16 :: x17 :: x18 :: x19 :: x20 :: x21 :: x22 :: x23 :: x24 :: some (.own xs) :: σ)).bind fun q => pIx (.lst xs) q := rfl
@[simp] theorem eLenV_25 : eLenV 25 (x0 :: x1 :: x2 :: x3 :: x4 :: x5 :: x6 :: x7 :: x8 :: x9 :: x10 :: x11 :: x12 :: x13 :: x14 :: x15 :: x16 :: x17 :: x18 :: x19 :: x20 :: x21 :: x22 :: x23 :: x24 :: some (.sh p) :: σ) = bLen [p] := rfl
@[simp] theorem eLenO_25 : eLenV 25 (x0 :: x1 :: x2 :: x3 :: x4 :: x5 :: x6 :: x7 :: x8 :: x9 :: x10 :: x11 :: x12 :: x13 :: x14 :: x15 :: x16 :: x17 :: x18 :: x19 :: x20 :: x21 :: x22 :: x23 :: x24 :: some (.own xs) :: σ) = .ok (.int xs.length) := rfl
end
@[simp] theorem ty_non : tyName .non = "NoneType" := rfl
@[simp] theorem ty_bl {b} : tyName (.bl b) = "bool" := rfl
@[simp] theorem ty_int {b} : tyName (.int b) = "int" := rfl
@[simp] theorem ty_str {b} : tyName (.str b) = "str" := rfl
@[simp] theorem ty_tup {b} : tyName (.tup b) = "tuple" := rfl
@[simp] theorem ty_lst {b} : tyName (.lst b) = "list" := rfl
@[simp] theorem ty_scr {b} : tyName (.scr b) = "list" := rfl
@[simp] theorem ty_dic : tyName .dic = "dict" := rfl
@[simp] theorem pIx_t {xs : List PV} {i : Int} : pIx (.tup xs) (.int i) = atR xs i id := rfl
@[simp] theorem pIx_l {xs : List PV} {i : Int} : pIx (.lst xs) (.int i) = atR xs i id := rfl
@[simp] theorem pIx_s {xs : List Int} {i : Int} : pIx (.scr xs) (.int i) = atR xs i PV.int := rfl
@[simp] theorem bLen_t {xs : List PV} : bLen [.tup xs] = .ok (.int xs.length) := rfl
@[simp] theorem bLen_l {xs : List PV} : bLen [.lst xs] = .ok (.int xs.length) := rfl
@[simp] theorem bLen_s {xs : List Int} : bLen [.scr xs] = .ok (.int xs.length) := rfl
@[simp] theorem asSeq_t {xs : List PV} : asSeq (.tup xs) = .ok xs := rfl
@[simp] theorem asSeq_l {xs : List PV} : asSeq (.lst xs) = .ok xs := rfl
@[simp] theorem asSeq_s {xs : List Int} : asSeq (.scr xs) = .ok (xs.map PV.int) := rfl
theorem atR_of {α : Type} {xs : List α} {i : Int} {f : α → PV} {x : α} (h : atI xs i = some x) : atR xs i f = .ok (f x) := by unfold atR; rw [h]
@[simp] theorem pLst_3 {p q r : PV} : pLst [p, q, r] = .ok (.lst [p, q, r]) := rfl
@[simp] theorem pLst_2 {p q : PV} : pLst [p, q] = .ok (.lst [p, q]) := rfl
@[simp] theorem pLst_1 {p : PV} : pLst [p] = .ok (.lst [p]) := rfl
@[simp] theorem pLst_0 : pLst [] = .ok (.lst []) := rfl
@[simp] theorem atR_1_0 {α : Type} {f : α → PV} {y0 : α} : atR [y0] 0 f = .ok (f y0) := rfl
@[simp] theorem atN_1_0 {α : Type} {f : α → PV} {y0 : α} : atR [y0] (-1) f = .ok (f y0) := rfl
@[simp] theorem atR_2_0 {α : Type} {f : α → PV} {y0 y1 : α} : atR [y0, y1] 0 f = .ok (f y0) := rfl
@[simp] theorem atN_2_0 {α : Type} {f : α → PV} {y0 y1 : α} : atR [y0, y1] (-2) f = .ok (f y0) := rfl
@[simp] theorem atR_2_1 {α : Type} {f : α → PV} {y0 y1 : α} : atR [y0, y1] 1 f = .ok (f y1) := rfl
@[simp] theorem atN_2_1 {α : Type} {f : α → PV} {y0 y1 : α} : atR [y0, y1] (-1) f = .ok (f y1) := rfl
@[simp] theorem atR_3_0 {α : Type} {f : α → PV} {y0 y1 y2 : α} : atR [y0, y1, y2] 0 f = .ok (f y0) := rfl
@[simp] theorem atN_3_0 {α : Type} {f : α → PV} {y0 y1 y2 : α} : atR [y0, y1, y2] (-3) f = .ok (f y0) := rfl
@[simp] theorem atR_3_1 {α : Type} {f : α → PV} {y0 y1 y2 : α} : atR [y0, y1, y2] 1 f = .ok (f y1) := rfl
@[simp] theorem atN_3_1 {α : Type} {f : α → PV} {y0 y1 y2 : α} : atR [y0, y1, y2] (-2) f = .ok (f y1) := rfl
@[simp] theorem atR_3_2 {α : Type} {f : α → PV} {y0 y1 y2 : α} : atR [y0, y1, y2] 2 f = .ok (f y2) := rfl
@[simp] theorem atN_3_2 {α : Type} {f : α → PV} {y0 y1 y2 : α} : atR [y0, y1, y2] (-1) f = .ok (f y2) := rfl
@[simp] theorem atR_4_0 {α : Type} {f : α → PV} {y0 y1 y2 y3 : α} : atR [y0, y1, y2, y3] 0 f = .ok (f y0) := rfl
@[simp] theorem atN_4_0 {α : Type} {f : α → PV} {y0 y1 y2 y3 : α} : atR [y0, y1, y2, y3] (-4) f = .ok (f y0) := rfl
@[simp] theorem atR_4_1 {α : Type} {f : α → PV} {y0 y1 y2 y3 : α} : atR [y0, y1, y2, y3] 1 f = .ok (f y1) := rfl
@[simp] theorem atN_4_1 {α : Type} {f : α → PV} {y0 y1 y2 y3 : α} : atR [y0, y1, y2, y3] (-3) f = .ok (f y1) := rfl
@[simp] theorem atR_4_2 {α : Type} {f : α → PV} {y0 y1 y2 y3 : α} : atR [y0, y1, y2, y3] 2 f = .ok (f y2) := rfl
@[simp] theorem atN_4_2 {α : Type} {f : α → PV} {y0 y1 y2 y3 : α} : atR [y0, y1, y2, y3] (-2) f = .ok (f y2) := rfl
@[simp] theorem atR_4_3 {α : Type} {f : α → PV} {y0 y1 y2 y3 : α} : atR [y0, y1, y2, y3] 3 f = .ok (f y3) := rfl
@[simp] theorem atN_4_3 {α : Type} {f : α → PV} {y0 y1 y2 y3 : α} : atR [y0, y1, y2, y3] (-1) f = .ok (f y3) := rfl
@[simp] theorem atR_5_0 {α : Type} {f : α → PV} {y0 y1 y2 y3 y4 : α} : atR [y0, y1, y2, y3, y4] 0 f = .ok (f y0) := rfl
@[simp] theorem atN_5_0 {α : Type} {f : α → PV} {y0 y1 y2 y3 y4 : α} : atR [y0, y1, y2, y3, y4] (-5) f = .ok (f y0) := rfl
@[simp] theorem atR_5_1 {α : Type} {f : α → PV} {y0 y1 y2 y3 y4 : α} : atR [y0, y1, y2, y3, y4] 1 f = .ok (f y1) := rfl
@[simp] theorem atN_5_1 {α : Type} {f : α → PV} {y0 y1 y2 y3 y4 : α} : atR [y0, y1, y2, y3, y4] (-4) f = .ok (f y1) := rfl
@[simp] theorem atR_5_2 {α : Type} {f : α → PV} {y0 y1 y2 y3 y4 : α} : atR [y0, y1, y2, y3, y4] 2 f = .ok (f y2) := rfl
@[simp] theorem atN_5_2 {α : Type} {f : α → PV} {y0 y1 y2 y3 y4 : α} : atR [y0, y1, y2, y3, y4] (-3) f = .ok (f y2) := rfl
@[simp] theorem atR_5_3 {α : Type} {f : α → PV} {y0 y1 y2 y3 y4 : α} : atR [y0, y1, y2, y3, y4] 3 f = .ok (f y3) := rfl
@[simp] theorem atN_5_3 {α : Type} {f : α → PV} {y0 y1 y2 y3 y4 : α} : atR [y0, y1, y2, y3, y4] (-2) f = .ok (f y3) := rfl
@[simp] theorem atR_5_4 {α : Type} {f : α → PV} {y0 y1 y2 y3 y4 : α} : atR [y0, y1, y2, y3, y4] 4 f = .ok (f y4) := rfl
@[simp] theorem atN_5_4 {α : Type} {f : α → PV} {y0 y1 y2 y3 y4 : α} : atR [y0, y1, y2, y3, y4] (-1) f = .ok (f y4) := rfl
@[simp] theorem atR_6_0 {α : Type} {f : α → PV} {y0 y1 y2 y3 y4 y5 : α} : atR [y0, y1, y2, y3, y4, y5] 0 f = .ok (f y0) := rfl
@[simp] theorem atN_6_0 {α : Type} {f : α → PV} {y0 y1 y2 y3 y4 y5 : α} : atR [y0, y1, y2, y3, y4, y5] (-6) f = .ok (f y0) := rfl
@[simp] theorem atR_6_1 {α : Type} {f : α → PV} {y0 y1 y2 y3 y4 y5 : α} : atR [y0, y1, y2, y3, y4, y5] 1 f = .ok (f y1) := rfl
@[simp] theorem atN_6_1 {α : Type} {f : α → PV} {y0 y1 y2 y3 y4 y5 : α} : atR [y0, y1, y2, y3, y4, y5] (-5) f = .ok (f y1) := rfl
@[simp] theorem atR_6_2 {α : Type} {f : α → PV} {y0 y1 y2 y3 y4 y5 : α} : atR [y0, y1, y2, y3, y4, y5] 2 f = .ok (f y2) := rfl
@[simp] theorem atN_6_2 {α : Type} {f : α → PV} {y0 y1 y2 y3 y4 y5 : α} : atR [y0, y1, y2, y3, y4, y5] (-4) f = .ok (f y2) := rfl
@[simp] theorem atR_6_3 {α : Type} {f : α → PV} {y0 y1 y2 y3 y4 y5 : α} : atR [y0, y1, y2, y3, y4, y5] 3 f = .ok (f y3) := rfl
@[simp] theorem atN_6_3 {α : Type} {f : α → PV} {y0 y1 y2 y3 y4 y5 : α} : atR [y0, y1, y2, y3, y4, y5] (-3) f = .ok (f y3) := rfl
@[simp] theorem atR_6_4 {α : Type} {f : α → PV} {y0 y1 y2 y3 y4 y5 : α} : atR [y0, y1, y2, y3, y4, y5] 4 f = .ok (f y4) := rfl
@[simp] theorem atN_6_4 {α : Type} {f : α → PV} {y0 y1 y2 y3 y4 y5 : α} : atR [y0, y1, y2, y3, y4, y5] (-2) f = .ok (f y4) := rfl
@[simp] theorem atR_6_5 {α : Type} {f : α → PV} {y0 y1 y2 y3 y4 y5 : α} : atR [y0, y1, y2, y3, y4, y5] 5 f = .ok (f y5) := rfl
@[simp] theorem atN_6_5 {α : Type} {f : α → PV} {y0 y1 y2 y3 y4 y5 : α} : atR [y0, y1, y2, y3, y4, y5] (-1) f = .ok (f y5) := rfl
@[simp] theorem atR_7_0 {α : Type} {f : α → PV} {y0 y1 y2 y3 y4 y5 y6 : α} : atR [y0, y1, y2, y3, y4, y5, y6] 0 f = .ok (f y0) := rfl
@[simp] theorem atN_7_0 {α : Type} {f : α → PV} {y0 y1 y2 y3 y4 y5 y6 : α} : atR [y0, y1, y2, y3, y4, y5, y6] (-7) f = .ok (f y0) := rfl
@[simp] theorem atR_7_1 {α : Type} {f : α → PV} {y0 y1 y2 y3 y4 y5 y6 : α} : atR [y0, y1, y2, y3, y4, y5, y6] 1 f = .ok (f y1) := rfl
@[simp] theorem atN_7_1 {α : Type} {f : α → PV} {y0 y1 y2 y3 y4 y5 y6 : α} : atR [y0, y1, y2, y3, y4, y5, y6] (-6) f = .ok (f y1) := rfl
@[simp] theorem atR_7_2 {α : Type} {f : α → PV} {y0 y1 y2 y3 y4 y5 y6 : α} : atR [y0, y1, y2, y3, y4, y5, y6] 2 f = .ok (f y2) := rfl
@[simp] theorem atN_7_2 {α : Type} {f : α → PV} {y0 y1 y2 y3 y4 y5 y6 : α} : atR [y0, y1, y2, y3, y4, y5, y6] (-5) f = .ok (f y2) := rfl
@[simp] theorem atR_7_3 {α : Type} {f : α → PV} {y0 y1 y2 y3 y4 y5 y6 : α} : atR [y0, y1, y2, y3, y4, y5, y6] 3 f = .ok (f y3) := rfl
@[simp] theorem atN_7_3 {α : Type} {f : α → PV} {y0 y1 y2 y3 y4 y5 y6 : α} : atR [y0, y1, y2, y3, y4, y5, y6] (-4) f = .ok (f y3) := rfl
@[simp] theorem atR_7_4 {α : Type} {f : α → PV} {y0 y1 y2 y3 y4 y5 y6 : α} : atR [y0, y1, y2, y3, y4, y5, y6] 4 f = .ok (f y4) := rfl
@[simp] theorem atN_7_4 {α : Type} {f : α → PV} {y0 y1 y2 y3 y4 y5 y6 : α} : atR [y0, y1, y2, y3, y4, y5, y6] (-3) f = .ok (f y4) := rfl
@[simp] theorem atR_7_5 {α : Type} {f : α → PV} {y0 y1 y2 y3 y4 y5 y6 : α} : atR [y0, y1, y2, y3, y4, y5, y6] 5 f = .ok (f y5) := rfl
@[simp] theorem atN_7_5 {α : Type} {f : α → PV} {y0 y1 y2 y3 y4 y5 y6 : α} : atR [y0, y1, y2, y3, y4, y5, y6] (-2) f = .ok (f y5) := rfl
@[simp] theorem atR_7_6 {α : Type} {f : α → PV} {y0 y1 y2 y3 y4 y5 y6 : α} : atR [y0, y1, y2, y3, y4, y5, y6] 6 f = .ok (f y6) := rfl
@[simp] theorem atN_7_6 {α : Type} {f : α → PV} {y0 y1 y2 y3 y4 y5 y6 : α} : atR [y0, y1, y2, y3, y4, y5, y6] (-1) f = .ok (f y6) := rfl
@[simp] theorem atR_8_0 {α : Type} {f : α → PV} {y0 y1 y2 y3 y4 y5 y6 y7 : α} : atR [y0, y1, y2, y3, y4, y5, y6, y7] 0 f = .ok (f y0) := rfl
@[simp] theorem atN_8_0 {α : Type} {f : α → PV} {y0 y1 y2 y3 y4 y5 y6 y7 : α} : atR [y0, y1, y2, y3, y4, y5, y6, y7] (-8) f = .ok (f y0) := rfl
@[simp] theorem atR_8_1 {α : Type} {f : α → PV} {y0 y1 y2 y3 y4 y5 y6 y7 : α} : atR [y0, y1, y2, y3, y4, y5, y6, y7] 1 f = .ok (f y1) := rfl
@[simp] theorem atN_8_1 {α : Type} {f : α → PV} {y0 y1 y2 y3 y4 y5 y6 y7 : α} : atR [y0, y1, y2, y3, y4, y5, y6, y7] (-7) f = .ok (f y1) := rfl
@[simp] theorem atR_8_2 {α : Type} {f : α → PV} {y0 y1 y2 y3 y4 y5 y6 y7 : α} : atR [y0, y1, y2, y3, y4, y5, y6, y7] 2 f = .ok (f y2) := rfl
@[simp] theorem atN_8_2 {α : Type} {f : α → PV} {y0 y1 y2 y3 y4 y5 y6 y7 : α} : atR [y0, y1, y2, y3, y4, y5, y6, y7] (-6) f = .ok (f y2) := rfl
@[simp] theorem atR_8_3 {α : Type} {f : α → PV} {y0 y1 y2 y3 y4 y5 y6 y7 : α} : atR [y0, y1, y2, y3, y4, y5, y6, y7] 3 f = .ok (f y3) := rfl
@[simp] theorem atN_8_3 {α : Type} {f : α → PV} {y0 y1 y2 y3 y4 y5 y6 y7 : α} : atR [y0, y1, y2, y3, y4, y5, y6, y7] (-5) f = .ok (f y3) := rfl
@[simp] theorem atR_8_4 {α : Type} {f : α → PV} {y0 y1 y2 y3 y4 y5 y6 y7 : α} : atR [y0, y1, y2, y3, y4, y5, y6, y7] 4 f = .ok (f y4) := rfl
@[simp] theorem atN_8_4 {α : Type} {f : α → PV} {y0 y1 y2 y3 y4 y5 y6 y7 : α} : atR [y0, y1, y2, y3, y4, y5, y6, y7] (-4) f = .ok (f y4) := rfl
@[simp] theorem atR_8_5 {α : Type} {f : α → PV} {y0 y1 y2 y3 y4 y5 y6 y7 : α} : atR [y0, y1, y2, y3, y4, y5, y6, y7] 5 f = .ok (f y5) := rfl
@[simp] theorem atN_8_5 {α : Type} {f : α → PV} {y0 y1 y2 y3 y4 y5 y6 y7 : α} : atR [y0, y1, y2, y3, y4, y5, y6, y7] (-3) f = .ok (f y5) := rfl
@[simp] theorem atR_8_6 {α : Type} {f : α → PV} {y0 y1 y2 y3 y4 y5 y6 y7 : α} : atR [y0, y1, y2, y3, y4, y5, y6, y7] 6 f = .ok (f y6) := rfl
@[simp] theorem atN_8_6 {α : Type} {f : α → PV} {y0 y1 y2 y3 y4 y5 y6 y7 : α} : atR [y0, y1, y2, y3, y4, y5, y6, y7] (-2) f = .ok (f y6) := rfl
@[simp] theorem atR_8_7 {α : Type} {f : α → PV} {y0 y1 y2 y3 y4 y5 y6 y7 : α} : atR [y0, y1, y2, y3, y4, y5, y6, y7] 7 f = .ok (f y7) := rfl
@[simp] theorem atN_8_7 {α : Type} {f : α → PV} {y0 y1 y2 y3 y4 y5 y6 y7 : α} : atR [y0, y1, y2, y3, y4, y5, y6, y7] (-1) f = .ok (f y7) := rfl
end G
namespace G
open PySem PySem.Spec PyProof.Rows L2
section
variable {i j : Int}
@[simp] theorem pMul_nr (n : Nat) (h : n < 18446744073709551616) : pMul (.int i) (.int (no_index (OfNat.ofNat n))) = .ok (.int (i * OfNat.ofNat n)) := pMul_s (mulR (by show -(2 ^ 64) < ((n : Nat) : Int); omega) (by show ((n : Nat) : Int) < 2 ^ 64; omega))
@[simp] theorem pMul_nl (n : Nat) (h : n < 18446744073709551616) : pMul (.int (no_index (OfNat.ofNat n))) (.int j) = .ok (.int (OfNat.ofNat n * j)) := pMul_s (mulL (by show -(2 ^ 64) < ((n : Nat) : Int); omega) (by show ((n : Nat) : Int) < 2 ^ 64; omega))
@[simp] theorem pMod_n (n : Nat) (h : 0 < n) : pMod (.int i) (.int (no_index (OfNat.ofNat n))) = .ok (.int (i % OfNat.ofNat n)) := by
  have h0 : (0 : Int) < (OfNat.ofNat n : Int) := by show (0 : Int) < ((n : Nat) : Int); omega
  rw [pMod_s (by omega), Int.fmod_eq_emod_of_nonneg _ (by omega)]
@[simp] theorem pFdiv_n (n : Nat) (h : 0 < n) (h' : n < 18446744073709551616) : pFdiv (.int i) (.int (no_index (OfNat.ofNat n))) = .ok (.int (i / OfNat.ofNat n)) := by
  have h0 : (0 : Int) < (OfNat.ofNat n : Int) := by show (0 : Int) < ((n : Nat) : Int); omega
  have h1 : (OfNat.ofNat n : Int) < 2 ^ 64 := by show ((n : Nat) : Int) < 2 ^ 64; omega
  rw [pFdiv_s (by omega) (Nat.le_trans (intBits_le_64 (by omega) h1) (by decide)), Int.fdiv_eq_ediv_of_nonneg _ (by omega)]
@[simp] theorem pPow_n (n m : Nat) (h : n < 18446744073709551616) (h' : m ≤ 1000000) : pPow (.int (no_index (OfNat.ofNat n))) (.int (no_index (OfNat.ofNat m))) = .ok (.int (OfNat.ofNat n ^ m)) := by
  have e : ((OfNat.ofNat m : Int)).toNat = m := by show (((m : Nat) : Int)).toNat = m; omega
  rw [pPow_s (by show (0 : Int) ≤ ((m : Nat) : Int); omega) (by show ((m : Nat) : Int) ≤ 1000000; omega) (by show (((n : Nat) : Int)).natAbs < 2 ^ 64; omega), e]
end
end G
set_option Elab.async false
set_option linter.all false
set_option maxRecDepth 100000
set_option maxHeartbeats 1000000
namespace G
open PySem PySem.Spec PyProof.Rows L2
section
variable {σ : PSt}
@[simp] theorem finE_ret {p : PV} : finE (.ok (.ret p)) = .ok p := rfl
@[simp] theorem finE_err {c : Str} : finE (.err c) = .err c := rfl
@[simp] theorem finE_next : finE (.ok (.next σ)) = .ok .non := rfl
@[simp] theorem sRaise_s {c : Str} : sRaise c σ = .err c := rfl
@[simp] theorem noErr_e {c : Str} : noErr (.err c) = .stuck := rfl
@[simp] theorem pIsiX_n {tab : List (Str × Bool)} : pIsiX tab .non = .ok (.bl false) := rfl
theorem pIsiX_c {tab : List (Str × Bool)} {c : Str} {b : Bool} (h : tab.lookup c = some b) : pIsiX tab (.exc c) = .ok (.bl b) := by rw [pIsiX_e, h]
theorem sTry_ok {m : List PV → Res PV} {ra : DA} {cs : List Str} {i : Nat} {ds : DS} {qs : List PV} {v : PV} (h1 : ra σ = .ok qs) (h2 : m qs = .ok v) : sTry m ra cs i ds σ = .ok (.next σ) := by unfold sTry; simp only [h1, h2]
theorem sTry_err {m : List PV → Res PV} {ra : DA} {cs : List Str} {i : Nat} {ds : DS} {qs : List PV} {c : Str} {σ' : PSt} (h1 : ra σ = .ok qs) (h2 : m qs = .err c) (h3 : cs.contains c = true) (h4 : ds (σ.set i (some (.sh (.exc c)))) = .ok (.next σ')) : sTry m ra cs i ds σ = .ok (.next (σ'.set i none)) := by
  unfold sTry; simp only [h1, h2, h3, if_true, h4]
end
theorem re1 {m : Nat} {d : DS} {p : PV} : runE 1 m d [p] = finE (d (some (.sh p) :: List.replicate (m - 1) none)) := (runE_eq rfl).trans rfl
theorem re2 {m : Nat} {d : DS} {p q : PV} : runE 2 m d [p, q] = finE (d (some (.sh p) :: some (.sh q) :: List.replicate (m - 2) none)) := (runE_eq rfl).trans rfl
theorem re3 {m : Nat} {d : DS} {p q r : PV} : runE 3 m d [p, q, r] = finE (d (some (.sh p) :: some (.sh q) :: some (.sh r) :: List.replicate (m - 3) none)) := (runE_eq rfl).trans rfl
theorem re4 {m : Nat} {d : DS} {p q r s : PV} : runE 4 m d [p, q, r, s] = finE (d (some (.sh p) :: some (.sh q) :: some (.sh r) :: some (.sh s) :: List.replicate (m - 4) none)) := (runE_eq rfl).trans rfl
end G
set_option Elab.async false
set_option linter.all false
set_option maxRecDepth 100000
set_option maxHeartbeats 2000000
namespace G
open PySem PySem.Spec PyProof.Rows L2
/-- x[k] = v upon a list of its own -/
def putR (i : Nat) (σ : PSt) (xs : List PV) (v : PV) : PV → Res Fl
  | .int k => match ixN xs.length k with
    | some j => .ok (.next (σ.set i (some (.own (xs.set j v)))))
    | none => .stuck
  | _ => .stuck
def sPut (i : Nat) (db da : DE) : DS := fun σ => (da σ).bind fun v => match σ[i]? with
  | some (some (.own xs)) => (db σ).bind fun k => putR i σ xs v k
  | _ => .stuck
/-- slot i is shared from here on -/
def sShare (i : Nat) (d : DS) : DS := fun σ => match σ[i]? with
  | some (some (.own xs)) => d (σ.set i (some (.sh (.lst xs))))
  | _ => d σ
section
variable {X : Cx} {H0 Hs0 Hs H : Hp} {σ : PSt} {τ : L2.St} {a b : Expr} {da db : DE} {pos pos' np : Pos} {i : Nat} {x : Str}
theorem qs_put (hN : X.N[i]? = some x) (hv : Vis X.env.scope x) (hd : (x == ("__debug__" : Str)) = false) (hcd : (x == ("__classdict__" : Str)) = false) (hb : QE X H0 Hs0 b db) (ha : QE X H0 Hs0 a da)
    (hs : swapsWithSole [.Subscript (.Name x np) b pos'] a pos.line X.env = pure false) (hw : swappedStores [.Subscript (.Name x np) b pos'] a X.env = pure none)
    (h1 : (assignEach [.Subscript (.Name x np) b pos'] X.env).map (·.2) = [assign (.Subscript (.Name x np) b pos') X.env])
    (has : ∀ v, assign (.Subscript (.Name x np) b pos') X.env v = (do
      let ov ← holding [v] (eval (.Name x np) X.env)
      let iv ← holding [v, ov] (eval b X.env)
      standAt pos'
      holding [v, ov, iv] (setItem ov iv v)
      release [v, ov, iv] [])) :
    QS X H0 Hs0 (.Assign [.Subscript (.Name x np) b pos'] a pos) (sPut i db da) :=
  PS.imp (ps_asg ha (pg_sub (pe_var hN hv hd hcd) hb set_list has) hs hw h1) fun D τ H ⟨Hs, σ, S, h⟩ => ⟨Hs, σ, S, Ret.mono (EndR.bind1 h) fun v H1 ⟨Hs1, p, g1, r1, h1⟩ => by
    split at h1
    · rename_i xs e
      have S1 := S.grow g1
      obtain ⟨v0, e1, ad, vs, rfl, _⟩ := S1.slot i _ e
      refine ⟨_, e1, Hs1, σ, S1, Ret.mono (EndR.bind1 h1) fun y H2 ⟨Hs2, k, g2, rk, h2⟩ => ?_⟩
      have S2 := S1.grow g2
      obtain ⟨v2, e2, ad2, vs2, e3, q1, q2, q3, q4⟩ := S2.slot i _ e
      rw [e1] at e2
      cases e2
      cases e3
      cases k with
      | int k' =>
        have h2 : EndR X H0 Hs0 D Hs2 H2 (match ixN xs.length k' with
          | some j => .ok (.next (σ.set i (some (.own (xs.set j p)))))
          | none => .stuck) := h2
        cases hj : ixN xs.length k' with
        | none => rw [hj] at h2; exact h2.elim
        | some j =>
          rw [hj] at h2
          cases rk.int_inv
          refine ⟨ad, vs2, k', j, rfl, rfl, q1, by rw [q4.length]; exact hj, ?_⟩
          exact h2 Hs2 _ τ (Same.refl _) (S2.write i e e1 q2 q3 (Reps.set (r1.mono g2.s) j q4))
      | _ => exact h2.elim
    · exact h1.elim⟩
theorem SR.share {K : PySem.W.Frag} {xs : List PV} (S : SR K H0 Hs0 Hs H σ τ) (e : σ[i]? = some (some (.own xs))) : ∃ Hs', Same Hs Hs' ∧ SR K H0 Hs0 Hs' H (σ.set i (some (.sh (.lst xs)))) τ := by
  obtain ⟨v, e1, ad, vs, rfl, h1, h2, h3, h4⟩ := S.slot i _ e
  refine ⟨upd Hs ad (.lst vs), same_lay h2, S.g.lay h1 h2 h3, fun j sv ej => ?_, fun j k xs' ys' a hjk e2 e3 e4 => ?_, by rw [List.length_set]; exact S.len⟩
  · rcases set_some ej with ⟨rfl, e', _⟩ | ⟨hne, e'⟩
    · cases e'
      exact ⟨.ref ad, e1, .lst upd_same (h4.mono (same_lay h2))⟩
    · obtain ⟨w, w1, w2⟩ := S.slot j sv e'
      refine ⟨w, w1, ?_⟩
      cases sv with
      | sh p => exact Rep.mono (same_lay h2) w2
      | own ys =>
        obtain ⟨a', vs', rfl, q1, q2, q3, q4⟩ := w2
        have : a' ≠ ad := fun z => S.inj i j xs ys ad (Ne.symm hne) e e' e1 (by rw [← z]; exact w1)
        exact ⟨a', vs', rfl, q1, by rw [upd_ne this]; exact q2, q3, q4.mono (same_lay h2)⟩
  · rcases set_some e2 with ⟨_, z, _⟩ | ⟨_, e2'⟩
    · cases z
    · rcases set_some e3 with ⟨_, z, _⟩ | ⟨_, e3'⟩
      · cases z
      · exact S.inj j k _ _ _ hjk e2' e3' e4
theorem qs_share {st : Stmt} {d : DS} (i : Nat) (h : QS X H0 Hs0 st d) : QS X H0 Hs0 st (sShare i d) := PS.imp h fun D τ H ⟨Hs, σ, S, q⟩ => by
  unfold sShare at q
  split at q
  · rename_i xs e
    obtain ⟨Hs', e', S'⟩ := S.share e
    exact ⟨Hs', _, S', EndR.same q e'⟩
  · exact ⟨Hs, σ, S, q⟩
theorem xput (i : Nat) (hb : XE X H0 Hs0 b db) (ha : XE X H0 Hs0 a da) (hN : X.N[i]? = some x := by rfl) (hv : Vis X.env.scope x := by first | exact Or.inl rfl | exact Or.inr (Or.inl rfl) | exact Or.inr (Or.inr rfl)) (hd : (x == ("__debug__" : Str)) = false := by decide) (hcd : (x == ("__classdict__" : Str)) = false := by decide)
    (hs : noComp a = true := by rfl) (hw : swappedStores [.Subscript (.Name x np) b pos'] a X.env = pure none := by rfl)
    (h1 : (assignEach [.Subscript (.Name x np) b pos'] X.env).map (·.2) = [assign (.Subscript (.Name x np) b pos') X.env] := by rfl)
    (has : ∀ v, assign (.Subscript (.Name x np) b pos') X.env v = (do
      let ov ← holding [v] (eval (.Name x np) X.env)
      let iv ← holding [v, ov] (eval b X.env)
      standAt pos'
      holding [v, ov, iv] (setItem ov iv v)
      release [v, ov, iv] []) := by intro _; rfl) : XS X H0 Hs0 (.Assign [.Subscript (.Name x np) b pos'] a pos) (sPut i db da) := ⟨qs_put hN hv hd hcd hb.h ha.h (swapSole_no hs) hw h1 has⟩
theorem xshare {st : Stmt} {d : DS} (i : Nat) (h : XS X H0 Hs0 st d) : XS X H0 Hs0 st (sShare i d) := ⟨qs_share i h.h⟩
theorem xgs0 : XGs X H0 Hs0 [] [] := ⟨qgs_nil⟩
theorem xgs (i : Nat) {is : List Nat} {es : List Expr} (h : XGs X H0 Hs0 es is) (hN : X.N.Nodup := by assumption) (hi : X.N[i]? = some x := by rfl) (hx : Loc X.env.scope x := by first | exact Or.inl rfl | exact Or.inr rfl) (hf : X.fn x = true ∨ X.env.scope.names.lookup x = some .local := by first | exact Or.inl rfl | exact Or.inr rfl)
    (hs : (assignEach (.Name x pos :: es) X.env).map (·.2) = assign (.Name x pos) X.env :: (assignEach es X.env).map (·.2) := by rfl) : XGs X H0 Hs0 (.Name x pos :: es) (i :: is) := ⟨qgs_cons hN hi hx hf h.h hs⟩
theorem xgu {is : List Nat} {es : List Expr} {k : Nat} (h : XGs X H0 Hs0 es is) (hc : X.calm = true := by rfl) (hn : (assignEach es X.env).length = is.length := by rfl) (hst : (assignEach es X.env).findIdx? (·.1) = none := by rfl) : XG X H0 Hs0 (.Tuple es k pos) (gU is) := ⟨qg_unp hc h.h hn hst⟩
theorem xasg {tg : Expr} {g : DG} (ha : XE X H0 Hs0 a da) (hg : XG X H0 Hs0 tg g) (hs : noComp a = true := by rfl) (hw : swappedStores [tg] a X.env = pure none := by rfl) (h1 : (assignEach [tg] X.env).map (·.2) = [assign tg X.env] := by rfl) :
    XS X H0 Hs0 (.Assign [tg] a pos) (sAsg da g) := ⟨qs_asg ha.h hg.h (swapSole_no hs) hw h1⟩
end
end G
set_option Elab.async false
set_option linter.all false
set_option maxRecDepth 100000
set_option maxHeartbeats 4000000
namespace Law
open PySem PySem.Spec PyProof.Rows L2 G
def top (i : Nat) : Stmt := PySem.Challenge.pw_glide_k04_a_spot.main.body.getD i (.Pass ⟨0, 0, 0, 0⟩)
noncomputable def d_is_whole : DS := (sRet (eAnd (e1 (pIsi "int") (eVar 0)) (e1 pNot (e1 (pIsi "bool") (eVar 0)))))
noncomputable def M_is_whole : List PV → Res PV := runF 1 1 d_is_whole
noncomputable def c_divisor_1 : DT := (tV (e2 pNe (eVar 1) (eC (.int 0))))
theorem c_divisor_1_s (σ : PSt) : c_divisor_1 σ = (tV (e2 pNe (eVar 1) (eC (.int 0)))) σ := rfl
noncomputable def b_divisor_1 : DS := (sSeq (sSet 2 (e2 pMod (eVar 0) (eVar 1)))
    (sSeq (sSet 0 (eVar 1))
    (sSet 1 (eVar 2))))
theorem b_divisor_1_s (σ : PSt) : b_divisor_1 σ = (sSeq (sSet 2 (e2 pMod (eVar 0) (eVar 1)))
    (sSeq (sSet 0 (eVar 1))
    (sSet 1 (eVar 2)))) σ := rfl
noncomputable def d_divisor : DS := (sSeq (sSet 0 (eA bAbs (aCons (eVar 0) aNil)))
    (sSeq (sSet 1 (eA bAbs (aCons (eVar 1) aNil)))
    (sSeq (sWhile c_divisor_1 b_divisor_1)
    (sRet (eVar 0)))))
noncomputable def M_divisor : List PV → Res PV := runF 2 3 d_divisor
noncomputable def d_spot : DS := (sSeq (sIf (G.tOr (G.tNot (tV (eA (fun ps => noErr (M_is_whole ps)) (aCons (eVar 0) aNil)))) (G.tOr (G.tNot (tV (eA (fun ps => noErr (M_is_whole ps)) (aCons (eVar 1) aNil)))) (G.tOr (G.tNot (tV (eA (fun ps => noErr (M_is_whole ps)) (aCons (eVar 2) aNil)))) (tV (e2 pEq (eVar 2) (eC (.int 0))))))) (sRaise "NoNumber") sNext)
    (sSeq (sSet 3 (eA (fun ps => noErr (M_divisor ps)) (aCons (eA (fun ps => noErr (M_divisor ps)) (aCons (eVar 0) (aCons (eVar 1) aNil))) (aCons (eVar 2) aNil))))
    (sSeq (sIf (tV (e2 (pCmp fun i j => decide (i < j)) (eVar 2) (eC (.int 0)))) (sSet 3 (e1 pNeg (eVar 3))) sNext)
    (sRet (eA pTup (aCons (e2 pFdiv (eVar 0) (eVar 3)) (aCons (e2 pFdiv (eVar 1) (eVar 3)) (aCons (e2 pFdiv (eVar 2) (eVar 3)) aNil))))))))
noncomputable def M_spot : List PV → Res PV := runE 3 4 d_spot
noncomputable def b__law_cell_1 : DS := (sSet 2 (e2 pAdd (e2 pMul (eVar 2) (eC (.int 1009))) (e2 pMod (eVar 3) (eC (.int 1000003)))))
theorem b__law_cell_1_s (σ : PSt) : b__law_cell_1 σ = (sSet 2 (e2 pAdd (e2 pMul (eVar 2) (eC (.int 1009))) (e2 pMod (eVar 3) (eC (.int 1000003))))) σ := rfl
noncomputable def d__law_cell : DS := (sSeq (sIf (tV (e2 (pCmp fun i j => decide (i < j)) (eVar 1) (eLenV 0))) (sRet (e2 pMod (eIxV 0 (eVar 1)) (e2 pPow (eC (.int 10)) (eC (.int 60))))) sNext)
    (sSeq (sSet 2 (e2 pAdd (e2 pMul (eVar 1) (eC (.int 7907))) (eC (.int 3571))))
    (sSeq (sFor (itE (eSl (eVar 0) oNo (oE (eC (.int 3))))) (gN 3) b__law_cell_1)
    (sSeq (sSet 2 (e2 pMod (eVar 2) (eC (.int 2147483647))))
    (sRet (e2 pMod (e2 pMul (eVar 2) (eVar 2)) (eC (.int 2147483629))))))))
noncomputable def M__law_cell : List PV → Res PV := runF 2 4 d__law_cell
noncomputable def d__law_whole : DS := (sRet (eAnd (e1 (pIsi "int") (eVar 0)) (e1 pNot (e1 (pIsi "bool") (eVar 0)))))
noncomputable def M__law_whole : List PV → Res PV := runF 1 1 d__law_whole
noncomputable def c__law_common_1 : DT := (tV (e2 (pCmp fun i j => decide (j < i)) (eVar 0) (eC (.int 0))))
theorem c__law_common_1_s (σ : PSt) : c__law_common_1 σ = (tV (e2 (pCmp fun i j => decide (j < i)) (eVar 0) (eC (.int 0)))) σ := rfl
noncomputable def b__law_common_1 : DS := (sPar 0 1 (aCons (e2 pMod (eVar 1) (eVar 0)) (aCons (eVar 0) aNil)))
theorem b__law_common_1_s (σ : PSt) : b__law_common_1 σ = (sPar 0 1 (aCons (e2 pMod (eVar 1) (eVar 0)) (aCons (eVar 0) aNil))) σ := rfl
noncomputable def d__law_common : DS := (sSeq (sSet 0 (eA bAbs (aCons (eVar 0) aNil)))
    (sSeq (sSet 1 (eA bAbs (aCons (eVar 1) aNil)))
    (sSeq (sWhile c__law_common_1 b__law_common_1)
    (sRet (eVar 1)))))
noncomputable def M__law_common : List PV → Res PV := runF 2 2 d__law_common
noncomputable def d__law_number : DS := (sSeq (sIf (tV (e2 pEq (e2 pMod (eVar 0) (eC (.int 3))) (eC (.int 0)))) (sRet (e2 pSub (e2 pMod (e2 pFdiv (eVar 0) (eC (.int 3))) (eC (.int 9))) (eC (.int 4)))) sNext)
    (sRet (e2 pSub (e2 pMod (e2 pFdiv (eVar 0) (eC (.int 3))) (e2 pAdd (e2 pMul (eC (.int 2)) (e2 pPow (eC (.int 10)) (eC (.int 58)))) (eC (.int 1)))) (e2 pPow (eC (.int 10)) (eC (.int 58))))))
noncomputable def M__law_number : List PV → Res PV := runF 1 1 d__law_number
noncomputable def b__law_refused_1 : DS := (sSet 3 (eVar 4))
theorem b__law_refused_1_s (σ : PSt) : b__law_refused_1 σ = (sSet 3 (eVar 4)) σ := rfl
noncomputable def d__law_refused : DS := (sSeq (sSet 3 (eC .non))
    (sSeq (sTry M_spot (aCons (eVar 0) (aCons (eVar 1) (aCons (eVar 2) aNil))) ["NoNumber"] 4 b__law_refused_1)
    (sSeq (sSet 5 (eAnd (e1 (pIsiX [("NoNumber", true)]) (eVar 3)) (e1 (pIsiX [("NoNumber", true)]) (eVar 3))))
    (sRet (eAnd (eVar 5) (e1 pNot (e1 (pIsiX [("NoNumber", false)]) (eVar 3))))))))
noncomputable def M__law_refused : List PV → Res PV := runF 3 6 d__law_refused
noncomputable def b__law_is_spot_1 : DS := (sIf (G.tNot (tV (eA (fun ps => noErr (M__law_whole ps)) (aCons (eVar 1) aNil)))) (sRet (eC (.bl false))) sNext)
theorem b__law_is_spot_1_s (σ : PSt) : b__law_is_spot_1 σ = (sIf (G.tNot (tV (eA (fun ps => noErr (M__law_whole ps)) (aCons (eVar 1) aNil)))) (sRet (eC (.bl false))) sNext) σ := rfl
noncomputable def d__law_is_spot : DS := (sSeq (sIf (G.tOr (G.tNot (tV (e1 (pIsi "tuple") (eVar 0)))) (tV (e2 pNe (eLenV 0) (eC (.int 3))))) (sRet (eC (.bl false))) sNext)
    (sSeq (sFor (itE (eVar 0)) (gN 1) b__law_is_spot_1)
    (sRet (eAnd (e2 (pCmp fun i j => decide (j < i)) (eIxV 0 (eC (.int 2))) (eC (.int 0))) (e2 pEq (eA (fun ps => noErr (M__law_common ps)) (aCons (eA (fun ps => noErr (M__law_common ps)) (aCons (eIxV 0 (eC (.int 0))) (aCons (eIxV 0 (eC (.int 1))) aNil))) (aCons (eIxV 0 (eC (.int 2))) aNil))) (eC (.int 1)))))))
noncomputable def M__law_is_spot : List PV → Res PV := runF 1 2 d__law_is_spot
noncomputable def e_law_1 : DE := (eA (fun ps => noErr (M__law_number ps)) (aCons (eA (fun ps => noErr (M__law_cell ps)) (aCons (eVar 1) (aCons (e2 pAdd (eVar 2) (eVar 0)) aNil))) aNil))
theorem e_law_1_s (σ : PSt) : e_law_1 σ = (eA (fun ps => noErr (M__law_number ps)) (aCons (eA (fun ps => noErr (M__law_cell ps)) (aCons (eVar 1) (aCons (e2 pAdd (eVar 2) (eVar 0)) aNil))) aNil)) σ := rfl
noncomputable def e_law_2 : DE := (e2 pMul (e2 pMod (eVar 0) (e2 pPow (eC (.int 10)) (eC (.int 40)))) (eVar 1))
theorem e_law_2_s (σ : PSt) : e_law_2 σ = (e2 pMul (e2 pMod (eVar 0) (e2 pPow (eC (.int 10)) (eC (.int 40)))) (eVar 1)) σ := rfl
noncomputable def b_law_3 : DS := (sSeq (sCompO 2 (itR asRange1 (aCons (eC (.int 3)) aNil)) (gN 0) e_law_1 1 [0, 1])
    (sSeq (sSet 3 (eA (fun ps => noErr (M__law_cell ps)) (aCons (eVar 0) (aCons (e2 pAdd (eVar 1) (eC (.int 3))) aNil))))
    (sSeq (sIf (tV (e2 pEq (e2 pMod (eVar 3) (eC (.int 3))) (eC (.int 1)))) (sSeq (sSet 4 (e2 pAdd (e2 pMod (e2 pFdiv (eVar 3) (eC (.int 21))) (e2 pPow (eC (.int 10)) (eC (.int 18)))) (eC (.int 1))))
    (sShare 2 (sCompO 2 (itE (eVar 2)) (gN 0) e_law_2 1 [4]))) sNext)
    (sSeq (sIf (tV (e2 pEq (e2 pMod (e2 pFdiv (eVar 3) (eC (.int 3))) (eC (.int 7))) (eC (.int 1)))) (sPut 2 (eC (.int 2)) (eC (.int 0))) sNext)
    (sSeq (sShare 2 (sAsg (eVar 2) (gU [5, 6, 7])))
    (sIf (tV (e2 pEq (eVar 7) (eC (.int 0)))) (sIf (G.tNot (tV (eA (fun ps => noErr (M__law_refused ps)) (aCons (eVar 5) (aCons (eVar 6) (aCons (eVar 7) aNil)))))) (sRet (eC (.bl false))) sNext) (sSeq (sSet 8 (eA (fun ps => noErr (M_spot ps)) (aCons (eVar 5) (aCons (eVar 6) (aCons (eVar 7) aNil)))))
    (sIf (G.tOr (G.tNot (tV (eA (fun ps => noErr (M__law_is_spot ps)) (aCons (eVar 8) aNil)))) (G.tOr (tV (e2 pNe (e2 pMul (eIxV 8 (eC (.int 0))) (eVar 7)) (e2 pMul (eVar 5) (eIxV 8 (eC (.int 2)))))) (tV (e2 pNe (e2 pMul (eIxV 8 (eC (.int 1))) (eVar 7)) (e2 pMul (eVar 6) (eIxV 8 (eC (.int 2)))))))) (sRet (eC (.bl false))) sNext))))))))
theorem b_law_3_s (σ : PSt) : b_law_3 σ = (sSeq (sCompO 2 (itR asRange1 (aCons (eC (.int 3)) aNil)) (gN 0) e_law_1 1 [0, 1])
    (sSeq (sSet 3 (eA (fun ps => noErr (M__law_cell ps)) (aCons (eVar 0) (aCons (e2 pAdd (eVar 1) (eC (.int 3))) aNil))))
    (sSeq (sIf (tV (e2 pEq (e2 pMod (eVar 3) (eC (.int 3))) (eC (.int 1)))) (sSeq (sSet 4 (e2 pAdd (e2 pMod (e2 pFdiv (eVar 3) (eC (.int 21))) (e2 pPow (eC (.int 10)) (eC (.int 18)))) (eC (.int 1))))
    (sShare 2 (sCompO 2 (itE (eVar 2)) (gN 0) e_law_2 1 [4]))) sNext)
    (sSeq (sIf (tV (e2 pEq (e2 pMod (e2 pFdiv (eVar 3) (eC (.int 3))) (eC (.int 7))) (eC (.int 1)))) (sPut 2 (eC (.int 2)) (eC (.int 0))) sNext)
    (sSeq (sShare 2 (sAsg (eVar 2) (gU [5, 6, 7])))
    (sIf (tV (e2 pEq (eVar 7) (eC (.int 0)))) (sIf (G.tNot (tV (eA (fun ps => noErr (M__law_refused ps)) (aCons (eVar 5) (aCons (eVar 6) (aCons (eVar 7) aNil)))))) (sRet (eC (.bl false))) sNext) (sSeq (sSet 8 (eA (fun ps => noErr (M_spot ps)) (aCons (eVar 5) (aCons (eVar 6) (aCons (eVar 7) aNil)))))
    (sIf (G.tOr (G.tNot (tV (eA (fun ps => noErr (M__law_is_spot ps)) (aCons (eVar 8) aNil)))) (G.tOr (tV (e2 pNe (e2 pMul (eIxV 8 (eC (.int 0))) (eVar 7)) (e2 pMul (eVar 5) (eIxV 8 (eC (.int 2)))))) (tV (e2 pNe (e2 pMul (eIxV 8 (eC (.int 1))) (eVar 7)) (e2 pMul (eVar 6) (eIxV 8 (eC (.int 2)))))))) (sRet (eC (.bl false))) sNext)))))))) σ := rfl
noncomputable def d_law : DS := (sSeq (sFor (itR asRange3 (aCons (eC (.int 0)) (aCons (eA bMax (aCons (eC (.int 1)) (aCons (eLenV 0) aNil))) (aCons (eC (.int 4)) aNil)))) (gN 1) b_law_3)
    (sRet (eC (.bl true))))
noncomputable def M_law : List PV → Res PV := runF 1 9 d_law

section
variable {P : Program} {w : World} {K : PySem.W.Frag} {mg : Str → Option Value} {base h : Heap}
theorem sc_is_whole : FnScope ["thing"] ["thing"] (defScope (top 11)) := ⟨rfl, rfl, rfl, by decide +kernel, rfl, by decide +kernel, by decide +kernel⟩
theorem in_is_whole (D : DefAt K "is_whole" (top 11)) (KI : K.In h) (GN : h.Ns mainGlobals mg) (B : Bi mg)  : FunIn P w K mg base "is_whole" 1 M_is_whole := by
  have nd := sc_is_whole.nd
  refine def_in D KI GN sc_is_whole (fun _ _ _ _ _ _ us hl => match us, hl with | [_], _ => rfl) (fun f cdv A outer s H Hs E hr => ?_)
  have hu := room20 hr
  exact (xb1 (xret (xand (xcI (xv 0) kn_int bt_int B.isinstance B.int) (xone (xnot (xcI (xv 0) kn_bool bt_bool B.isinstance B.bool))))))
theorem sc_divisor : FnScope ["one", "other", "rest"] ["one", "other"] (defScope (top 12)) := ⟨rfl, rfl, rfl, by decide +kernel, rfl, by decide +kernel, by decide +kernel⟩
theorem in_divisor (D : DefAt K "divisor" (top 12)) (KI : K.In h) (GN : h.Ns mainGlobals mg) (B : Bi mg)  : FunIn P w K mg base "divisor" 1 M_divisor := by
  have nd := sc_divisor.nd
  refine def_in D KI GN sc_divisor (fun _ _ _ _ _ _ us hl => match us, hl with | [_, _], _ => rfl) (fun f cdv A outer s H Hs E hr => ?_)
  have hu := room20 hr
  exact (xb (xset 0 (xcB cp_abs B.abs bw_abs (xa (xv 0) xa0)))
    (xb (xset 1 (xcB cp_abs B.abs bw_abs (xa (xv 1) xa0)))
    (xb (xwhile PassesOwn.never (xtc (opp_ne hu) (xv 1) xint) (xb (xset 2 (xop opp_mod (xv 0) (xv 1)))
    (xb (xset 0 (xv 1))
    (xb1 (xset 1 (xv 2))))))
    (xb1 (xret (xv 0))))))
theorem sc_spot : FnScope ["x", "y", "w", "common"] ["x", "y", "w"] (defScope (top 14)) := ⟨rfl, rfl, rfl, by decide +kernel, rfl, by decide +kernel, by decide +kernel⟩
theorem in_spot (D : DefAt K "spot" (top 14)) (KI : K.In h) (GN : h.Ns mainGlobals mg) (B : Bi mg) (F_divisor : FunIn P w K mg base "divisor" 1 M_divisor) (F_is_whole : FunIn P w K mg base "is_whole" 1 M_is_whole) (X_NoNumber : ExcAt K "NoNumber") (KG : ∀ (y : Str) (C : Addr), ClsIs K y C → mg y = some (.ref C)) : FunIn P w K mg base "spot" 2 M_spot := by
  have nd := sc_spot.nd
  refine def_inE D KI GN sc_spot (fun _ _ _ _ _ _ us hl => match us, hl with | [_, _, _], _ => rfl) (fun f cdv A outer s H Hs E hr => ?_)
  have hu := room20 hr
  exact (xb (xsif (xw (xor2 (xtn (xtv (xcF (F_is_whole.is hr) (xa (xv 0) xa0)))) (xor2 (xtn (xtv (xcF (F_is_whole.is hr) (xa (xv 1) xa0)))) (xor2 (xtn (xtv (xcF (F_is_whole.is hr) (xa (xv 2) xa0)))) (xor1 (xtc (opp_eq hu) (xv 2) xint)))))) (xb1 (xraise X_NoNumber)) xb0)
    (xb (xset 3 (xcF (F_divisor.is hr) (xa (xcF (F_divisor.is hr) (xa (xv 0) (xa (xv 1) xa0))) (xa (xv 2) xa0))))
    (xb (xsif (xtc opp_lt (xv 2) xint) (xb1 (xset 3 (xneg (xv 3)))) xb0)
    (xb1 (xret (xtup (xa (xop opp_fdiv (xv 0) (xv 3)) (xa (xop opp_fdiv (xv 1) (xv 3)) (xa (xop opp_fdiv (xv 2) (xv 3)) xa0)))))))))
theorem sc__law_cell : FnScope ["script", "k", "number", "cell"] ["script", "k"] (defScope (top 16)) := ⟨rfl, rfl, rfl, by decide +kernel, rfl, by decide +kernel, by decide +kernel⟩
theorem in__law_cell (D : DefAt K "_law_cell" (top 16)) (KI : K.In h) (GN : h.Ns mainGlobals mg) (B : Bi mg)  : FunIn P w K mg base "_law_cell" 1 M__law_cell := by
  have nd := sc__law_cell.nd
  refine def_in D KI GN sc__law_cell (fun _ _ _ _ _ _ us hl => match us, hl with | [_, _], _ => rfl) (fun f cdv A outer s H Hs E hr => ?_)
  have hu := room20 hr
  exact (xb (xsif (xtc opp_lt (xv 1) (xlV 0 B.len)) (xb1 (xret (xop opp_mod (xiV 0 (xv 1)) (xop opp_pow xint xint)))) xb0)
    (xb (xset 2 (xop opp_add (xop opp_mul (xv 1) xint) xint))
    (xb (xfor PassesOwn.never (xseq (xsl (xv 0) xo0 (xo xint))) (xgn 3) (xb1 (xset 2 (xop opp_add (xop opp_mul (xv 2) xint) (xop opp_mod (xv 3) xint)))))
    (xb (xset 2 (xop opp_mod (xv 2) xint))
    (xb1 (xret (xop opp_mod (xop opp_mul (xv 2) (xv 2)) xint)))))))
theorem sc__law_whole : FnScope ["found"] ["found"] (defScope (top 17)) := ⟨rfl, rfl, rfl, by decide +kernel, rfl, by decide +kernel, by decide +kernel⟩
theorem in__law_whole (D : DefAt K "_law_whole" (top 17)) (KI : K.In h) (GN : h.Ns mainGlobals mg) (B : Bi mg)  : FunIn P w K mg base "_law_whole" 1 M__law_whole := by
  have nd := sc__law_whole.nd
  refine def_in D KI GN sc__law_whole (fun _ _ _ _ _ _ us hl => match us, hl with | [_], _ => rfl) (fun f cdv A outer s H Hs E hr => ?_)
  have hu := room20 hr
  exact (xb1 (xret (xand (xcI (xv 0) kn_int bt_int B.isinstance B.int) (xone (xnot (xcI (xv 0) kn_bool bt_bool B.isinstance B.bool))))))
theorem sc__law_common : FnScope ["one", "other"] ["one", "other"] (defScope (top 18)) := ⟨rfl, rfl, rfl, by decide +kernel, rfl, by decide +kernel, by decide +kernel⟩
theorem in__law_common (D : DefAt K "_law_common" (top 18)) (KI : K.In h) (GN : h.Ns mainGlobals mg) (B : Bi mg)  : FunIn P w K mg base "_law_common" 1 M__law_common := by
  have nd := sc__law_common.nd
  refine def_in D KI GN sc__law_common (fun _ _ _ _ _ _ us hl => match us, hl with | [_, _], _ => rfl) (fun f cdv A outer s H Hs E hr => ?_)
  have hu := room20 hr
  exact (xb (xset 0 (xcB cp_abs B.abs bw_abs (xa (xv 0) xa0)))
    (xb (xset 1 (xcB cp_abs B.abs bw_abs (xa (xv 1) xa0)))
    (xb (xwhile PassesOwn.never (xtc opp_gt (xv 0) xint) (xb1 (xpar 0 1 (xa (xop opp_mod (xv 1) (xv 0)) (xa (xv 0) xa0)))))
    (xb1 (xret (xv 1))))))
theorem sc__law_number : FnScope ["cell"] ["cell"] (defScope (top 19)) := ⟨rfl, rfl, rfl, by decide +kernel, rfl, by decide +kernel, by decide +kernel⟩
theorem in__law_number (D : DefAt K "_law_number" (top 19)) (KI : K.In h) (GN : h.Ns mainGlobals mg) (B : Bi mg)  : FunIn P w K mg base "_law_number" 1 M__law_number := by
  have nd := sc__law_number.nd
  refine def_in D KI GN sc__law_number (fun _ _ _ _ _ _ us hl => match us, hl with | [_], _ => rfl) (fun f cdv A outer s H Hs E hr => ?_)
  have hu := room20 hr
  exact (xb (xsif (xtc (opp_eq hu) (xop opp_mod (xv 0) xint) xint) (xb1 (xret (xop opp_sub (xop opp_mod (xop opp_fdiv (xv 0) xint) xint) xint))) xb0)
    (xb1 (xret (xop opp_sub (xop opp_mod (xop opp_fdiv (xv 0) xint) (xop opp_add (xop opp_mul xint (xop opp_pow xint xint)) xint)) (xop opp_pow xint xint)))))
theorem sc__law_refused : FnScope ["x", "y", "w", "error", "e", "right"] ["x", "y", "w"] (defScope (top 20)) := ⟨rfl, rfl, rfl, by decide +kernel, rfl, by decide +kernel, by decide +kernel⟩
theorem in__law_refused (D : DefAt K "_law_refused" (top 20)) (KI : K.In h) (GN : h.Ns mainGlobals mg) (B : Bi mg) (F_spot : FunIn P w K mg base "spot" 2 M_spot) (C__law_refused_1 : Caught K "GlideError" ["NoNumber"]) (T__law_refused_2 : IsTab K [.type "ValueError"] [("NoNumber", true)]) (Z_ValueError : mg "ValueError" = none) (T__law_refused_3 : IsOwn K "NoNumber" [("NoNumber", true)]) (T__law_refused_4 : IsMany K ["Flat", "Crowded", "NoName", "Twice", "Past", "NoText", "NoRow"] [("NoNumber", false)]) (KG : ∀ (y : Str) (C : Addr), ClsIs K y C → mg y = some (.ref C)) : FunIn P w K mg base "_law_refused" 3 M__law_refused := by
  have nd := sc__law_refused.nd
  refine def_in D KI GN sc__law_refused (fun _ _ _ _ _ _ us hl => match us, hl with | [_, _, _], _ => rfl) (fun f cdv A outer s H Hs E hr => ?_)
  have hu := room20 hr
  exact (xb (xset 3 xnon)
    (xb (xtry 4 (F_spot.is hr) (xa (xv 0) (xa (xv 1) (xa (xv 2) xa0))) C__law_refused_1 (fun _ => (xb1 (xset 3 (xv 4)))))
    (xb (xset 5 (xand (xisb (xv 3) PyProof.Rows.Boot.«ValueError» T__law_refused_2 B.isinstance Z_ValueError) (xone (xiso (xv 3) T__law_refused_3 KG B.isinstance))))
    (xb1 (xret (xand (xv 5) (xone (xnot (xist (xv 3) T__law_refused_4 KG B.isinstance)))))))))
theorem sc__law_is_spot : FnScope ["found", "number"] ["found"] (defScope (top 21)) := ⟨rfl, rfl, rfl, by decide +kernel, rfl, by decide +kernel, by decide +kernel⟩
theorem in__law_is_spot (D : DefAt K "_law_is_spot" (top 21)) (KI : K.In h) (GN : h.Ns mainGlobals mg) (B : Bi mg) (F__law_common : FunIn P w K mg base "_law_common" 1 M__law_common) (F__law_whole : FunIn P w K mg base "_law_whole" 1 M__law_whole) : FunIn P w K mg base "_law_is_spot" 2 M__law_is_spot := by
  have nd := sc__law_is_spot.nd
  refine def_in D KI GN sc__law_is_spot (fun _ _ _ _ _ _ us hl => match us, hl with | [_], _ => rfl) (fun f cdv A outer s H Hs E hr => ?_)
  have hu := room20 hr
  exact (xb (xsif (xw (xor2 (xtn (xtv (xcI (xv 0) kn_tuple bt_tuple B.isinstance B.tuple))) (xor1 (xtc (opp_ne hu) (xlV 0 B.len) xint)))) (xb1 (xret xbl)) xb0)
    (xb (xfor PassesOwn.never (xseq (xv 0)) (xgn 1) (xb1 (xsif (xtn (xtv (xcF (F__law_whole.is hr) (xa (xv 1) xa0)))) (xb1 (xret xbl)) xb0)))
    (xb1 (xret (xand (xcmp opp_gt (xiV 0 xint) xint) (xone (xcmp (opp_eq hu) (xcF (F__law_common.is hr) (xa (xcF (F__law_common.is hr) (xa (xiV 0 xint) (xa (xiV 0 xint) xa0))) (xa (xiV 0 xint) xa0))) xint)))))))
theorem sc_law : FnScope ["script", "at", "three", "fourth", "many", "x", "y", "w", "found"] ["script"] (defScope (top 22)) := ⟨rfl, rfl, rfl, by decide +kernel, rfl, by decide +kernel, by decide +kernel⟩
theorem in_law {f : Addr} {fd : FuncData} (F : Fun K "law" "law" (top 22) f fd) (B : Bi mg) (F__law_cell : FunIn P w K mg base "_law_cell" 1 M__law_cell) (F__law_is_spot : FunIn P w K mg base "_law_is_spot" 2 M__law_is_spot) (F__law_number : FunIn P w K mg base "_law_number" 1 M__law_number) (F__law_refused : FunIn P w K mg base "_law_refused" 3 M__law_refused) (F_spot : FunIn P w K mg base "spot" 2 M_spot) : FnOk P w K mg base (CXG P w) 4 f fd ["script"] (Fsp K 1 M_law) := by
  have nd := sc_law.nd
  refine law_in F sc_law (fun cdv A outer s H Hs E hr => ?_)
  have hu := room20 hr
  exact (xb (xfor PassesOwn.never (xr3 B.range (xa xint (xa (xcB (cp_max rfl) B.max bw_max (xa xint (xa (xlV 0 B.len) xa0))) (xa xint xa0)))) (xgn 1) (xb (xscompO 2 (xblk ["k"] (cap 0 "script" (cap 1 "at" cap0)) gk_n (fun _ _ _ _ _ _ _ nd2 => (xgn 0)) (fun _ _ _ _ _ _ _ nd2 => (xcF (F__law_number.is hr) (xa (xcF (F__law_cell.is hr) (xa (xv 1) (xa (xop opp_add (xv 2) (xv 0)) xa0))) xa0)))) (xr1 B.range (xa xint xa0)))
    (xb (xset 3 (xcF (F__law_cell.is hr) (xa (xv 0) (xa (xop opp_add (xv 1) xint) xa0))))
    (xb (xsif (xtc (opp_eq hu) (xop opp_mod (xv 3) xint) xint) (xb (xset 4 (xop opp_add (xop opp_mod (xop opp_fdiv (xv 3) xint) (xop opp_pow xint xint)) xint))
    (xb1 (xshare 2 (xscompO 2 (xblk ["number"] (cap 4 "many" cap0) gk_n (fun _ _ _ _ _ _ _ nd2 => (xgn 0)) (fun _ _ _ _ _ _ _ nd2 => (xop opp_mul (xop opp_mod (xv 0) (xop opp_pow xint xint)) (xv 1)))) (xseq (xv 2)))))) xb0)
    (xb (xsif (xtc (opp_eq hu) (xop opp_mod (xop opp_fdiv (xv 3) xint) xint) xint) (xb1 (xput 2 xint xint)) xb0)
    (xb (xshare 2 (xasg (xv 2) (xgu (xgs 5 (xgs 6 (xgs 7 xgs0))))))
    (xb1 (xsif (xtc (opp_eq hu) (xv 7) xint) (xb1 (xsif (xtn (xtv (xcF (F__law_refused.is hr) (xa (xv 5) (xa (xv 6) (xa (xv 7) xa0)))))) (xb1 (xret xbl)) xb0)) (xb (xset 8 (xcF (F_spot.is hr) (xa (xv 5) (xa (xv 6) (xa (xv 7) xa0)))))
    (xb1 (xsif (xw (xor2 (xtn (xtv (xcF (F__law_is_spot.is hr) (xa (xv 8) xa0)))) (xor2 (xtc (opp_ne hu) (xop opp_mul (xiV 8 xint) (xv 7)) (xop opp_mul (xv 5) (xiV 8 xint))) (xor1 (xtc (opp_ne hu) (xop opp_mul (xiV 8 xint) (xv 7)) (xop opp_mul (xv 6) (xiV 8 xint))))))) (xb1 (xret xbl)) xb0)))))))))))
    (xb1 (xret xbl)))
end
end Law
set_option Elab.async false
set_option linter.all false
set_option maxRecDepth 100000
set_option maxHeartbeats 4000000
namespace Law
open PySem PySem.Spec PyProof.Rows L2 G
def gI (x y : Int) : Int := ((Nat.gcd x.natAbs y.natAbs : Nat) : Int)
theorem gI_step {x y : Int} (hx : 0 ≤ x) (hy : 0 < y) : gI y (x % y) = gI x y := by
  unfold gI
  congr 1
  have e : (x % y).natAbs = x.natAbs % y.natAbs := by
    obtain ⟨a, rfl⟩ := Int.eq_ofNat_of_zero_le hx
    obtain ⟨b, rfl⟩ := Int.eq_ofNat_of_zero_le (Int.le_of_lt hy)
    rw [← Int.natCast_emod]; rfl
  rw [e, Nat.gcd_comm y.natAbs, Nat.gcd_comm x.natAbs]
  exact (Nat.gcd_rec y.natAbs x.natAbs).symm
theorem gI_zero {x : Int} (hx : 0 ≤ x) : gI x 0 = x := by
  unfold gI; simp; omega
def aI (x : Int) : Int := if x < 0 then -x else x
theorem aI_nn (x : Int) : 0 ≤ aI x := by unfold aI; split <;> omega
theorem aI_abs (x : Int) : (aI x).natAbs = x.natAbs := by unfold aI; split <;> omega
theorem gI_abs (x y : Int) : gI (aI x) (aI y) = gI x y := by unfold gI; rw [aI_abs, aI_abs]
theorem gI_nn (x y : Int) : 0 ≤ gI x y := Int.natCast_nonneg _
theorem gI_comm (x y : Int) : gI x y = gI y x := by unfold gI; rw [Nat.gcd_comm]
theorem gI_dvd (a b : Int) : gI a b ∣ a ∧ gI a b ∣ b := by
  unfold gI
  exact ⟨Int.ofNat_dvd_left.mpr (Nat.gcd_dvd_left _ _), Int.ofNat_dvd_left.mpr (Nat.gcd_dvd_right _ _)⟩
theorem gI_eq0 {a b : Int} (h : gI a b = 0) : a = 0 ∧ b = 0 := by
  unfold gI at h
  have h' : Nat.gcd a.natAbs b.natAbs = 0 := by omega
  have := Nat.gcd_eq_zero_iff.mp h'
  omega
theorem fmod_dvd {a b : Int} (h : b ∣ a) : a.fmod b = 0 := by
  obtain ⟨c, rfl⟩ := h
  exact Int.mul_fmod_right b c
theorem div_loop : ∀ (n : Nat) (x y : Int) (z : Option SV), y.natAbs = n → 0 ≤ x → 0 ≤ y → ∃ z', sWhile c_divisor_1 b_divisor_1
    [some (.sh (.int x)), some (.sh (.int y)), z] = .ok (.next [some (.sh (.int (gI x y))), some (.sh (.int 0)), z']) := by
  intro n
  induction n using Nat.strongRecOn with
  | ind n ih =>
    intro x y z hn hx hy
    rw [sWhile_eq]
    by_cases h : y = 0
    · subst h
      exact ⟨z, by simp [c_divisor_1_s, gI_zero hx]⟩
    · have h0 : 0 < y := by omega
      have e : x.fmod y = x % y := Int.fmod_eq_emod_of_nonneg x hy
      have h1 := Int.emod_nonneg x h
      have h2 := Int.emod_lt_of_pos x h0
      obtain ⟨z', hz⟩ := ih (x % y).natAbs (by omega) y (x % y) (some (.sh (.int (x % y)))) rfl hy h1
      refine ⟨z', ?_⟩
      simp [c_divisor_1_s, b_divisor_1_s, h, pMod_s h, e]
      rw [hz, gI_step hx h0]
theorem m_divisor (a b : Int) : M_divisor [.int a, .int b] = .ok (.int (gI a b)) := by
  unfold M_divisor
  rw [run2]
  obtain ⟨z', h⟩ := div_loop _ (aI a) (aI b) none rfl (aI_nn a) (aI_nn b)
  simp [d_divisor]
  change fin (Res.bind (sWhile _ _ [some (.sh (.int (aI a))), some (.sh (.int (aI b))), none]) _) = _
  rw [h]
  simp [gI_abs]
theorem com_loop : ∀ (n : Nat) (x y : Int), x.natAbs = n → 0 ≤ x → 0 ≤ y → sWhile c__law_common_1 b__law_common_1
    [some (.sh (.int x)), some (.sh (.int y))] = .ok (.next [some (.sh (.int 0)), some (.sh (.int (gI x y)))]) := by
  intro n
  induction n using Nat.strongRecOn with
  | ind n ih =>
    intro x y hn hx hy
    rw [sWhile_eq]
    by_cases h : x = 0
    · subst h
      simp [c__law_common_1_s]
      rw [gI_comm, gI_zero hy]
    · have h0 : 0 < x := by omega
      have e : y.fmod x = y % x := Int.fmod_eq_emod_of_nonneg y hx
      have h1 := Int.emod_nonneg y h
      have h2 := Int.emod_lt_of_pos y h0
      have hz := ih (y % x).natAbs (by omega) (y % x) x rfl h1 hx
      simp [c__law_common_1_s, b__law_common_1_s, h0, pMod_s h, e, sPar]
      rw [hz, gI_comm, gI_step hy h0, gI_comm]
theorem m_common (a b : Int) : M__law_common [.int a, .int b] = .ok (.int (gI a b)) := by
  unfold M__law_common
  rw [run2]
  have h := com_loop _ (aI a) (aI b) rfl (aI_nn a) (aI_nn b)
  simp [d__law_common]
  change fin (Res.bind (sWhile _ _ [some (.sh (.int (aI a))), some (.sh (.int (aI b)))]) _) = _
  rw [h]
  simp [gI_abs]
theorem m_whole (i : Int) : M__law_whole [.int i] = .ok (.bl true) := by
  unfold M__law_whole; rw [run1]; simp [d__law_whole, isSub]
theorem m_is_int (i : Int) : M_is_whole [.int i] = .ok (.bl true) := by
  unfold M_is_whole; rw [run1]; simp [d_is_whole, isSub]
theorem m_is_not (p : PV) (h : ∀ i, p ≠ .int i) (hx : notExc p = true) : M_is_whole [p] = .ok (.bl false) := by
  unfold M_is_whole; rw [run1]
  cases p <;> first | (exact absurd rfl (h _)) | (cases hx; done) | simp [d_is_whole, isSub]
theorem m_cell (ns : List Int) (k : Int) (hk : 0 ≤ k) : ∃ n, M__law_cell [.scr ns, .int k] = .ok (.int n) := by
  unfold M__law_cell; rw [run2]
  by_cases h : k < ns.length
  · obtain ⟨x, hx, _⟩ := atI_of hk h
    simp [d__law_cell, h, atR_of hx]
  · obtain ⟨σ', h1, n, z, rfl⟩ := for_all (gg := gN 3) (c := b__law_cell_1) (fun σ => ∃ n z, σ = [some (.sh (.scr ns)), some (.sh (.int k)), some (.sh (.int n)), z]) (fun p => ∃ i, p = .int i)
      (by
        rintro p σ ⟨i, rfl⟩ ⟨n, z, rfl⟩
        refine ⟨[some (.sh (.scr ns)), some (.sh (.int k)), some (.sh (.int n)), some (.sh (.int i))], [some (.sh (.scr ns)), some (.sh (.int k)), some (.sh (.int (n * 1009 + i % 1000003))), some (.sh (.int i))], rfl, ?_, _, _, rfl⟩
        simp [b__law_cell_1_s])
      (cutP (ns.map PV.int) none (some 3)) (by
        intro p hp
        have hp := List.mem_of_mem_drop (List.mem_of_mem_take hp)
        obtain ⟨i, _, rfl⟩ := List.mem_map.mp hp
        exact ⟨i, rfl⟩) [some (.sh (.scr ns)), some (.sh (.int k)), some (.sh (.int (k * 7907 + 3571))), none] ⟨_, _, rfl⟩
    simp [d__law_cell, h, pSl]
    rw [h1]
    simp [pMul_s (mulR (i := n % 2147483647) (j := n % 2147483647) (by omega) (by omega))]
open Builtin.Int (intBits)
theorem bits_lt {x : Int} {n : Nat} (h : x.natAbs < 2 ^ n) : intBits x ≤ n := by
  unfold intBits
  split
  · exact Nat.zero_le _
  · rename_i e
    have h0 : x.natAbs ≠ 0 := by
      intro z
      have : x = 0 := by omega
      exact e (by simp [this])
    have := (Nat.log2_lt h0).mpr h
    omega
theorem bits_le {x y : Int} {n : Nat} (h : x.natAbs ≤ y.natAbs) (hy : intBits y ≤ n) : intBits x ≤ n := PyProof.Rows.bits_of_natAbs_le h hy
theorem mul_ok {x y : Int} {m n : Nat} (hx : intBits x ≤ m) (hy : intBits y ≤ n) (h : m + n ≤ 134217728) : pMul (.int x) (.int y) = .ok (.int (x * y)) := pMul_s (PyProof.Rows.mulOk_of_bits hx hy h)
/-- what is left of a number when the greatest number that goes into both is taken out -/
def sg (b : Int) (g : Int) : Int := if b < 0 then -g else g
structure Low (t b q r : Int) : Prop where
  pos : 0 < r
  one : gI q r = 1
  eq : q * b = t * r
  qb : ∀ n, intBits t ≤ n → intBits q ≤ n
  rb : ∀ n, intBits b ≤ n → intBits r ≤ n
theorem low_of {t b : Int} (hb : b ≠ 0) : sg b (gI t b) ≠ 0 ∧ (∀ n, intBits b ≤ n → intBits (sg b (gI t b)) ≤ n) ∧ Low t b (t.fdiv (sg b (gI t b))) (b.fdiv (sg b (gI t b))) := by
  obtain ⟨⟨u, hu⟩, ⟨v, hv⟩⟩ := gI_dvd t b
  have g0 : gI t b ≠ 0 := fun z => by rw [z] at hv; simp at hv; exact hb hv
  have gp : 0 < gI t b := by have := gI_nn t b; omega
  have hne : sg b (gI t b) ≠ 0 := by unfold sg; split <;> omega
  have eq1 : t.fdiv (sg b (gI t b)) = (if b < 0 then -u else u) := by
    have : t = sg b (gI t b) * (if b < 0 then -u else u) := by
      unfold sg
      split <;> grind
    conv => lhs; lhs; rw [this]
    exact Int.mul_fdiv_cancel_left _ hne
  have eq2 : b.fdiv (sg b (gI t b)) = (if b < 0 then -v else v) := by
    have : b = sg b (gI t b) * (if b < 0 then -v else v) := by
      unfold sg
      split <;> grind
    conv => lhs; lhs; rw [this]
    exact Int.mul_fdiv_cancel_left _ hne
  have hvb : v.natAbs ≤ b.natAbs ∧ (gI t b).natAbs ≤ b.natAbs := by
    have e : b.natAbs = (gI t b).natAbs * v.natAbs := by rw [← Int.natAbs_mul, ← hv]
    have v0 : v ≠ 0 := fun z => by rw [z] at hv; simp at hv; exact hb hv
    have h1 : 1 ≤ (gI t b).natAbs := by omega
    have h2 : 1 ≤ v.natAbs := by omega
    exact ⟨by rw [e]; exact Nat.le_mul_of_pos_left _ h1, by rw [e]; exact Nat.le_mul_of_pos_right _ h2⟩
  have hut : u.natAbs ≤ t.natAbs := by
    have e : t.natAbs = (gI t b).natAbs * u.natAbs := by rw [← Int.natAbs_mul, ← hu]
    have h1 : 1 ≤ (gI t b).natAbs := by omega
    rw [e]; exact Nat.le_mul_of_pos_left _ h1
  have huv : Nat.gcd u.natAbs v.natAbs = 1 := by
    have e1 : t.natAbs = (gI t b).natAbs * u.natAbs := by rw [← Int.natAbs_mul, ← hu]
    have e2 : b.natAbs = (gI t b).natAbs * v.natAbs := by rw [← Int.natAbs_mul, ← hv]
    have e3 : Nat.gcd t.natAbs b.natAbs = (gI t b).natAbs := by unfold gI; simp
    rw [e1, e2, Nat.gcd_mul_left] at e3
    have h1 : 0 < (gI t b).natAbs := by omega
    have e4 : (gI t b).natAbs * Nat.gcd u.natAbs v.natAbs = (gI t b).natAbs * 1 := by rw [Nat.mul_one]; exact e3
    exact Nat.eq_of_mul_eq_mul_left h1 e4
  refine ⟨hne, fun n hn => bits_le ?_ hn, ?_⟩
  · unfold sg; split <;> omega
  · rw [eq1, eq2]
    refine ⟨?_, ?_, ?_, fun n hn => bits_le ?_ hn, fun n hn => bits_le ?_ hn⟩
    · have : v = 0 ∨ 0 < v ∨ v < 0 := by omega
      rcases this with z | z | z
      · rw [z] at hv; simp at hv; exact absurd hv hb
      · have : 0 < gI t b * v := Int.mul_pos gp z
        rw [if_neg (by omega)]; exact z
      · have : gI t b * v < 0 := Int.mul_neg_of_pos_of_neg gp z
        rw [if_pos (by omega)]; omega
    · unfold gI
      split <;> simp [huv]
    · split <;> grind
    · split <;> omega
    · split <;> omega
/-- three numbers without what goes into all of them -/
structure Low3 (x y w p q r : Int) : Prop where
  pos : 0 < r
  one : gI (gI p q) r = 1
  ex : p * w = x * r
  ey : q * w = y * r
  pb : ∀ n, intBits x ≤ n → intBits p ≤ n
  qb : ∀ n, intBits y ≤ n → intBits q ≤ n
  rb : ∀ n, intBits w ≤ n → intBits r ≤ n
theorem gI3_nat (x y w : Int) : gI (gI x y) w = ((Nat.gcd (Nat.gcd x.natAbs y.natAbs) w.natAbs : Nat) : Int) := by unfold gI; simp
theorem low3_of {x y w : Int} (hw : w ≠ 0) : sg w (gI (gI x y) w) ≠ 0 ∧ (∀ n, intBits w ≤ n → intBits (sg w (gI (gI x y) w)) ≤ n) ∧
    Low3 x y w (x.fdiv (sg w (gI (gI x y) w))) (y.fdiv (sg w (gI (gI x y) w))) (w.fdiv (sg w (gI (gI x y) w))) := by
  have d1 := gI_dvd (gI x y) w
  have d2 := gI_dvd x y
  obtain ⟨a, ha⟩ := Int.dvd_trans d1.1 d2.1
  obtain ⟨b, hb⟩ := Int.dvd_trans d1.1 d2.2
  obtain ⟨c, hc⟩ := d1.2
  have hN : Nat.gcd (Nat.gcd x.natAbs y.natAbs) w.natAbs = (gI (gI x y) w).natAbs := by rw [gI3_nat]; rfl
  have gn := gI_nn (gI x y) w
  generalize gI (gI x y) w = g at ha hb hc hN gn ⊢
  have g0 : g ≠ 0 := fun z => by rw [z] at hc; simp at hc; exact hw hc
  have gp : 0 < g := by omega
  have c0 : c ≠ 0 := fun z => by rw [z] at hc; simp at hc; exact hw hc
  have hne : sg w g ≠ 0 := by unfold sg; split <;> omega
  have div : ∀ z u : Int, z = g * u → z.fdiv (sg w g) = (if w < 0 then -u else u) := fun z u h => by
    have : z = sg w g * (if w < 0 then -u else u) := by
      unfold sg
      split <;> grind
    conv => lhs; lhs; rw [this]
    exact Int.mul_fdiv_cancel_left _ hne
  have ab : ∀ z u : Int, z = g * u → u.natAbs ≤ z.natAbs := fun z u h => by
    rw [h, Int.natAbs_mul]
    exact Nat.le_mul_of_pos_left _ (by omega)
  have habc : Nat.gcd (Nat.gcd a.natAbs b.natAbs) c.natAbs = 1 := by
    have e1 : x.natAbs = g.natAbs * a.natAbs := by rw [← Int.natAbs_mul, ← ha]
    have e2 : y.natAbs = g.natAbs * b.natAbs := by rw [← Int.natAbs_mul, ← hb]
    have e3 : w.natAbs = g.natAbs * c.natAbs := by rw [← Int.natAbs_mul, ← hc]
    rw [e1, e2, e3, Nat.gcd_mul_left, Nat.gcd_mul_left] at hN
    exact Nat.eq_of_mul_eq_mul_left (show 0 < g.natAbs by omega) (by rw [hN, Nat.mul_one])
  refine ⟨hne, fun n hn => bits_le ?_ hn, ?_⟩
  · have : g.natAbs ≤ w.natAbs := by rw [hc, Int.natAbs_mul]; exact Nat.le_mul_of_pos_right _ (by omega)
    unfold sg; split <;> omega
  · rw [div x a ha, div y b hb, div w c hc]
    have na := ab x a ha
    have nb := ab y b hb
    have nc := ab w c hc
    refine ⟨?_, ?_, ?_, ?_, fun n hn => bits_le ?_ hn, fun n hn => bits_le ?_ hn, fun n hn => bits_le ?_ hn⟩
    · have : 0 < c ∨ c < 0 := by omega
      rcases this with z | z
      · have : 0 < g * c := Int.mul_pos gp z
        rw [if_neg (by omega)]; exact z
      · have : g * c < 0 := Int.mul_neg_of_pos_of_neg gp z
        rw [if_pos (by omega)]; omega
    · rw [gI3_nat]
      split <;> simp [habc]
    · split <;> grind
    · split <;> grind
    · split <;> omega
    · split <;> omega
    · split <;> omega
theorem m_spot {x y w : Int} (hw : w ≠ 0) (h9 : intBits w ≤ 9000) : ∃ p q r, M_spot [.int x, .int y, .int w] = .ok (.tup [.int p, .int q, .int r]) ∧ Low3 x y w p q r := by
  obtain ⟨hne, hbits, low⟩ := low3_of (x := x) (y := y) hw
  refine ⟨_, _, _, ?_, low⟩
  unfold M_spot; first | rw [run3] | rw [re3]
  have hb9 := hbits 9000 h9
  by_cases h : w < 0
  · simp [d_spot, m_is_int, hw, m_divisor, h]
    have e : sg w (gI (gI x y) w) = -gI (gI x y) w := if_pos h
    rw [e] at hne hb9 ⊢
    simp [pFdiv_s (i := x) hne hb9, pFdiv_s (i := y) hne hb9, pFdiv_s (i := w) hne hb9]
  · simp [d_spot, m_is_int, hw, m_divisor, h]
    have e : sg w (gI (gI x y) w) = gI (gI x y) w := if_neg h
    rw [e] at hne hb9 ⊢
    simp [pFdiv_s (i := x) hne hb9, pFdiv_s (i := y) hne hb9, pFdiv_s (i := w) hne hb9]
open PyProof.Rows (bits_mul bits_add bits_sub)
theorem forS_n {k : Nat} {c : DS} {p : PV} {ps : List PV} {σ : PSt} : forS (gN k) c (p :: ps) σ = (c (σ.set k (some (.sh p)))).bind fun f => match f with
      | .next σ' => forS (gN k) c ps σ'
      | .cont σ' => forS (gN k) c ps σ'
      | .brk σ' => .ok (.next σ')
      | .ret p => .ok (.ret p) := forS_cons rfl
theorem m_number (c : Int) : ∃ n, M__law_number [.int c] = .ok (.int n) ∧ intBits n ≤ 200 := by
  unfold M__law_number; rw [run1]
  by_cases h : c % 3 = 0
  · refine ⟨c / 3 % 9 - 4, ?_, bits_lt (by omega)⟩
    simp [d__law_number, h]
  · refine ⟨c / 3 % 20000000000000000000000000000000000000000000000000000000001 - 10000000000000000000000000000000000000000000000000000000000, ?_, bits_lt (by omega)⟩
    simp [d__law_number, h]
theorem m_spot0 (x y : Int) : M_spot [.int x, .int y, .int 0] = .err "NoNumber" := by
  unfold M_spot; rw [re3]
  simp [d_spot, m_is_int]
theorem m_refused (x y : Int) : M__law_refused [.int x, .int y, .int 0] = .ok (.bl true) := by
  unfold M__law_refused; rw [run3]
  have h : ∀ x5, sTry M_spot (aCons (eVar 0) (aCons (eVar 1) (aCons (eVar 2) aNil))) ["NoNumber"] 4 b__law_refused_1 [some (.sh (.int x)), some (.sh (.int y)), some (.sh (.int 0)), some (.sh .non), none, x5] = .ok (.next [some (.sh (.int x)), some (.sh (.int y)), some (.sh (.int 0)), some (.sh (.exc "NoNumber")), none, x5]) := fun x5 =>
    sTry_err (qs := [.int x, .int y, .int 0]) (c := "NoNumber") (σ' := [some (.sh (.int x)), some (.sh (.int y)), some (.sh (.int 0)), some (.sh (.exc "NoNumber")), some (.sh (.exc "NoNumber")), x5]) rfl (m_spot0 x y) (by decide +kernel) rfl
  have e1 : pIsiX [("NoNumber", true)] (.exc "NoNumber") = .ok (.bl true) := pIsiX_c (by decide +kernel)
  have e2 : pIsiX [("NoNumber", false)] (.exc "NoNumber") = .ok (.bl false) := pIsiX_c (by decide +kernel)
  simp [d__law_refused, h, e1, e2]
theorem m_is_spot {x y w p q r : Int} (low : Low3 x y w p q r) : M__law_is_spot [.tup [.int p, .int q, .int r]] = .ok (.bl true) := by
  unfold M__law_is_spot; rw [run1]
  simp [d__law_is_spot, isSub, forS_n, b__law_is_spot_1_s, m_whole, m_common, low.one, low.pos]
theorem range3 : asRange1 [.int 3] = .ok [.int 0, .int 1, .int 2] := by
  show (if -(2 ^ 61) ≤ (3 : Int) ∧ (3 : Int) < 2 ^ 61 then Res.ok (rangeL 0 1 (3 : Int).toNat) else Res.stuck) = _
  rw [if_pos (by decide)]
  rfl
section
variable (ns : List Int) (a : Int)
theorem comp1 (ha : 0 ≤ a) (x2 x3 x4 x5 x6 x7 x8 : Option SV) : ∃ p q r : Int, intBits p ≤ 200 ∧ intBits q ≤ 200 ∧ intBits r ≤ 200 ∧ sCompO 2 (itR asRange1 (aCons (eC (.int 3)) aNil)) (gN 0) e_law_1 1 [0, 1] [some (.sh (.scr ns)), some (.sh (.int a)), x2, x3, x4, x5, x6, x7, x8] =
    .ok (.next [some (.sh (.scr ns)), some (.sh (.int a)), some (.own [.int p, .int q, .int r]), x3, x4, x5, x6, x7, x8]) := by
  obtain ⟨c0, h0⟩ := m_cell ns (a + 0) (by omega)
  obtain ⟨c1, h1⟩ := m_cell ns (a + 1) (by omega)
  obtain ⟨c2, h2⟩ := m_cell ns (a + 2) (by omega)
  obtain ⟨p, e0, b0⟩ := m_number c0
  obtain ⟨q, e1, b1⟩ := m_number c1
  obtain ⟨r, e2, b2⟩ := m_number c2
  refine ⟨p, q, r, b0, b1, b2, ?_⟩
  have t : ∀ k c n : Int, M__law_cell [.scr ns, .int (a + k)] = .ok (.int c) → M__law_number [.int c] = .ok (.int n) → turnF (gN 0) e_law_1 [none, some (.sh (.scr ns)), some (.sh (.int a))] (.int k) = .ok (.int n) := fun k c n h h' => by
    show noErr (e_law_1 [some (.sh (.int k)), some (.sh (.scr ns)), some (.sh (.int a))]) = _
    simp [e_law_1_s, h, h']
  unfold sCompO cVal
  simp only [itR_s, aCons_s, aNil_s, eC_s, bind_ok', range3]
  rw [show inn 1 [0, 1] [some (.sh (.scr ns)), some (.sh (.int a)), x2, x3, x4, x5, x6, x7, x8] = [none, some (.sh (.scr ns)), some (.sh (.int a))] from rfl]
  simp only [mapR, t _ _ _ h0 e0, t _ _ _ h1 e1, t _ _ _ h2 e2, Res.bind_ok]
  rfl
theorem comp2 {p q r m : Int} (hm : intBits m ≤ 64) (x3 x5 x6 x7 x8 : Option SV) : sShare 2 (sCompO 2 (itE (eVar 2)) (gN 0) e_law_2 1 [4]) [some (.sh (.scr ns)), some (.sh (.int a)), some (.own [.int p, .int q, .int r]), x3, some (.sh (.int m)), x5, x6, x7, x8] =
    .ok (.next [some (.sh (.scr ns)), some (.sh (.int a)), some (.own [.int (p % 10000000000000000000000000000000000000000 * m), .int (q % 10000000000000000000000000000000000000000 * m), .int (r % 10000000000000000000000000000000000000000 * m)]), x3, some (.sh (.int m)), x5, x6, x7, x8]) := by
  have hb : ∀ n : Int, intBits (n % 10000000000000000000000000000000000000000) ≤ 200 := fun n => bits_lt (by omega)
  have t : ∀ n : Int, turnF (gN 0) e_law_2 [none, some (.sh (.int m))] (.int n) = .ok (.int (n % 10000000000000000000000000000000000000000 * m)) := fun n => by
    show noErr (e_law_2 [some (.sh (.int n)), some (.sh (.int m))]) = _
    simp [e_law_2_s, mul_ok (hb n) hm]
  show sCompO 2 (itE (eVar 2)) (gN 0) e_law_2 1 [4] [some (.sh (.scr ns)), some (.sh (.int a)), some (.sh (.lst [.int p, .int q, .int r])), x3, some (.sh (.int m)), x5, x6, x7, x8] = _
  unfold sCompO cVal
  simp only [itE_s, eVar_2, bind_ok', asSeq_l]
  rw [show inn 1 [4] [some (.sh (.scr ns)), some (.sh (.int a)), some (.sh (.lst [.int p, .int q, .int r])), x3, some (.sh (.int m)), x5, x6, x7, x8] = [none, some (.sh (.int m))] from rfl]
  simp only [mapR, t, Res.bind_ok]
  rfl
theorem put0 {p q r : Int} (x3 x4 x5 x6 x7 x8 : Option SV) : sPut 2 (eC (.int 2)) (eC (.int 0)) [some (.sh (.scr ns)), some (.sh (.int a)), some (.own [.int p, .int q, .int r]), x3, x4, x5, x6, x7, x8] =
    .ok (.next [some (.sh (.scr ns)), some (.sh (.int a)), some (.own [.int p, .int q, .int 0]), x3, x4, x5, x6, x7, x8]) := rfl
theorem unp {p q r : Int} (x3 x4 x5 x6 x7 x8 : Option SV) : sShare 2 (sAsg (eVar 2) (gU [5, 6, 7])) [some (.sh (.scr ns)), some (.sh (.int a)), some (.own [.int p, .int q, .int r]), x3, x4, x5, x6, x7, x8] =
    .ok (.next [some (.sh (.scr ns)), some (.sh (.int a)), some (.sh (.lst [.int p, .int q, .int r])), x3, x4, some (.sh (.int p)), some (.sh (.int q)), some (.sh (.int r)), x8]) := rfl
end
theorem turn_law (ns : List Int) (a : Int) (ha : 0 ≤ a) (x2 x3 x4 x5 x6 x7 x8 : Option SV) : ∃ y2 y3 y4 y5 y6 y7 y8, b_law_3 [some (.sh (.scr ns)), some (.sh (.int a)), x2, x3, x4, x5, x6, x7, x8] = .ok (.next [some (.sh (.scr ns)), some (.sh (.int a)), y2, y3, y4, y5, y6, y7, y8]) := by
  obtain ⟨p, q, r, bp, bq, br, hc1⟩ := comp1 ns a ha x2 x3 x4 x5 x6 x7 x8
  obtain ⟨c, h3⟩ := m_cell ns (a + 3) (by omega)
  have last : ∀ (x y w : Int) (z2 z3 z4 z8 : Option SV), intBits x ≤ 1000 → intBits y ≤ 1000 → intBits w ≤ 1000 → ∃ y8, (sIf (tV (e2 pEq (eVar 7) (eC (.int 0)))) (sIf (G.tNot (tV (eA (fun ps => noErr (M__law_refused ps)) (aCons (eVar 5) (aCons (eVar 6) (aCons (eVar 7) aNil)))))) (sRet (eC (.bl false))) sNext) (sSeq (sSet 8 (eA (fun ps => noErr (M_spot ps)) (aCons (eVar 5) (aCons (eVar 6) (aCons (eVar 7) aNil)))))
    (sIf (G.tOr (G.tNot (tV (eA (fun ps => noErr (M__law_is_spot ps)) (aCons (eVar 8) aNil)))) (G.tOr (tV (e2 pNe (e2 pMul (eIxV 8 (eC (.int 0))) (eVar 7)) (e2 pMul (eVar 5) (eIxV 8 (eC (.int 2)))))) (tV (e2 pNe (e2 pMul (eIxV 8 (eC (.int 1))) (eVar 7)) (e2 pMul (eVar 6) (eIxV 8 (eC (.int 2)))))))) (sRet (eC (.bl false))) sNext)))
      [some (.sh (.scr ns)), some (.sh (.int a)), z2, z3, z4, some (.sh (.int x)), some (.sh (.int y)), some (.sh (.int w)), z8] = .ok (.next [some (.sh (.scr ns)), some (.sh (.int a)), z2, z3, z4, some (.sh (.int x)), some (.sh (.int y)), some (.sh (.int w)), y8]) := fun x y w z2 z3 z4 z8 hx hy hw => by
    by_cases h : w = 0
    · subst h
      exact ⟨z8, by simp [m_refused]⟩
    · obtain ⟨f, g, k, hp, low⟩ := m_spot (x := x) (y := y) h (Nat.le_trans hw (by decide))
      exact ⟨some (.sh (.tup [.int f, .int g, .int k])), by simp [h, hp, m_is_spot low, mul_ok (low.pb _ hx) hw, mul_ok (low.qb _ hy) hw, mul_ok hx (low.rb _ hw), mul_ok hy (low.rb _ hw), low.ex, low.ey]⟩
  have hf : intBits (c / 21 % 1000000000000000000 + 1) ≤ 64 := bits_lt (by omega)
  have up : ∀ {n : Int}, intBits n ≤ 200 → intBits n ≤ 1000 := fun h => Nat.le_trans h (by decide)
  have up2 : ∀ n : Int, intBits (n % 10000000000000000000000000000000000000000 * (c / 21 % 1000000000000000000 + 1)) ≤ 1000 := fun n => Nat.le_trans (bits_mul (show intBits (n % 10000000000000000000000000000000000000000) ≤ 200 from bits_lt (by omega)) hf) (by decide)
  have z0 : intBits 0 ≤ 1000 := bits_lt (by decide)
  have rest : ∀ (p q r : Int) (z4 : Option SV), intBits p ≤ 1000 → intBits q ≤ 1000 → intBits r ≤ 1000 → ∃ y2 y5 y6 y7 y8, (sSeq (sIf (tV (e2 pEq (e2 pMod (e2 pFdiv (eVar 3) (eC (.int 3))) (eC (.int 7))) (eC (.int 1)))) (sPut 2 (eC (.int 2)) (eC (.int 0))) sNext)
    (sSeq (sShare 2 (sAsg (eVar 2) (gU [5, 6, 7])))
    (sIf (tV (e2 pEq (eVar 7) (eC (.int 0)))) (sIf (G.tNot (tV (eA (fun ps => noErr (M__law_refused ps)) (aCons (eVar 5) (aCons (eVar 6) (aCons (eVar 7) aNil)))))) (sRet (eC (.bl false))) sNext) (sSeq (sSet 8 (eA (fun ps => noErr (M_spot ps)) (aCons (eVar 5) (aCons (eVar 6) (aCons (eVar 7) aNil)))))
    (sIf (G.tOr (G.tNot (tV (eA (fun ps => noErr (M__law_is_spot ps)) (aCons (eVar 8) aNil)))) (G.tOr (tV (e2 pNe (e2 pMul (eIxV 8 (eC (.int 0))) (eVar 7)) (e2 pMul (eVar 5) (eIxV 8 (eC (.int 2)))))) (tV (e2 pNe (e2 pMul (eIxV 8 (eC (.int 1))) (eVar 7)) (e2 pMul (eVar 6) (eIxV 8 (eC (.int 2)))))))) (sRet (eC (.bl false))) sNext)))))
      [some (.sh (.scr ns)), some (.sh (.int a)), some (.own [.int p, .int q, .int r]), some (.sh (.int c)), z4, x5, x6, x7, x8] = .ok (.next [some (.sh (.scr ns)), some (.sh (.int a)), y2, some (.sh (.int c)), z4, y5, y6, y7, y8]) := fun p q r z4 hp hq hr => by
    by_cases g2 : c / 3 % 7 = 1
    · obtain ⟨y8, hl⟩ := last p q 0 (some (.sh (.lst [.int p, .int q, .int 0]))) (some (.sh (.int c))) z4 x8 hp hq z0
      refine ⟨some (.sh (.lst [.int p, .int q, .int 0])), some (.sh (.int p)), some (.sh (.int q)), some (.sh (.int 0)), y8, ?_⟩
      rw [sSeq_s, sIf_s]
      have : (tV (e2 pEq (e2 pMod (e2 pFdiv (eVar 3) (eC (.int 3))) (eC (.int 7))) (eC (.int 1)))) [some (.sh (.scr ns)), some (.sh (.int a)), some (.own [.int p, .int q, .int r]), some (.sh (.int c)), z4, x5, x6, x7, x8] = .ok true := by simp [g2]
      rw [this]
      simp only [bind_ok', if_true, put0]
      rw [sSeq_s, unp]
      exact hl
    · obtain ⟨y8, hl⟩ := last p q r (some (.sh (.lst [.int p, .int q, .int r]))) (some (.sh (.int c))) z4 x8 hp hq hr
      refine ⟨some (.sh (.lst [.int p, .int q, .int r])), some (.sh (.int p)), some (.sh (.int q)), some (.sh (.int r)), y8, ?_⟩
      rw [sSeq_s, sIf_s]
      have : (tV (e2 pEq (e2 pMod (e2 pFdiv (eVar 3) (eC (.int 3))) (eC (.int 7))) (eC (.int 1)))) [some (.sh (.scr ns)), some (.sh (.int a)), some (.own [.int p, .int q, .int r]), some (.sh (.int c)), z4, x5, x6, x7, x8] = .ok false := by simp [g2]
      rw [this]
      simp only [bind_ok', Bool.false_eq_true, if_false, sNext_s]
      rw [sSeq_s, unp]
      exact hl
  rw [b_law_3_s, sSeq_s, hc1]
  simp only [bind_ok']
  rw [sSeq_s]
  have hs3 : (sSet 3 (eA (fun ps => noErr (M__law_cell ps)) (aCons (eVar 0) (aCons (e2 pAdd (eVar 1) (eC (.int 3))) aNil)))) [some (.sh (.scr ns)), some (.sh (.int a)), some (.own [.int p, .int q, .int r]), x3, x4, x5, x6, x7, x8] = .ok (.next [some (.sh (.scr ns)), some (.sh (.int a)), some (.own [.int p, .int q, .int r]), some (.sh (.int c)), x4, x5, x6, x7, x8]) := by simp [h3]
  rw [hs3]
  simp only [bind_ok']
  rw [sSeq_s, sIf_s]
  by_cases g1 : c % 3 = 1
  · have : (tV (e2 pEq (e2 pMod (eVar 3) (eC (.int 3))) (eC (.int 1)))) [some (.sh (.scr ns)), some (.sh (.int a)), some (.own [.int p, .int q, .int r]), some (.sh (.int c)), x4, x5, x6, x7, x8] = .ok true := by simp [g1]
    rw [this]
    simp only [bind_ok', if_true]
    rw [sSeq_s]
    have hs4 : (sSet 4 (e2 pAdd (e2 pMod (e2 pFdiv (eVar 3) (eC (.int 21))) (e2 pPow (eC (.int 10)) (eC (.int 18)))) (eC (.int 1)))) [some (.sh (.scr ns)), some (.sh (.int a)), some (.own [.int p, .int q, .int r]), some (.sh (.int c)), x4, x5, x6, x7, x8] = .ok (.next [some (.sh (.scr ns)), some (.sh (.int a)), some (.own [.int p, .int q, .int r]), some (.sh (.int c)), some (.sh (.int (c / 21 % 1000000000000000000 + 1))), x5, x6, x7, x8]) := by simp
    rw [hs4]
    simp only [bind_ok', comp2 ns a hf]
    obtain ⟨y2, y5, y6, y7, y8, hl⟩ := rest _ _ _ (some (.sh (.int (c / 21 % 1000000000000000000 + 1)))) (up2 p) (up2 q) (up2 r)
    exact ⟨y2, _, _, y5, y6, y7, y8, hl⟩
  · have : (tV (e2 pEq (e2 pMod (eVar 3) (eC (.int 3))) (eC (.int 1)))) [some (.sh (.scr ns)), some (.sh (.int a)), some (.own [.int p, .int q, .int r]), some (.sh (.int c)), x4, x5, x6, x7, x8] = .ok false := by simp [g1]
    rw [this]
    simp only [bind_ok', Bool.false_eq_true, if_false, sNext_s]
    obtain ⟨y2, y5, y6, y7, y8, hl⟩ := rest p q r x4 (up bp) (up bq) (up br)
    exact ⟨y2, _, _, y5, y6, y7, y8, hl⟩
theorem m_law (ns : List Int) (hl : ns.length ≤ 63) : M_law [.scr ns] = .ok (.bl true) := by
  unfold M_law; rw [run1]
  have hr : ∃ ps, asRange3 [PV.int 0, PV.int (if ((ns.length : Nat) : Int) > 1 then ((ns.length : Nat) : Int) else 1), PV.int 4] = .ok ps ∧ ∀ p ∈ ps, ∃ a : Int, p = .int a ∧ 0 ≤ a := by
    refine ⟨_, if_pos ⟨by decide, by decide, by split <;> omega, by split <;> omega, by decide, by decide⟩, fun p hp => ?_⟩
    obtain ⟨i, _, rfl⟩ := rangeL_mem hp
    exact ⟨_, rfl, by omega⟩
  obtain ⟨ps, hps, hall⟩ := hr
  obtain ⟨σ', h1, _⟩ := for_all (gg := gN 1) (c := b_law_3) (fun σ => ∃ x1 x2 x3 x4 x5 x6 x7 x8, σ = [some (.sh (.scr ns)), x1, x2, x3, x4, x5, x6, x7, x8]) (fun p => ∃ a : Int, p = .int a ∧ 0 ≤ a)
    (by
      rintro p σ ⟨a, rfl, ha⟩ ⟨x1, x2, x3, x4, x5, x6, x7, x8, rfl⟩
      obtain ⟨y2, y3, y4, y5, y6, y7, y8, h⟩ := turn_law ns a ha x2 x3 x4 x5 x6 x7 x8
      exact ⟨_, _, rfl, h, _, _, _, _, _, _, _, _, rfl⟩) ps hall _ ⟨none, none, none, none, none, none, none, none, rfl⟩
  simp only [d_law, sSeq_s, sFor_s, itR_s, aCons_s, aNil_s, eA_s, eC_s, bind_ok', eLenV_0, bLen_s, bMax_s, hps]
  change fin (Res.bind (forS (gN 1) b_law_3 ps [some (.sh (.scr ns)), none, none, none, none, none, none, none, none]) _) = _
  rw [h1]
  rfl
end Law
set_option Elab.async false
set_option linter.all false
set_option maxRecDepth 100000
set_option maxHeartbeats 4000000
namespace Law
open PySem PySem.Spec PyProof.Rows L2 G
theorem all_mk {P : Program} {w : World} {K : PySem.W.Frag} {h : Heap} {mg : Str → Option Value} {C_NoNumber C_GlideError C_Flat C_Crowded C_NoName C_Twice C_Past C_NoText C_NoRow : Addr} (KI : K.In h) (GN : h.Ns mainGlobals mg) (D_is_whole : DefAt K "is_whole" (top 11)) (D_divisor : DefAt K "divisor" (top 12)) (D_spot : DefAt K "spot" (top 14)) (D__law_cell : DefAt K "_law_cell" (top 16)) (D__law_whole : DefAt K "_law_whole" (top 17)) (D__law_common : DefAt K "_law_common" (top 18)) (D__law_number : DefAt K "_law_number" (top 19)) (D__law_refused : DefAt K "_law_refused" (top 20)) (D__law_is_spot : DefAt K "_law_is_spot" (top 21)) (D_law : DefAt K "law" (top 22)) (z_abs : PySem.W.nsIn K mainGlobals "abs" = some none) (z_len : PySem.W.nsIn K mainGlobals "len" = some none) (z_range : PySem.W.nsIn K mainGlobals "range" = some none) (z_max : PySem.W.nsIn K mainGlobals "max" = some none) (z_min : PySem.W.nsIn K mainGlobals "min" = some none) (z_isinstance : PySem.W.nsIn K mainGlobals "isinstance" = some none) (z_int : PySem.W.nsIn K mainGlobals "int" = some none) (z_bool : PySem.W.nsIn K mainGlobals "bool" = some none) (z_tuple : PySem.W.nsIn K mainGlobals "tuple" = some none) (z_list : PySem.W.nsIn K mainGlobals "list" = some none) (z_str : PySem.W.nsIn K mainGlobals "str" = some none) (z_dict : PySem.W.nsIn K mainGlobals "dict" = some none) (z_ValueError : PySem.W.nsIn K mainGlobals "ValueError" = some none) (c_NoNumber : PySem.W.nsIn K mainGlobals "NoNumber" = some (some (.ref C_NoNumber))) (c_GlideError : PySem.W.nsIn K mainGlobals "GlideError" = some (some (.ref C_GlideError))) (c_Flat : PySem.W.nsIn K mainGlobals "Flat" = some (some (.ref C_Flat))) (c_Crowded : PySem.W.nsIn K mainGlobals "Crowded" = some (some (.ref C_Crowded))) (c_NoName : PySem.W.nsIn K mainGlobals "NoName" = some (some (.ref C_NoName))) (c_Twice : PySem.W.nsIn K mainGlobals "Twice" = some (some (.ref C_Twice))) (c_Past : PySem.W.nsIn K mainGlobals "Past" = some (some (.ref C_Past))) (c_NoText : PySem.W.nsIn K mainGlobals "NoText" = some (some (.ref C_NoText))) (c_NoRow : PySem.W.nsIn K mainGlobals "NoRow" = some (some (.ref C_NoRow))) (x_NoNumber : PySem.W.excIn K C_NoNumber [.type "ValueError", .type "Exception", .type "BaseException", .type "object"] "ValueError.__new__" = true) (o_NoNumber : excOk K C_NoNumber = true) (m_NoNumber_GlideError : PySem.W.exmOne K (.ref C_NoNumber) (.ref C_GlideError) = some true) (n_T__law_refused_2 : PySem.W.kitAny K (.type "NoneType") [.type "ValueError"] = some false) (k_T__law_refused_2_NoNumber : PySem.W.kitAny K (.ref C_NoNumber) [.type "ValueError"] = some true) (n_T__law_refused_3 : PySem.W.kitAny K (.type "NoneType") [.ref C_NoNumber] = some false) (k_T__law_refused_3_NoNumber : PySem.W.kitAny K (.ref C_NoNumber) [.ref C_NoNumber] = some true) (n_T__law_refused_4 : PySem.W.kitAny K (.type "NoneType") [.ref C_Flat, .ref C_Crowded, .ref C_NoName, .ref C_Twice, .ref C_Past, .ref C_NoText, .ref C_NoRow] = some false) (k_T__law_refused_4_NoNumber : PySem.W.kitAny K (.ref C_NoNumber) [.ref C_Flat, .ref C_Crowded, .ref C_NoName, .ref C_Twice, .ref C_Past, .ref C_NoText, .ref C_NoRow] = some false) :
    ∃ (a : Addr) (fd : FuncData), mg "law" = some (.ref a) ∧ (∀ (s : Shared) (u : Value), BindsTo s fd ⟨[u], []⟩ [("script", u)]) ∧ ∀ base : Heap, K.In base → base.Ns mainGlobals mg → FnOk P w K mg base (CXG P w) 4 a fd ["script"] (Fsp K 1 M_law) := by
  have B : Bi mg := ⟨PySem.W.mg_none_of KI GN z_abs, PySem.W.mg_none_of KI GN z_len, PySem.W.mg_none_of KI GN z_range, PySem.W.mg_none_of KI GN z_max, PySem.W.mg_none_of KI GN z_min, PySem.W.mg_none_of KI GN z_isinstance, PySem.W.mg_none_of KI GN z_int, PySem.W.mg_none_of KI GN z_bool, PySem.W.mg_none_of KI GN z_tuple, PySem.W.mg_none_of KI GN z_list, PySem.W.mg_none_of KI GN z_str, PySem.W.mg_none_of KI GN z_dict⟩
  have KG : ∀ (y : Str) (C : Addr), ClsIs K y C → mg y = some (.ref C) := fun y C hc => PySem.W.mg_of KI GN hc
  have X_NoNumber : ExcAt K "NoNumber" := exc_at c_NoNumber x_NoNumber
  have C__law_refused_1 : Caught K "GlideError" ["NoNumber"] := (caught1 c_GlideError c_NoNumber m_NoNumber_GlideError caught0)
  have T__law_refused_2 : IsTab K [.type "ValueError"] [("NoNumber", true)] := (istab1 c_NoNumber o_NoNumber k_T__law_refused_2_NoNumber (istab0 n_T__law_refused_2))
  have Z_ValueError : mg "ValueError" = none := PySem.W.mg_none_of KI GN z_ValueError
  have T__law_refused_3 : IsOwn K "NoNumber" [("NoNumber", true)] := ⟨_, c_NoNumber, (istab1 c_NoNumber o_NoNumber k_T__law_refused_3_NoNumber (istab0 n_T__law_refused_3))⟩
  have T__law_refused_4 : IsMany K ["Flat", "Crowded", "NoName", "Twice", "Past", "NoText", "NoRow"] [("NoNumber", false)] := ⟨[C_Flat, C_Crowded, C_NoName, C_Twice, C_Past, C_NoText, C_NoRow], (.cons c_Flat (.cons c_Crowded (.cons c_NoName (.cons c_Twice (.cons c_Past (.cons c_NoText (.cons c_NoRow .nil))))))), (istab1 c_NoNumber o_NoNumber k_T__law_refused_4_NoNumber (istab0 n_T__law_refused_4))⟩
  refine law_of D_law KI GN (fun _ _ _ _ _ _ us hl => match us, hl with | [_], _ => rfl) (fun base f fd F => ?_)
  have F_is_whole := in_is_whole (P := P) (w := w) (base := base) D_is_whole KI GN B
  have F_divisor := in_divisor (P := P) (w := w) (base := base) D_divisor KI GN B
  have F_spot := in_spot (P := P) (w := w) (base := base) D_spot KI GN B F_divisor F_is_whole X_NoNumber KG
  have F__law_cell := in__law_cell (P := P) (w := w) (base := base) D__law_cell KI GN B
  have F__law_whole := in__law_whole (P := P) (w := w) (base := base) D__law_whole KI GN B
  have F__law_common := in__law_common (P := P) (w := w) (base := base) D__law_common KI GN B
  have F__law_number := in__law_number (P := P) (w := w) (base := base) D__law_number KI GN B
  have F__law_refused := in__law_refused (P := P) (w := w) (base := base) D__law_refused KI GN B F_spot C__law_refused_1 T__law_refused_2 Z_ValueError T__law_refused_3 T__law_refused_4 KG
  have F__law_is_spot := in__law_is_spot (P := P) (w := w) (base := base) D__law_is_spot KI GN B F__law_common F__law_whole
  exact in_law F B F__law_cell F__law_is_spot F__law_number F__law_refused F_spot
end Law
open PySem PySem.W PyProof.Rows
set_option maxRecDepth 100000 in
set_option maxHeartbeats 0 in
theorem PySem.Challenge.cw_glide_k04_a_spot_holds : PySem.Challenge.rw_glide_k04_a_spot.Holds := by
  w_on; o_law; k_head; (case hw => w_witness2)
  k_fill
  refine G.law_walk (l := PySem.Challenge.rw_glide_k04_a_spot) (k := 4) (m := Law.M_law) rfl rfl ⟨rfl, by decide, by decide⟩ (fun w h Y => PySem.W.kIn_of Y) rfl ?F Law.m_law
  case F =>
    intro w mg h KX GN
    refine' Law.all_mk KX GN (G.def_at ?a_is_whole ?l_is_whole ?d_is_whole ?k_is_whole) (G.def_at ?a_divisor ?l_divisor ?d_divisor ?k_divisor) (G.def_at ?a_spot ?l_spot ?d_spot ?k_spot) (G.def_at ?a__law_cell ?l__law_cell ?d__law_cell ?k__law_cell) (G.def_at ?a__law_whole ?l__law_whole ?d__law_whole ?k__law_whole) (G.def_at ?a__law_common ?l__law_common ?d__law_common ?k__law_common) (G.def_at ?a__law_number ?l__law_number ?d__law_number ?k__law_number) (G.def_at ?a__law_refused ?l__law_refused ?d__law_refused ?k__law_refused) (G.def_at ?a__law_is_spot ?l__law_is_spot ?d__law_is_spot ?k__law_is_spot) (G.def_at ?a_law ?l_law ?d_law ?k_law) ?z_abs ?z_len ?z_range ?z_max ?z_min ?z_isinstance ?z_int ?z_bool ?z_tuple ?z_list ?z_str ?z_dict ?z_ValueError ?c_NoNumber ?c_GlideError ?c_Flat ?c_Crowded ?c_NoName ?c_Twice ?c_Past ?c_NoText ?c_NoRow ?x_NoNumber ?o_NoNumber ?m_NoNumber_GlideError ?n_T__law_refused_2 ?k_T__law_refused_2_NoNumber ?n_T__law_refused_3 ?k_T__law_refused_3_NoNumber ?n_T__law_refused_4 ?k_T__law_refused_4_NoNumber
    (case a_is_whole => k_is)
    (case l_is_whole => k_is)
    (case d_is_whole => k_is)
    (case k_is_whole => k_is)
    (case a_divisor => k_is)
    (case l_divisor => k_is)
    (case d_divisor => k_is)
    (case k_divisor => k_is)
    (case a_spot => k_is)
    (case l_spot => k_is)
    (case d_spot => k_is)
    (case k_spot => k_is)
    (case a__law_cell => k_is)
    (case l__law_cell => k_is)
    (case d__law_cell => k_is)
    (case k__law_cell => k_is)
    (case a__law_whole => k_is)
    (case l__law_whole => k_is)
    (case d__law_whole => k_is)
    (case k__law_whole => k_is)
    (case a__law_common => k_is)
    (case l__law_common => k_is)
    (case d__law_common => k_is)
    (case k__law_common => k_is)
    (case a__law_number => k_is)
    (case l__law_number => k_is)
    (case d__law_number => k_is)
    (case k__law_number => k_is)
    (case a__law_refused => k_is)
    (case l__law_refused => k_is)
    (case d__law_refused => k_is)
    (case k__law_refused => k_is)
    (case a__law_is_spot => k_is)
    (case l__law_is_spot => k_is)
    (case d__law_is_spot => k_is)
    (case k__law_is_spot => k_is)
    (case a_law => k_is)
    (case l_law => k_is)
    (case d_law => k_is)
    (case k_law => k_is)
    (case z_abs => k_is)
    (case z_len => k_is)
    (case z_range => k_is)
    (case z_max => k_is)
    (case z_min => k_is)
    (case z_isinstance => k_is)
    (case z_int => k_is)
    (case z_bool => k_is)
    (case z_tuple => k_is)
    (case z_list => k_is)
    (case z_str => k_is)
    (case z_dict => k_is)
    (case z_ValueError => k_is)
    (case c_NoNumber => k_is)
    (case c_GlideError => k_is)
    (case c_Flat => k_is)
    (case c_Crowded => k_is)
    (case c_NoName => k_is)
    (case c_Twice => k_is)
    (case c_Past => k_is)
    (case c_NoText => k_is)
    (case c_NoRow => k_is)
    (case x_NoNumber => kernel_rfl)
    (case o_NoNumber => kernel_rfl)
    (case m_NoNumber_GlideError => kernel_rfl)
    (case n_T__law_refused_2 => kernel_rfl)
    (case k_T__law_refused_2_NoNumber => kernel_rfl)
    (case n_T__law_refused_3 => kernel_rfl)
    (case k_T__law_refused_3_NoNumber => kernel_rfl)
    (case n_T__law_refused_4 => kernel_rfl)
    (case k_T__law_refused_4_NoNumber => kernel_rfl)
