import PyProof.Rows.All
import Wide.All
import OpenK.AllK
import Wide.FinOn
import Lean
import PyProof.EqAt
import PyProof.EqKinds
import PyProof.TupleCall
import PyProof.Rows.SortRuns
import PySem.Challenge.RW_sootring_k03_holes
-- CHANGE: your row's module here, as the last of these rows
set_option Elab.async false
set_option linter.all false
set_option maxRecDepth 100000
/-! THE HAND LAYER, for ints, bools, texts, own classes, LISTS and tuples (index, slices, in, append, pop ..), calls, loops. Paste it whole ahead of your own text; what your proof does not reach may be deleted. -/
namespace L2
open PySem PySem.Spec PyProof.Rows

/-- a key: an int or a str -/
abbrev Key := Sum Int Str
def keyIs : Key → Value → Bool
  | .inl k, v => Value.isInt k v
  | .inr x, v => Value.isStrOf x v
def keyH (w : World) : Key → Int
  | .inl k => hashInt k
  | .inr x => hashStr w x
theorem keyIs_shape : ∀ {k : Key} {v : Value}, keyIs k v = true → (∃ i t, k = Sum.inl i ∧ v = Value.int i t) ∨ (∃ x t, k = Sum.inr x ∧ v = Value.str x t)
  | .inl i, v, h => by
    obtain ⟨t, e⟩ := Value.isInt_shape (k := i) (v := v) h
    exact .inl ⟨i, t, rfl, e⟩
  | .inr x, v, h => by
    obtain ⟨t, e⟩ := Value.isStrOf_shape (x := x) (v := v) h
    exact .inr ⟨x, t, rfl, e⟩
theorem keyIs_int (i : Int) (t : Tok) : keyIs (.inl i) (.int i t) = true := by simp [keyIs, Value.isInt]
theorem keyIs_str (x : Str) (t : Tok) : keyIs (.inr x) (.str x t) = true := by simp [keyIs, Value.isStrOf]
theorem key_ll (a b : Int) : decide ((Sum.inl a : Key) = Sum.inl b) = (a == b) := by
  by_cases e : a = b
  · subst e; simp
  · have h : ¬ (Sum.inl a : Key) = Sum.inl b := fun q => e (Sum.inl.inj q)
    rw [decide_eq_false h]
    exact (beq_eq_false_iff_ne.mpr e).symm
theorem key_rr (a b : Str) : decide ((Sum.inr a : Key) = Sum.inr b) = decide (a = b) := by
  by_cases e : a = b
  · subst e; simp
  · have h : ¬ (Sum.inr a : Key) = Sum.inr b := fun q => e (Sum.inr.inj q)
    rw [decide_eq_false h, decide_eq_false e]
theorem key_lr (a : Int) (b : Str) : decide ((Sum.inl a : Key) = Sum.inr b) = false := decide_eq_false (fun q => nomatch q)
theorem key_rl (a : Str) (b : Int) : decide ((Sum.inr a : Key) = Sum.inl b) = false := decide_eq_false (fun q => nomatch q)

def mixKind (prog : Program) (w : World) : PySem.KeyKind prog w Key where
  is := keyIs
  hash := keyH w
  inj := fun v a b ha hb => by
    rcases keyIs_shape ha with ⟨i, t, rfl, rfl⟩ | ⟨x, t, rfl, rfl⟩
    · rcases keyIs_shape hb with ⟨j, u, rfl, e⟩ | ⟨y, u, rfl, e⟩
      · injection e with e1 _; rw [e1]
      · exact nomatch e
    · rcases keyIs_shape hb with ⟨j, u, rfl, e⟩ | ⟨y, u, rfl, e⟩
      · exact nomatch e
      · injection e with e1 _; rw [e1]
  byValue := fun k v h => by
    rcases keyIs_shape h with ⟨i, t, rfl, rfl⟩ | ⟨x, t, rfl, rfl⟩ <;> rfl
  pyHash := fun hv h => by
    rcases keyIs_shape hv with ⟨i, t, rfl, rfl⟩ | ⟨x, t, rfl, rfl⟩
    · exact wpAny_pyHash_int h
    · exact wpAny_pyHash_str h
  eqBool := fun hu hv h => by
    rcases keyIs_shape hu with ⟨i, t, rfl, rfl⟩ | ⟨x, t, rfl, rfl⟩
    · rcases keyIs_shape hv with ⟨j, u, rfl, rfl⟩ | ⟨y, u, rfl, rfl⟩
      · rw [key_ll] at h; exact wpAny_eqBool_int h
      · rw [key_lr] at h; exact SeqAt.EqAt.int_str i t y u _ _ _ _ h
    · rcases keyIs_shape hv with ⟨j, u, rfl, rfl⟩ | ⟨y, u, rfl, rfl⟩
      · rw [key_rl] at h; exact SeqAt.EqAt.str_int x t j u _ _ _ _ h
      · rw [key_rr] at h; exact wpAny_eqBool_str h
  «strs» := fun k x t v h => by
    rcases keyIs_shape h with ⟨i, u, rfl, e⟩ | ⟨y, u, rfl, e⟩
    · exact nomatch e
    · injection e with e1 _
      subst e1
      cases v <;> rfl

theorem mixKind_is (prog : Program) (w : World) (k : Key) (v : Value) : (mixKind prog w).is k v = keyIs k v := rfl
theorem mixKind_int (prog : Program) (w : World) (i : Int) (t : Tok) : (mixKind prog w).is (.inl i) (.int i t) = true := keyIs_int i t
theorem mixKind_str (prog : Program) (w : World) (x : Str) (t : Tok) : (mixKind prog w).is (.inr x) (.str x t) = true := keyIs_str x t
end L2

namespace L2
open PySem PySem.Spec PyProof.Rows

/-- a value, without the heap -/
inductive V where
  | non | bl (b : Bool) | int (i : Int) | str (x : Str) | byt (b : Array UInt8) | flt (b : UInt64) | ref (a : Addr) | ty (n : String)
  deriving DecidableEq

def RelV : V → Value → Prop
  | .non, u => u = Value.none
  | .bl b, u => u = Value.bool b
  | .int i, u => ∃ t, u = Value.int i t
  | .str x, u => ∃ t, u = Value.str x t
  | .byt b, u => ∃ t, u = Value.bytes b t
  | .flt b, u => ∃ t, u = Value.float b t
  | .ref a, u => u = Value.ref a
  | .ty n, u => u = Value.type n

abbrev Vals : List V → List Value → Prop := Paired RelV
theorem Vals.length {xs : List V} {us : List Value} (r : Vals xs us) : xs.length = us.length := Paired.length r
theorem Vals.get : ∀ {xs : List V} {us : List Value} {i : Nat} {x : V}, Vals xs us → xs[i]? = some x → ∃ u, us[i]? = some u ∧ RelV x u
  | _, _, _, _, .nil, e => by simp at e
  | _, _, 0, _, .cons r _, e => by simp at e; subst e; exact ⟨_, rfl, r⟩
  | _, _, i + 1, x, .cons _ t, e => by
    obtain ⟨u, h1, h2⟩ := Vals.get (i := i) (x := x) t (by simpa using e)
    exact ⟨u, by simpa using h1, h2⟩
theorem Vals.set {x : V} {u : Value} (r : RelV x u) : ∀ {xs : List V} {us : List Value} (i : Nat), Vals xs us → Vals (xs.set i x) (us.set i u)
  | _, _, _, .nil => .nil
  | _, _, 0, .cons _ t => .cons r t
  | _, _, i + 1, .cons q t => .cons q (Vals.set r i t)
theorem Vals.append : ∀ {xs ys : List V} {us ws : List Value}, Vals xs us → Vals ys ws → Vals (xs ++ ys) (us ++ ws)
  | _, _, _, _, .nil, s => s
  | _, _, _, _, .cons r t, s => .cons r (Vals.append t s)
theorem Vals.take : ∀ {xs : List V} {us : List Value} (n : Nat), Vals xs us → Vals (xs.take n) (us.take n)
  | _, _, 0, _ => .nil
  | _, _, _ + 1, .nil => .nil
  | _, _, n + 1, .cons r t => .cons r (Vals.take n t)
theorem Vals.drop : ∀ {xs : List V} {us : List Value} (n : Nat), Vals xs us → Vals (xs.drop n) (us.drop n)
  | _, _, 0, r => r
  | _, _, _ + 1, .nil => .nil
  | _, _, n + 1, .cons _ t => Vals.drop n t
theorem Vals.none_of : ∀ {xs : List V} {us : List Value} {i : Nat}, Vals xs us → xs[i]? = none → us[i]? = none := fun {xs us i} r e => by
  have h1 := r.length
  have h2 : xs.length ≤ i := List.getElem?_eq_none_iff.mp e
  exact List.getElem?_eq_none_iff.mpr (by omega)

def RelO : Option V → Option Value → Prop
  | some v, some u => RelV v u
  | none, none => True
  | _, _ => False
def KV {κ : Type} : List (κ × V) → List (κ × Value) → Prop := Paired fun (p : κ × V) (q : κ × Value) => p.1 = q.1 ∧ RelV p.2 q.2

/-- a key of a dict (00_mix): an int or a text -/
def kV : Key → V
  | .inl i => .int i
  | .inr x => .str x

/-- what stands at a tracked address -/
inductive HO where
  /-- a list -/
  | lst (xs : List V)
  /-- a tuple (never changes) -/
  | tup (xs : List V)
  /-- a dict whose keys are ints and texts; one whose keys are tuples of ints and texts (the empty one is both) -/
  | dK (kvs : List (Key × V)) | dT (kvs : List (List Key × V))
  /-- a set of ints: its members, its size -/
  | set (S : Int → Bool) (n : Nat)
  /-- an instance of the class at C, its dict at dx, its attributes -/
  | ins (C dx : Addr) (fs : List (Str × V))
  /-- the dict of the instance at x -/
  | own (x : Addr)
  /-- the dict of an exception -/
  | xd (fs : List (Str × V))
  /-- a bound method, f of x -/
  | met (f x : Addr)
  /-- a range object lo, lo + 1, .. below hi -/
  | rng (lo hi : Int)
  /-- a thing that is known to the object (the script; a dict while a loop walks it): read, never written while it is so -/
  | frz (o : Obj) (u : HO)
  /-- a code object's table -/
  | tbl (ps : Array Value)
  /-- any other thing, by what is true of its one object (a def of one's own: SetO a S n := HO.ext fun h => ..) -/
  | ext (φ : Heap → Prop)

abbrev Hp := Addr → Option HO
def upd (H : Hp) (a : Addr) (o : HO) : Hp := fun b => if b = a then some o else H b
theorem upd_same {H : Hp} {a : Addr} {o : HO} : upd H a o a = some o := by unfold upd; rw [if_pos rfl]
theorem upd_ne {H : Hp} {a b : Addr} {o : HO} (h : b ≠ a) : upd H a o b = H b := by unfold upd; rw [if_neg h]
theorem upd_upd {H : Hp} {a : Addr} {o u : HO} : upd (upd H a o) a u = upd H a u := by
  funext b; unfold upd; split <;> rfl
/-- two objects of different content stand apart -/
theorem ne_of {H : Hp} {a b : Addr} {o u : HO} (h : H a = some o) (h' : H b = some u) (d : o ≠ u) : a ≠ b := by
  intro e; subst e; rw [h] at h'; exact d (Option.some.inj h')
theorem ne_of_none {H : Hp} {a b : Addr} {o : HO} (h : H a = some o) (h' : H b = none) : a ≠ b := by
  intro e; subst e; rw [h] at h'; cases h'

section
variable (P : Program) (w : World)
def ObjOk (H : Hp) (h : Heap) (a : Addr) : HO → Prop
  | .lst xs => xs.length ≤ sizeLine ∧ ∃ (its : List Value) (n : Nat), Vals xs its ∧ h.get? a = some { cls := .type "list", data := .seq its.toArray n }
  | .tup xs => xs.length ≤ sizeLine ∧ ∃ its : List Value, Vals xs its ∧ IsTup h a its.toArray
  | .dK kvs => kvs.length ≤ sizeLine ∧ (a == sysModules) = false ∧ ∃ vs, KV kvs vs ∧ h.DictOf (mixKind P w) a vs
  | .dT kvs => kvs.length ≤ sizeLine ∧ (a == sysModules) = false ∧ ∃ xs : List (List Key × Addr × Value),
      Paired (fun (p : List Key × V) (q : List Key × Addr × Value) => p.1 = q.1 ∧ H q.2.1 = some (.tup (p.1.map kV)) ∧ RelV p.2 q.2.2) kvs xs ∧
      ∃ o es ep, h.get? a = some o ∧ o.ExactDict ∧ o.data = .dict es ep ∧ es.toList = xs.map (entryOfKey (tupleKind (mixKind P w))) ∧ (xs.map (·.1)).Nodup
  | .set S n => h.SetOf (intKind P w) a S n
  | .ins C dx fs => H dx = some (.own a) ∧ fs.length ≤ 1000 ∧ dx ≠ a ∧ h.get? a = some (PySem.W.instObj C dx) ∧
      ∃ mA, h.Ns1 dx mA ∧ (∀ f, RelO (fs.lookup f) (mA f)) ∧ PySem.Within mA (fs.map (·.1))
  | .own _ => ∃ o, h.get? a = some o
  | .xd fs => ∃ mA, h.Ns1 a mA ∧ ∀ f, RelO (fs.lookup f) (mA f)
  | .rng lo hi => ∃ t u v, h.get? a = some { cls := .type "range", data := .fields #[.int lo t, .int hi u, .int 1 v] }
  | .frz o u => h.get? a = some o ∧ ObjOk H h a u
  | .tbl ps => h.get? a = some { cls := .none, data := .fields ps }
  | .met f x => h.get? a = some (PySem.W.methodObj (.ref f) (.ref x))
  | .ext φ => φ h ∧ (∃ o, h.get? a = some o) ∧ ∀ h1 h2 : Heap, φ h1 → (∀ o, h1.get? a = some o → h2.get? a = some o) → φ h2
/-- the abstract heap is held -/
def HOk (H : Hp) (h : Heap) : Prop := ∀ a o, H a = some o → ObjOk P w H h a o
end

section
variable {P : Program} {w : World} {H H' : Hp} {h h' : Heap} {a : Addr} {o : HO}
theorem ObjOk.lt (x : ObjOk P w H h a o) : a < h.objs.size := by
  cases o with
  | lst xs => obtain ⟨_, _, _, _, e⟩ := x; exact Heap.lt_size e
  | tup xs => obtain ⟨_, _, _, p⟩ := x; exact p.lt
  | dK kvs => obtain ⟨_, _, _, _, o, _, _, e, _⟩ := x; exact Heap.lt_size e
  | dT kvs => obtain ⟨_, _, _, _, o, _, _, e, _⟩ := x; exact Heap.lt_size e
  | set S n => obtain ⟨o, _, _, _, e, _⟩ := x; exact Heap.lt_size e
  | ins C dx fs => obtain ⟨_, _, _, e, _⟩ := x; exact Heap.lt_size e
  | own y => obtain ⟨_, e⟩ := x; exact Heap.lt_size e
  | xd fs => obtain ⟨_, ⟨_, _, _, e, _⟩, _⟩ := x; exact Heap.lt_size e
  | rng lo hi => obtain ⟨_, _, _, e⟩ := x; exact Heap.lt_size e
  | frz ob u => obtain ⟨e, _⟩ := x; exact Heap.lt_size e
  | tbl ps => exact Heap.lt_size (show h.get? a = some _ from x)
  | met f y => exact Heap.lt_size (show h.get? a = some _ from x)
  | ext φ => obtain ⟨_, ⟨_, e⟩, _⟩ := x; exact Heap.lt_size e
theorem Paired.mapP {α β : Type} {F G : α → β → Prop} : ∀ {l₁ : List α} {l₂ : List β}, Paired F l₁ l₂ → (∀ a b, F a b → G a b) → Paired G l₁ l₂
  | _, _, .nil, _ => .nil
  | _, _, .cons r t, f => .cons (f _ _ r) (Paired.mapP t f)
theorem Paired.imp' {α β : Type} {F G : α → β → Prop} (f : ∀ a b, F a b → G a b) {l₁ : List α} {l₂ : List β} (r : Paired F l₁ l₂) : Paired G l₁ l₂ := Paired.mapP r f
/-- what an object's description leans on: its own object, its own dict, the tuples -/
theorem ObjOk.stay (x : ObjOk P w H h a o) (k : ∀ b u, (b = a ∨ H b = some (.own a)) → h.get? b = some u → h'.get? b = some u)
    (ho : ∀ b, H b = some (.own a) → H' b = some (.own a)) (ht : ∀ b xs, H b = some (.tup xs) → H' b = some (.tup xs)) : ObjOk P w H' h' a o := by
  induction o with
  | lst xs => obtain ⟨z, its, n, r, e⟩ := x; exact ⟨z, its, n, r, k _ _ (.inl rfl) e⟩
  | tup xs => obtain ⟨z, its, r, ob, e, c⟩ := x; exact ⟨z, its, r, ob, k _ _ (.inl rfl) e, c⟩
  | dK kvs => obtain ⟨z, y, vs, r, ob, es, ep, e, c⟩ := x; exact ⟨z, y, vs, r, ob, es, ep, k _ _ (.inl rfl) e, c⟩
  | dT kvs =>
    obtain ⟨z, y, xs, r, ob, es, ep, e, c⟩ := x
    exact ⟨z, y, xs, Paired.mapP r fun p q z => ⟨z.1, ht _ _ z.2.1, z.2.2⟩, ob, es, ep, k _ _ (.inl rfl) e, c⟩
  | set S n => obtain ⟨ob, es, ep, t, e, c⟩ := x; exact ⟨ob, es, ep, t, k _ _ (.inl rfl) e, c⟩
  | ins C dx fs =>
    obtain ⟨d, z, ne, e, mA, ⟨od, es, ep, e2, c⟩, r⟩ := x
    exact ⟨ho _ d, z, ne, k _ _ (.inl rfl) e, mA, ⟨od, es, ep, k _ _ (.inr d) e2, c⟩, r⟩
  | own y => obtain ⟨ob, e⟩ := x; exact ⟨ob, k _ _ (.inl rfl) e⟩
  | xd fs => obtain ⟨mA, ⟨od, es, ep, e, c⟩, r⟩ := x; exact ⟨mA, ⟨od, es, ep, k _ _ (.inl rfl) e, c⟩, r⟩
  | rng lo hi => obtain ⟨t, u, v, e⟩ := x; exact ⟨t, u, v, k _ _ (.inl rfl) e⟩
  | frz ob u ih => obtain ⟨e, q⟩ := x; exact ⟨k _ _ (.inl rfl) e, ih q⟩
  | tbl ps =>
    have e : h.get? a = some { cls := .none, data := .fields ps } := x
    show h'.get? a = some { cls := .none, data := .fields ps }
    exact k a _ (.inl rfl) e
  | met f y =>
    have e : h.get? a = some (PySem.W.methodObj (.ref f) (.ref y)) := x
    show h'.get? a = some (PySem.W.methodObj (.ref f) (.ref y))
    exact k a _ (.inl rfl) e
  | ext φ => obtain ⟨p, ⟨o, e⟩, st⟩ := x; exact ⟨st _ _ p fun o q => k _ _ (.inl rfl) q, ⟨o, k _ _ (.inl rfl) e⟩, st⟩
theorem HOk.lt (x : HOk P w H h) (e : H a = some o) : a < h.objs.size := (x a o e).lt
theorem HOk.fresh (x : HOk P w H h) (e : h.objs.size ≤ a) : H a = none := by
  cases q : H a with
  | none => rfl
  | some u => exact absurd (Nat.lt_of_lt_of_le (x.lt q) e) (Nat.lt_irrefl _)
/-- every object of the heap is kept -/
theorem HOk.kept (x : HOk P w H h) (k : ∀ b u, h.get? b = some u → h'.get? b = some u) : HOk P w H h' := fun a o e =>
  (x a o e).stay (fun b u _ q => k b u q) (fun _ q => q) fun _ _ q => q
/-- a new object is laid and tracked -/
theorem HOk.laid (x : HOk P w H h) (k : ∀ b u, h.get? b = some u → h'.get? b = some u) (hp : h.objs.size ≤ a) (new : ObjOk P w (upd H a o) h' a o) : HOk P w (upd H a o) h' := fun b u e => by
  have hn := x.fresh hp
  by_cases hb : b = a
  · subst hb; rw [upd_same] at e; cases e; exact new
  · rw [upd_ne hb] at e
    exact (x b u e).stay (fun c v _ q => k c v q) (fun c q => by rw [upd_ne (ne_of_none q hn)]; exact q) fun c xs q => by rw [upd_ne (ne_of_none q hn)]; exact q
end

/-- what may be read as u: it is u, or a known u -/
def Rd (H : Hp) (a : Addr) (u : HO) : Prop := H a = some u ∨ ∃ o, H a = some (.frz o u)
theorem Rd.of {H : Hp} {a : Addr} {u : HO} (h : H a = some u) : Rd H a u := .inl h
theorem Rd.ok {P : Program} {w : World} {H : Hp} {h : Heap} {a : Addr} {u : HO} (r : Rd H a u) (x : HOk P w H h) : ObjOk P w H h a u := by
  rcases r with r | ⟨o, r⟩
  · exact x a u r
  · obtain ⟨_, q⟩ := x a _ r
    exact q
/-- what may be written -/
def Mut : Option HO → Prop
  | some (.lst _) => True
  | some (.dK _) => True
  | some (.dT _) => True
  | some (.set _ _) => True
  | some (.ins _ _ _) => True
  | some (.ext _) => True
  | _ => False
section
variable {P : Program} {w : World} {H : Hp} {h h' : Heap} {x e : Addr} {o' : HO}
/-- the object at e is changed: x itself, or the dict of the instance x -/
theorem HOk.write (ok : HOk P w H h) (mu : Mut (H x)) (he : e = x ∨ H e = some (.own x)) (k : ∀ b u, b ≠ e → h.get? b = some u → h'.get? b = some u) (heo : ∃ u, h'.get? e = some u)
    (new : ObjOk P w (upd H x o') h' x o') : HOk P w (upd H x o') h' := fun b u q => by
  have nown : ∀ c y, H c = some (.own y) → c ≠ x := fun c y r z => by subst z; rw [r] at mu; exact mu
  have ntup : ∀ c xs, H c = some (.tup xs) → c ≠ x := fun c xs r z => by subst z; rw [r] at mu; exact mu
  by_cases hb : b = x
  · subst hb; rw [upd_same] at q; cases q; exact new
  · rw [upd_ne hb] at q
    by_cases hbe : b = e
    · have q' : H b = some (.own x) := by
        rcases he with z | z
        · exact absurd (hbe.trans z) hb
        · rw [hbe]; exact z
      rw [q] at q'; cases q'
      obtain ⟨v, hv⟩ := heo
      exact ⟨v, by rw [hbe]; exact hv⟩
    · refine (ok b u q).stay (fun c v hc r => k c v ?_ r) (fun c r => by rw [upd_ne (nown c b r)]; exact r) fun c xs r => by rw [upd_ne (ntup c xs r)]; exact r
      rcases hc with rfl | hc
      · exact hbe
      · rintro rfl
        rcases he with z | z
        · exact nown c b hc z
        · rw [hc] at z; cases z; exact hb rfl
end

/-! ### kept unless tracked; of the frames at fs (the callers') the slots may change (an exception that passes writes there); of the records at ex (iterators) nothing is said -/
structure Un (fs ex : List Addr) (H H' : Hp) (h h' : Heap) : Prop where
  keep : ∀ b o, h.get? b = some o → H b = none → b ∉ fs → b ∉ ex → h'.get? b = some o
  slot : ∀ b o, h.get? b = some o → H b = none → b ∈ fs → b ∉ ex → ∃ sl, h'.get? b = some { o with slots := sl }
  free : ∀ b o, h.get? b = some o → H b = none → b ∉ ex → H' b = none
  there : ∀ b o, h.get? b = some o → b ∉ ex → ∃ o', h'.get? b = some o'
  tups : ∀ b xs, H b = some (.tup xs) → H' b = some (.tup xs)
  frzs : ∀ b o u, H b = some (.frz o u) → H' b = some (.frz o u)
  tbls : ∀ b ps, H b = some (.tbl ps) → ∃ more, H' b = some (.tbl (ps ++ more))
section
variable {fs fs' ex ex' : List Addr} {H H1 H2 : Hp} {h h1 h2 h' : Heap} {a x e : Addr} {o : HO}
theorem Un.any (u : Un fs ex H H1 h h1) {b : Addr} {ob : Obj} (q : h.get? b = some ob) (n : H b = none) (hx : b ∉ ex) : ∃ sl, h1.get? b = some { ob with slots := sl } := by
  by_cases hb : b ∈ fs
  · exact u.slot b ob q n hb hx
  · exact ⟨ob.slots, u.keep b ob q n hb hx⟩
theorem Un.trans (a : Un fs ex H H1 h h1) (b : Un fs ex H1 H2 h1 h2) : Un fs ex H H2 h h2 where
  keep := fun c ob q n hc hx => b.keep c ob (a.keep c ob q n hc hx) (a.free c ob q n hx) hc hx
  slot := fun c ob q n hc hx => by
    obtain ⟨sl, e1⟩ := a.slot c ob q n hc hx
    obtain ⟨sl', e2⟩ := b.slot c _ e1 (a.free c ob q n hx) hc hx
    exact ⟨sl', e2⟩
  free := fun c ob q n hx => by
    obtain ⟨o', e1⟩ := a.there c ob q hx
    exact b.free c o' e1 (a.free c ob q n hx) hx
  there := fun c ob q hx => by
    obtain ⟨o', e1⟩ := a.there c ob q hx
    exact b.there c o' e1 hx
  tups := fun c xs q => b.tups c xs (a.tups c xs q)
  frzs := fun c ob xs q => b.frzs c ob xs (a.frzs c ob xs q)
  tbls := fun c ps q => by
    obtain ⟨m1, e1⟩ := a.tbls c ps q
    obtain ⟨m2, e2⟩ := b.tbls c _ e1
    exact ⟨m1 ++ m2, by rw [e2, Array.append_assoc]⟩
theorem Un.kept (k : ∀ b u, h.get? b = some u → h'.get? b = some u) : Un fs ex H H h h' :=
  ⟨fun b ob q _ _ _ => k b ob q, fun b ob q _ _ _ => ⟨ob.slots, k b ob q⟩, fun _ _ _ n _ => n, fun b ob q _ => ⟨ob, k b ob q⟩, fun _ _ q => q, fun _ _ _ q => q, fun _ ps q => ⟨#[], by rw [q]; simp⟩⟩
theorem Un.refl : Un fs ex H H h h := Un.kept fun _ _ q => q
theorem Un.laid (k : ∀ b u, h.get? b = some u → h'.get? b = some u) (hp : h.objs.size ≤ a) (hn : H a = none) : Un fs ex H (upd H a o) h h' where
  keep := fun b u q _ _ _ => k b u q
  slot := fun b u q _ _ _ => ⟨u.slots, k b u q⟩
  free := fun b u q n _ => by rw [upd_ne (Nat.ne_of_lt (Nat.lt_of_lt_of_le (Heap.lt_size q) hp))]; exact n
  there := fun b u q _ => ⟨u, k b u q⟩
  tups := fun b xs q => by rw [upd_ne (ne_of_none q hn)]; exact q
  frzs := fun b u xs q => by rw [upd_ne (ne_of_none q hn)]; exact q
  tbls := fun b ps q => ⟨#[], by rw [upd_ne (ne_of_none q hn), q]; simp⟩
theorem Un.write (mu : Mut (H x)) (he : e = x ∨ H e = some (.own x)) (k : ∀ b u, b ≠ e → h.get? b = some u → h'.get? b = some u) (heo : ∃ u, h'.get? e = some u) : Un fs ex H (upd H x o) h h' := by
  have hx : ∀ b, H b = none → b ≠ x := fun b n z => by subst z; rw [n] at mu; exact mu
  have hb : ∀ b, H b = none → b ≠ e := fun b n z => by
    subst z
    rcases he with r | r
    · exact hx b n r
    · rw [n] at r; cases r
  have hm : ∀ b u, H b = some u → ¬ Mut (some u) → b ≠ x := fun b u q nm z => by subst z; rw [q] at mu; exact nm mu
  refine ⟨fun b u q n _ _ => k b u (hb b n) q, fun b u q n _ _ => ⟨u.slots, k b u (hb b n) q⟩, fun b u q n _ => by rw [upd_ne (hx b n)]; exact n, fun b u q _ => ?_,
    fun b xs q => by rw [upd_ne (hm b _ q fun z => z)]; exact q, fun b u xs q => by rw [upd_ne (hm b _ q fun z => z)]; exact q, fun b ps q => ⟨#[], by rw [upd_ne (hm b _ q fun z => z), q]; simp⟩⟩
  by_cases hbe : b = e
  · subst hbe; exact heo
  · exact ⟨u, k b u hbe q⟩
theorem Un.mono (u : Un fs ex H H1 h h1) (hs : ∀ b ∈ fs, b ∈ fs') (hx : ∀ b ∈ ex, b ∈ ex') : Un fs' ex' H H1 h h1 :=
  ⟨fun b ob q n hb he => u.keep b ob q n (fun z => hb (hs b z)) fun z => he (hx b z), fun _ _ q n _ he => u.any q n fun z => he (hx _ z), fun b ob q n he => u.free b ob q n fun z => he (hx b z), fun b ob q he => u.there b ob q fun z => he (hx b z), u.tups, u.frzs, u.tbls⟩
end

/-! ### the heap without what is tracked -/
def trk (h : Heap) (H : Hp) : List Addr := (List.range h.objs.size).filter fun a => (H a).isSome
def hidT (h : Heap) (H : Hp) : Heap := PySem.W.hideAll h (trk h H)
theorem hidT_size (h : Heap) (H : Hp) : (hidT h H).objs.size = h.objs.size := PySem.W.hideAll_size _ _
theorem hidT_get {h : Heap} {H : Hp} {b : Addr} {o : Obj} (e : h.get? b = some o) (n : H b = none) : (hidT h H).get? b = some o :=
  PySem.W.hideAll_get _ e fun hm => by
    have q : (H b).isSome = true := (List.mem_filter.mp hm).2
    rw [n] at q; simp at q
theorem of_hidT {h : Heap} {H : Hp} {b : Addr} {o : Obj} (e : (hidT h H).get? b = some o) : h.get? b = some o ∧ H b = none := by
  have e' : h.get? b = some o := PySem.W.of_hideAll (trk h H) e
  refine ⟨e', ?_⟩
  cases q : H b with
  | none => rfl
  | some x =>
    have hm : b ∈ trk h H := List.mem_filter.mpr ⟨List.mem_range.mpr (Heap.lt_size e'), by simp [q]⟩
    have z : (hidT h H).get? b = none := PySem.W.hideAll_none (trk h H) hm
    rw [z] at e; cases e

/-! ### OpenK's ledger, filled with every new object but one -/
def allNews (g h : Heap) (L : Addr) : List (Addr × Obj) := (List.range h.objs.size).filterMap fun a => if a = L ∨ (g.get? a).isSome = true then none else (h.get? a).map fun o => (a, o)
theorem mem_allNews {g h : Heap} {L a : Addr} {o : Obj} (h1 : a ≠ L) (h2 : g.get? a = none) (h3 : h.get? a = some o) : (a, o) ∈ allNews g h L :=
  List.mem_filterMap.mpr ⟨a, List.mem_range.mpr (Heap.lt_size h3), by simp [h1, h2, h3]⟩
theorem of_mem_allNews {g h : Heap} {L : Addr} {p : Addr × Obj} (hp : p ∈ allNews g h L) : p.1 ≠ L ∧ g.get? p.1 = none ∧ h.get? p.1 = some p.2 := by
  obtain ⟨b, _, e⟩ := List.mem_filterMap.mp hp
  split at e
  · cases e
  · rename_i hn
    cases q : h.get? b with
    | none => rw [q] at e; simp at e
    | some u =>
      rw [q] at e
      simp only [Option.map_some, Option.some.injEq] at e
      subst e
      refine ⟨fun z => hn (.inl z), ?_, q⟩
      show g.get? b = none
      cases r : g.get? b with
      | none => rfl
      | some v => exact (hn (.inr (by simp [r]))).elim
def rest (g h : Heap) (L d : Addr) : List (Addr × Obj) := (allNews g h L).filter fun p => decide (p.1 ≠ d)
theorem rest_ne {g h : Heap} {L d : Addr} : ∀ p ∈ rest g h L d, p.1 ≠ d := fun p hp => of_decide_eq_true (List.mem_filter.mp hp).2
theorem mem_rest {g h : Heap} {L d a : Addr} {o : Obj} (h1 : a ≠ L) (h2 : g.get? a = none) (h3 : h.get? a = some o) (h4 : a ≠ d) : (a, o) ∈ rest g h L d :=
  List.mem_filter.mpr ⟨mem_allNews h1 h2 h3, decide_eq_true h4⟩
theorem news_all {g h : Heap} {L : Addr} : News g L h (allNews g h L) := fun p hp => let ⟨a, b, c⟩ := of_mem_allNews hp; ⟨c, a, b⟩
theorem news_at {g h : Heap} {L d : Addr} {o : Obj} (h1 : d ≠ L) (h2 : g.get? d = none) (h3 : h.get? d = some o) : News g L h ((d, o) :: rest g h L d) := fun p hp => by
  rcases List.mem_cons.mp hp with rfl | hp
  · exact ⟨h3, h1, h2⟩
  · exact news_all p (List.mem_filter.mp hp).1
/-- behind a rule that changed d alone: all else but the frame is kept -/
theorem kept_of_news {g h h' : Heap} {L d : Addr} {m : Str → Option Value} (k : ∀ b o, g.get? b = some o → h.get? b = some o) (F : Fr g L h' m) (N : News g L h' (rest g h L d)) :
    ∀ b o, b ≠ L → b ≠ d → h.get? b = some o → h'.get? b = some o := fun b o h1 h2 e => by
  cases q : g.get? b with
  | some u =>
    have := k b u q
    rw [e] at this; cases this
    exact F.keep b _ q
  | none => exact (N (b, o) (mem_rest h1 q e h2)).1
end L2

namespace L2
open PySem PySem.Spec PyProof.Rows

/-- the module's facts, over the base: the heap at the law's entry without what is tracked there -/
structure Mod (K : PySem.W.Frag) (mg : Str → Option Value) (base : Heap) : Prop where
  kin : K.In base
  glob : base.Ns mainGlobals mg
  blt : ∃ mb, base.Ns builtinsNs mb ∧ ∀ x : Str, x ≠ "__name__" → mb x = bootBuiltins x
  nolimit : base.NoLimit

/-- the context: a def's body (or a comprehension's block) running. base: fixed through the whole law; s₀, H₀: the entry; outer: the frames whose slots others may change (a def's callers); stack: all frames that run;
   ex: iterators that were made ahead of the entry and are walked here (a comprehension's); fn: the names whose cells were made at the entry (a def: all; a comprehension's block: its own); calm: not within an except suite; pn: pins that every state bears; xe: what is wanted of an exception that leaves the code -/
structure Cx where
  prog : Program
  w : World
  K : PySem.W.Frag
  mg : Str → Option Value
  base : Heap
  A : Around
  N : List Str
  s₀ : Shared
  H₀ : Hp
  env : Env
  outer : List Env
  stack : List Env
  ex : List Addr
  fn : Str → Bool
  calm : Bool
  pn : List (Addr × Obj)
  xe : Value → Shared → Prop
/-- the callers' frames -/
def frs (l : List Env) : List Addr := l.filterMap (·.frame)
abbrev Cx.fs (X : Cx) : List Addr := frs X.outer

def Vis (sc : Scope) (x : Str) : Prop := sc.names.lookup x = some .local ∨ sc.names.lookup x = some .cell ∨ sc.names.lookup x = some .free
def Loc (sc : Scope) (x : Str) : Prop := sc.names.lookup x = some .local ∨ sc.names.lookup x = some .cell
def Look (env : Env) (h : Heap) (m : Str → Option Value) (x : Str) (u : Value) : Prop :=
  (env.kindOf x = some .local ∧ m x = some u) ∨ ((env.kindOf x = some .cell ∨ env.kindOf x = some .free) ∧ ∃ c, env.cells.lookup x = some c ∧ h.IsCell c (some u))

structure Cx.Ok (X : Cx) : Prop where
  mod : Mod X.K X.mg X.base
  kind : X.env.scope.kind = .function
  glob : X.env.globals = mainGlobals
  blt : X.env.builtins = builtinsNs
  above : X.s₀.heap.objs.size ≤ X.env.locals
  inj : ∀ x y c, X.env.cells.lookup x = some c → X.env.cells.lookup y = some c → x = y
  has : ∀ x, (X.env.kindOf x = some .cell ∨ X.env.kindOf x = some .free) → ∃ c, X.env.cells.lookup x = some c
  cab : ∀ x c, X.fn x = true → X.env.cells.lookup x = some c → X.s₀.heap.objs.size ≤ c
  hd : X.calm = true → X.A.handled = none
  frames : X.A.frames = some X.stack
  stk : X.stack = X.outer ∨ (X.stack = X.env :: X.outer ∧ X.env.frame = some X.env.locals)
  exf : ∀ b ∈ X.ex, b ≠ X.env.locals ∧ ∀ x c, X.env.cells.lookup x = some c → c ≠ b
  bs : ∀ b o, X.base.get? b = some o → X.s₀.heap.get? b = some o ∧ X.H₀ b = none
  bsz : X.base.objs.size ≤ X.s₀.heap.objs.size
  noex : ∀ b o, X.base.get? b = some o → b ∉ X.ex
  exfs : ∀ b ∈ X.ex, b ∉ X.fs
  funs : X.s₀.heap.FunFrames X.base X.outer
  frf : ∀ b ∈ X.fs, X.H₀ b = none

structure Inv (X : Cx) (pins : List (Addr × Obj)) (σ : List (Option V)) (H : Hp) (s : Shared) : Prop where
  ok : X.Ok
  os : s.os = X.s₀.os
  bare : AllBare s.gens
  base : Un X.fs X.ex X.H₀ H X.s₀.heap s.heap
  loc : ∃ m, s.heap.Ns X.env.locals m ∧ ∀ (i : Nat) (x : Str) (v : V), X.N[i]? = some x → σ[i]? = some (some v) → Vis X.env.scope x → ∃ u, RelV v u ∧ Look X.env s.heap m x u
  cell : ∀ x c, X.env.cells.lookup x = some c → ∃ v, s.heap.IsCell c v
  free : H X.env.locals = none
  freeC : ∀ x c, X.env.cells.lookup x = some c → H c = none
  pin : ∀ p ∈ X.pn ++ pins, s.heap.get? p.1 = some p.2 ∧ H p.1 = none ∧ p.1 ≠ X.env.locals ∧ p.1 ∉ X.fs ∧ ∀ v, p.2.data ≠ .cell v
  hok : HOk X.prog X.w H s.heap
  len : σ.length = X.N.length

section
variable {X : Cx} {pins : List (Addr × Obj)} {σ : List (Option V)} {H H' : Hp} {s : Shared} {h' : Heap}

theorem Cx.Ok.nofr (ok : X.Ok) {b : Addr} {o : Obj} (e : X.base.get? b = some o) : b ∉ X.fs := fun hb => by
  have := (ok.funs.mem hb).1
  rw [e] at this; cases this
theorem Inv.bs (I : Inv X pins σ H s) : ∀ b o, X.base.get? b = some o → s.heap.get? b = some o ∧ H b = none := fun b o e =>
  ⟨I.base.keep b o (I.ok.bs b o e).1 (I.ok.bs b o e).2 (I.ok.nofr e) (I.ok.noex b o e), I.base.free b o (I.ok.bs b o e).1 (I.ok.bs b o e).2 (I.ok.noex b o e)⟩
theorem Inv.bk (I : Inv X pins σ H s) : ∀ b o, X.base.get? b = some o → s.heap.get? b = some o := fun b o e => (I.bs b o e).1
theorem Inv.mod (I : Inv X pins σ H s) : Mod X.K X.mg X.base := I.ok.mod
theorem Inv.kIn (I : Inv X pins σ H s) : X.K.In s.heap := I.ok.mod.kin.keeps I.bk
theorem Inv.nolimit (I : Inv X pins σ H s) : s.heap.NoLimit := I.ok.mod.nolimit.keeps I.bk
/-- the frame over the base: for OpenK's rules (K.In X.base is I.mod.kin) -/
theorem Inv.fr (I : Inv X pins σ H s) : ∃ m, Fr X.base X.env.locals s.heap m :=
  let ⟨m, hn, _⟩ := I.loc
  ⟨m, hn, I.bk, Nat.le_trans I.ok.bsz I.ok.above⟩
theorem Inv.lt (I : Inv X pins σ H s) : X.env.locals < s.heap.objs.size := let ⟨_, hn, _⟩ := I.loc; hn.lt
theorem Inv.sz (I : Inv X pins σ H s) : X.s₀.heap.objs.size ≤ s.heap.objs.size := Nat.le_trans I.ok.above (Nat.le_of_lt I.lt)
theorem Inv.nofs (I : Inv X pins σ H s) {a : Addr} (h : s.heap.objs.size ≤ a) : a ∉ X.fs := fun hb => by
  obtain ⟨_, o, ho, _⟩ := I.ok.funs.mem hb
  exact absurd (Nat.lt_of_lt_of_le (Heap.lt_size ho) (Nat.le_trans I.sz h)) (Nat.lt_irrefl _)
theorem Inv.cne (I : Inv X pins σ H s) : ∀ x c, X.env.cells.lookup x = some c → c ≠ X.env.locals := fun x c e z => by
  obtain ⟨v, o, ho, hd⟩ := I.cell x c e
  obtain ⟨m, ⟨o', es, ep, ho', hd', _⟩, _⟩ := I.loc
  rw [z, ho'] at ho; cases ho; rw [hd'] at hd; cases hd
theorem Inv.funs (I : Inv X pins σ H s) : s.heap.FunFrames X.base X.outer := by
  have all : ∀ (l : List Env), (∀ b ∈ frs l, b ∈ X.fs) → X.s₀.heap.FunFrames X.base l → s.heap.FunFrames X.base l := by
    intro l
    induction l with
    | nil => intro _ _; trivial
    | cons env r ih =>
      intro hs hl
      obtain ⟨hk, ⟨L, o, hf, hn, ho, hd⟩, hr⟩ := hl
      have hL : L ∈ X.fs := hs L (by unfold frs; rw [List.filterMap_cons, hf]; exact List.mem_cons_self)
      obtain ⟨sl, e⟩ := I.base.slot L o ho (I.ok.frf L hL) hL fun z => I.ok.exfs L z hL
      exact ⟨hk, ⟨L, _, hf, hn, e, hd⟩, ih (fun b hb => hs b (by unfold frs; rw [List.filterMap_cons, hf]; exact List.mem_cons_of_mem _ hb)) hr⟩
  exact all X.outer (fun _ hb => hb) I.ok.funs

/-- the frames that run, for a call -/
theorem Inv.stack (I : Inv X pins σ H s) : s.heap.FunFrames X.base X.stack := by
  rcases I.ok.stk with e | ⟨e, hf⟩
  · rw [e]; exact I.funs
  · rw [e]
    obtain ⟨m, hn, _⟩ := I.loc
    refine .cons (by rw [I.ok.kind]; decide) hf hn ?_ I.funs
    exact Heap.get?_none_of_le (Nat.le_trans I.ok.bsz I.ok.above)
theorem Inv.stkSub (I : Inv X pins σ H s) : ∀ b ∈ frs X.stack, b ∈ X.env.locals :: X.fs := fun b hb => by
  rcases I.ok.stk with e | ⟨e, hf⟩
  · rw [e] at hb; exact List.mem_cons_of_mem _ hb
  · rw [e] at hb
    unfold frs at hb
    rw [List.filterMap_cons, hf] at hb
    exact hb
theorem Inv.stkFree (I : Inv X pins σ H s) : ∀ b ∈ frs X.stack, H b = none := fun b hb => by
  rcases List.mem_cons.mp (I.stkSub b hb) with e | hb
  · rw [e]; exact I.free
  · obtain ⟨_, o, ho, _⟩ := I.ok.funs.mem hb
    exact I.base.free b o ho (I.ok.frf b hb) fun z => I.ok.exfs b z hb

/-- THE STEP: the untracked objects but the frame and the records at ch are kept (the callers' frames up to slots), the frame's map is kept, the new abstract heap is held -/
theorem Inv.step {g' : Array GenState} {t' : Nat} {d' : Drawn} {ch : List Addr} (I : Inv X pins σ H s)
    (hch : ∀ b ∈ ch, (b ∈ X.ex ∨ X.s₀.heap.objs.size ≤ b) ∧ b ≠ X.env.locals ∧ (∀ x c, X.env.cells.lookup x = some c → c ≠ b) ∧ ∀ p ∈ X.pn ++ pins, p.1 ≠ b)
    (keep : ∀ b o, b ≠ X.env.locals → b ∉ X.fs → b ∉ ch → s.heap.get? b = some o → H b = none → h'.get? b = some o)
    (slot : ∀ b o, b ≠ X.env.locals → b ∈ X.fs → b ∉ ch → s.heap.get? b = some o → H b = none → ∃ sl, h'.get? b = some { o with slots := sl }) (free : ∀ b o, b ∉ ch → s.heap.get? b = some o → H b = none → H' b = none)
    (there : ∀ b o, b ∉ ch → s.heap.get? b = some o → ∃ o', h'.get? b = some o')
    (tups : ∀ b xs, H b = some (.tup xs) → H' b = some (.tup xs)) (frzs : ∀ b o u, H b = some (.frz o u) → H' b = some (.frz o u)) (tbls : ∀ b ps, H b = some (.tbl ps) → ∃ more, H' b = some (.tbl (ps ++ more)))
    (ns : ∀ m, s.heap.Ns X.env.locals m → h'.Ns X.env.locals m) (hok : HOk X.prog X.w H' h') (hg : AllBare g') :
    Inv X pins σ H' { s with heap := h', gens := g', drawn := d', toks := t' } := by
  have neL : ∀ b o, X.s₀.heap.get? b = some o → b ≠ X.env.locals := fun b o e => Nat.ne_of_lt (Nat.lt_of_lt_of_le (Heap.lt_size e) I.ok.above)
  have neC : ∀ b o, X.s₀.heap.get? b = some o → b ∉ X.ex → b ∉ ch := fun b o e hx hb => by
    rcases (hch b hb).1 with z | z
    · exact hx z
    · exact absurd (Nat.lt_of_lt_of_le (Heap.lt_size e) z) (Nat.lt_irrefl _)
  have cellK : ∀ x c, X.env.cells.lookup x = some c → ∀ v, s.heap.IsCell c v → h'.IsCell c v := fun x c e v ⟨o, ho, hd⟩ => by
    have nch : c ∉ ch := fun z => (hch c z).2.2.1 x c e rfl
    by_cases hc : c ∈ X.fs
    · obtain ⟨sl, q⟩ := slot c o (I.cne x c e) hc nch ho (I.freeC x c e)
      exact ⟨_, q, hd⟩
    · exact ⟨o, keep c o (I.cne x c e) hc nch ho (I.freeC x c e), hd⟩
  refine ⟨I.ok, I.os, hg, ⟨fun b o e n hb hx => ?_, fun b o e n hb hx => ?_, fun b o e n hx => ?_, fun b o e hx => ?_, fun b xs e => tups b xs (I.base.tups b xs e), fun b o xs e => frzs b o xs (I.base.frzs b o xs e), fun b ps e => ?_⟩, ?_, fun x c e => ?_, ?_, fun x c e => ?_, fun p hp => ?_, hok, I.len⟩
  · exact keep b o (neL b o e) hb (neC b o e hx) (I.base.keep b o e n hb hx) (I.base.free b o e n hx)
  · obtain ⟨sl, e1⟩ := I.base.slot b o e n hb hx
    obtain ⟨sl', e2⟩ := slot b _ (neL b o e) hb (neC b o e hx) e1 (I.base.free b o e n hx)
    exact ⟨sl', e2⟩
  · obtain ⟨o', e1⟩ := I.base.there b o e hx
    exact free b o' (neC b o e hx) e1 (I.base.free b o e n hx)
  · obtain ⟨o', e1⟩ := I.base.there b o e hx
    exact there b o' (neC b o e hx) e1
  · obtain ⟨m1, e1⟩ := I.base.tbls b ps e
    obtain ⟨m2, e2⟩ := tbls b _ e1
    exact ⟨m1 ++ m2, by rw [e2, Array.append_assoc]⟩
  · obtain ⟨m, hn, hl⟩ := I.loc
    refine ⟨m, ns m hn, fun i x v e1 e2 e3 => ?_⟩
    obtain ⟨u, r, l⟩ := hl i x v e1 e2 e3
    refine ⟨u, r, ?_⟩
    rcases l with l | ⟨k, c, e, z⟩
    · exact .inl l
    · exact .inr ⟨k, c, e, cellK x c e _ z⟩
  · obtain ⟨v, z⟩ := I.cell x c e
    exact ⟨v, cellK x c e v z⟩
  · obtain ⟨m, ⟨o, _, _, ho, _⟩, _⟩ := I.loc
    exact free _ o (fun z => (hch _ z).2.1 rfl) ho I.free
  · obtain ⟨v, o, ho, hd⟩ := I.cell x c e
    exact free c o (fun z => (hch c z).2.2.1 x c e rfl) ho (I.freeC x c e)
  · obtain ⟨e, n, ne, nf, d⟩ := I.pin p hp
    have nch : p.1 ∉ ch := fun z => (hch p.1 z).2.2.2 p hp rfl
    exact ⟨keep p.1 p.2 ne nf nch e n, free p.1 p.2 nch e n, ne, nf, d⟩
/-- .. where the frame's own object is kept too -/
theorem Inv.un {t' : Nat} (I : Inv X pins σ H s) (u : Un X.fs [] H H' s.heap h') (hok : HOk X.prog X.w H' h') : Inv X pins σ H' { s with heap := h', toks := t' } := by
  obtain ⟨m, ⟨o, es, ep, ho, r⟩, _⟩ := id I.loc
  obtain ⟨sl, hL⟩ := u.any ho I.free (by simp)
  exact I.step (g' := s.gens) (d' := s.drawn) (ch := []) (fun _ z => nomatch z) (fun b o _ hb _ e n => u.keep b o e n hb (by simp)) (fun b o _ hb _ e n => u.slot b o e n hb (by simp)) (fun b o _ e n => u.free b o e n (by simp)) (fun b o _ e => u.there b o e (by simp)) u.tups u.frzs u.tbls (fun m' hm => by
    obtain ⟨o', es', ep', ho', r'⟩ := hm
    rw [ho] at ho'; cases ho'
    exact ⟨_, es', ep', hL, r'⟩) hok I.bare
/-- behind a call (or a comprehension's block): the slots of this frame may have changed too, the records at ch may have turned -/
theorem Inv.call {g' : Array GenState} {t' : Nat} {d' : Drawn} {ch : List Addr} (I : Inv X pins σ H s) (u : Un (frs X.stack) ch H H' s.heap h') (hok : HOk X.prog X.w H' h') (hg : AllBare g')
    (hch : ∀ b ∈ ch, (b ∈ X.ex ∨ X.s₀.heap.objs.size ≤ b) ∧ b ≠ X.env.locals ∧ (∀ x c, X.env.cells.lookup x = some c → c ≠ b) ∧ ∀ p ∈ X.pn ++ pins, p.1 ≠ b) :
    Inv X pins σ H' { s with heap := h', gens := g', drawn := d', toks := t' } := by
  obtain ⟨m, ⟨o, es, ep, ho, r⟩, _⟩ := id I.loc
  obtain ⟨sl, hL⟩ := u.any ho I.free fun z => (hch _ z).2.1 rfl
  exact I.step (ch := ch) hch (fun b o hL hb hc e n => u.keep b o e n (fun z => (List.mem_cons.mp (I.stkSub b z)).elim hL hb) hc) (fun b o _ _ hc e n => u.any e n hc) (fun b o hc e n => u.free b o e n hc) (fun b o hc e => u.there b o e hc) u.tups u.frzs u.tbls (fun m' hm => by
    obtain ⟨o', es', ep', ho', r'⟩ := hm
    rw [ho] at ho'; cases ho'
    exact ⟨_, es', ep', hL, r'⟩) hok hg
/-- an untracked record of ours (an iterator) has turned -/
theorem Inv.turned {t' : Nat} {it : Addr} (I : Inv X pins σ H s) (k : ∀ b o, b ≠ it → s.heap.get? b = some o → h'.get? b = some o) (hn : H it = none) (hL : it ≠ X.env.locals)
    (h1 : it ∈ X.ex ∨ X.s₀.heap.objs.size ≤ it) (h2 : ∀ x c, X.env.cells.lookup x = some c → c ≠ it) (h3 : ∀ p ∈ X.pn ++ pins, p.1 ≠ it) : Inv X pins σ H { s with heap := h', toks := t' } := by
  have nit : ∀ b u, H b = some u → b ≠ it := fun b u e z => by rw [z, hn] at e; cases e
  refine I.step (g' := s.gens) (d' := s.drawn) (ch := [it]) (fun b hb => ?_) (fun b o _ _ hc e _ => k b o (fun z => hc (by simp [z])) e) (fun b o _ _ hc e _ => ⟨o.slots, k b o (fun z => hc (by simp [z])) e⟩) (fun _ _ _ _ n => n)
    (fun b o hc e => ⟨o, k b o (fun z => hc (by simp [z])) e⟩) (fun _ _ e => e) (fun _ _ _ e => e) (fun b ps e => ⟨#[], by rw [e]; simp⟩) (fun m hm => ?_) (fun b u e => ?_) I.bare
  · have e : b = it := by simpa using hb
    subst e
    exact ⟨h1, hL, h2, h3⟩
  · obtain ⟨o, es, ep, ho, r⟩ := hm
    exact ⟨o, es, ep, k _ o (Ne.symm hL) ho, r⟩
  · refine (I.hok b u e).stay (fun c v hc q => k c v ?_ q) (fun _ q => q) fun _ _ q => q
    rcases hc with z | z
    · rw [z]; exact nit b u e
    · exact nit c _ z
theorem Inv.tok (I : Inv X pins σ H s) (t : Nat) : Inv X pins σ H { s with toks := t } := I.un (h' := s.heap) (t' := t) Un.refl I.hok
/-- all objects kept -/
theorem Inv.kept {t' : Nat} (I : Inv X pins σ H s) (k : ∀ b u, s.heap.get? b = some u → h'.get? b = some u) : Inv X pins σ H { s with heap := h', toks := t' } := I.un (Un.kept k) (I.hok.kept k)
/-- a new object laid and tracked -/
theorem Inv.laid {a : Addr} {o : HO} {t' : Nat} (I : Inv X pins σ H s) (k : ∀ b u, s.heap.get? b = some u → h'.get? b = some u) (hp : s.heap.objs.size ≤ a) (new : ObjOk X.prog X.w (upd H a o) h' a o) :
    Inv X pins σ (upd H a o) { s with heap := h', toks := t' } := I.un (Un.laid k hp (I.hok.fresh hp)) (I.hok.laid k hp new)
/-- an object written -/
theorem Inv.write {x e : Addr} {o : HO} {t' : Nat} (I : Inv X pins σ H s) (mu : Mut (H x)) (he : e = x ∨ H e = some (.own x)) (k : ∀ b u, b ≠ e → s.heap.get? b = some u → h'.get? b = some u) (heo : ∃ u, h'.get? e = some u)
    (new : ObjOk X.prog X.w (upd H x o) h' x o) : Inv X pins σ (upd H x o) { s with heap := h', toks := t' } := I.un (Un.write mu he k heo) (I.hok.write mu he k heo new)
/-- forgetting slots, pins -/
theorem Inv.weak {σ' : List (Option V)} (I : Inv X pins σ H s) (hl : σ'.length = σ.length) (w : ∀ (i : Nat) v, σ'[i]? = some (some v) → σ[i]? = some (some v)) : Inv X pins σ' H s :=
  ⟨I.ok, I.os, I.bare, I.base, let ⟨m, hn, hl'⟩ := I.loc; ⟨m, hn, fun i x v e1 e2 e3 => hl' i x v e1 (w i v e2) e3⟩, I.cell, I.free, I.freeC, I.pin, I.hok, hl.trans I.len⟩
theorem Inv.pins_of {pins' : List (Addr × Obj)} (I : Inv X pins σ H s) (h : ∀ p ∈ pins', s.heap.get? p.1 = some p.2 ∧ H p.1 = none ∧ p.1 ≠ X.env.locals ∧ p.1 ∉ X.fs ∧ ∀ v, p.2.data ≠ .cell v) : Inv X pins' σ H s :=
  ⟨I.ok, I.os, I.bare, I.base, I.loc, I.cell, I.free, I.freeC, fun p hp => (List.mem_append.mp hp).elim (fun z => I.pin p (List.mem_append_left _ z)) (h p), I.hok, I.len⟩

theorem nodup_ix {N : List Str} (hN : N.Nodup) {i j : Nat} {x : Str} (a : N[i]? = some x) (b : N[j]? = some x) : i = j := by
  obtain ⟨h1, e1⟩ := List.getElem?_eq_some_iff.mp a
  obtain ⟨h2, e2⟩ := List.getElem?_eq_some_iff.mp b
  exact (List.getElem_inj hN).mp (e1.trans e2.symm)

/-- a name is stored; what changed -/
theorem store_ok2 {M : Model} {A : Around} {E : Value → Shared → Prop} {i : Nat} {x : Str} {v : V} {u : Value} {Q : Unit → Shared → Prop} (I : Inv X pins σ H s) (hN : X.N.Nodup) (hi : X.N[i]? = some x) (hx : Loc X.env.scope x) (r : RelV v u)
    (h : ∀ s', Inv X pins (σ.set i (some v)) H s' → (∃ a, Heap.SameBut a s.heap s'.heap ∧ (a = X.env.locals ∨ X.env.cells.lookup x = some a)) → Q () s') (hf : X.fn x = true ∨ X.env.scope.names.lookup x = some .local := by first | exact .inl rfl | exact .inr rfl | assumption) : wpAny M A (storeName X.env x u) Q E s := by
  obtain ⟨m, hn, hl⟩ := id I.loc
  have hcls : (X.env.scope.kind == .class || (X.env.scope.kind == .module && X.env.locals != X.env.globals)) = false := by rw [I.ok.kind]; rfl
  have hiσ : i < σ.length := by rw [I.len]; exact (List.getElem?_eq_some_iff.mp hi).1
  have cne := I.cne
  have tracked : ∀ {a : Addr} {h' : Heap}, (∃ o, s.heap.get? a = some o ∧ H a = none) → Heap.SameBut a s.heap h' → HOk X.prog X.w H h' := fun {a h'} ha hs b ob e => by
    obtain ⟨_, _, hfree⟩ := ha
    refine (I.hok b ob e).stay (fun c w' hc q => (hs.2 c ?_).trans q) (fun _ q => q) fun _ _ q => q
    rintro rfl
    rcases hc with rfl | hc
    · rw [hfree] at e; cases e
    · rw [hfree] at hc; cases hc
  rcases hx with hk | hk
  · refine wpAny_storeName_local hk hn (fun h' hn' hs => ?_) hcls
    obtain ⟨oL, _, _, hoL, _⟩ := id hn
    refine h _ ⟨I.ok, I.os, I.bare, ⟨fun b o e n hb hx => ?_, fun b o e n hb hx => ?_, I.base.free, fun b o e hx => ?_, I.base.tups, I.base.frzs, I.base.tbls⟩, ⟨_, hn', fun j y v' e1 e2 e3 => ?_⟩, fun y c e => ?_, I.free, I.freeC, fun p hp => ?_, tracked ⟨oL, hoL, I.free⟩ hs, by simpa using I.len⟩ ⟨_, hs, .inl rfl⟩
    · exact (hs.2 b (Nat.ne_of_lt (Nat.lt_of_lt_of_le (Heap.lt_size e) I.ok.above))).trans (I.base.keep b o e n hb hx)
    · obtain ⟨sl, e1⟩ := I.base.slot b o e n hb hx
      exact ⟨sl, (hs.2 b (Nat.ne_of_lt (Nat.lt_of_lt_of_le (Heap.lt_size e) I.ok.above))).trans e1⟩
    · obtain ⟨o', e1⟩ := I.base.there b o e hx
      exact ⟨o', (hs.2 b (Nat.ne_of_lt (Nat.lt_of_lt_of_le (Heap.lt_size e) I.ok.above))).trans e1⟩
    · by_cases hj : j = i
      · subst hj
        rw [hi] at e1; cases e1
        rw [List.getElem?_set_self hiσ] at e2
        cases e2
        exact ⟨u, r, .inl ⟨hk, by simp⟩⟩
      · rw [List.getElem?_set_ne (Ne.symm hj)] at e2
        obtain ⟨u', r', q⟩ := hl j y v' e1 e2 e3
        refine ⟨u', r', ?_⟩
        rcases q with ⟨k, e⟩ | ⟨k, c, e, z⟩
        · refine .inl ⟨k, ?_⟩
          have : y ≠ x := fun e => hj (nodup_ix hN e1 (e ▸ hi))
          simp [this, e]
        · exact .inr ⟨k, c, e, z.sameBut hs (cne y c e)⟩
    · obtain ⟨w', z⟩ := I.cell y c e
      exact ⟨w', z.sameBut hs (cne y c e)⟩
    · obtain ⟨e, n, ne, nf, d⟩ := I.pin p hp
      exact ⟨(hs.2 p.1 ne).trans e, n, ne, nf, d⟩
  · have hfn : X.fn x = true := by
      rcases hf with z | z
      · exact z
      · rw [z] at hk; cases hk
    obtain ⟨c, hc⟩ := I.ok.has x (.inl hk)
    obtain ⟨w', z⟩ := I.cell x c hc
    refine wpAny_storeName_cell I.ok.kind hk hc z (fun h' hc' hs => ?_)
    obtain ⟨oc, hoc, hocd⟩ := id z
    refine h { s with heap := h' } ⟨I.ok, I.os, I.bare, ⟨fun b o e n hb hx => ?_, fun b o e n hb hx => ?_, I.base.free, fun b o e hx => ?_, I.base.tups, I.base.frzs, I.base.tbls⟩, ⟨m, hn.sameBut hs (Ne.symm (cne x c hc)), fun j y v' e1 e2 e3 => ?_⟩, fun y c' e => ?_, I.free, I.freeC, fun p hp => ?_, tracked ⟨oc, hoc, I.freeC x c hc⟩ hs, by simpa using I.len⟩ ⟨c, hs, .inr hc⟩
    · exact (hs.2 b (Nat.ne_of_lt (Nat.lt_of_lt_of_le (Heap.lt_size e) (I.ok.cab x c hfn hc)))).trans (I.base.keep b o e n hb hx)
    · obtain ⟨sl, e1⟩ := I.base.slot b o e n hb hx
      exact ⟨sl, (hs.2 b (Nat.ne_of_lt (Nat.lt_of_lt_of_le (Heap.lt_size e) (I.ok.cab x c hfn hc)))).trans e1⟩
    · obtain ⟨o', e1⟩ := I.base.there b o e hx
      exact ⟨o', (hs.2 b (Nat.ne_of_lt (Nat.lt_of_lt_of_le (Heap.lt_size e) (I.ok.cab x c hfn hc)))).trans e1⟩
    · by_cases hj : j = i
      · subst hj
        rw [hi] at e1; cases e1
        rw [List.getElem?_set_self hiσ] at e2
        cases e2
        exact ⟨u, r, .inr ⟨.inl hk, c, hc, hc'⟩⟩
      · rw [List.getElem?_set_ne (Ne.symm hj)] at e2
        obtain ⟨u', r', q⟩ := hl j y v' e1 e2 e3
        refine ⟨u', r', ?_⟩
        rcases q with q | ⟨k, c', e, z'⟩
        · exact .inl q
        · refine .inr ⟨k, c', e, z'.sameBut hs ?_⟩
          rintro rfl
          exact hj (nodup_ix hN e1 (I.ok.inj _ _ _ e hc ▸ hi))
    · by_cases hcc : c' = c
      · subst hcc; exact ⟨_, hc'⟩
      · obtain ⟨w2, z2⟩ := I.cell y c' e
        exact ⟨w2, z2.sameBut hs hcc⟩
    · obtain ⟨e, n, ne, nf, d⟩ := I.pin p hp
      refine ⟨(hs.2 p.1 ?_).trans e, n, ne, nf, d⟩
      intro q
      rw [q, hoc] at e
      have q' : oc = p.2 := Option.some.inj e
      exact d w' (by rw [← q']; exact hocd)
theorem store_ok {M : Model} {A : Around} {E : Value → Shared → Prop} {i : Nat} {x : Str} {v : V} {u : Value} {Q : Unit → Shared → Prop} (I : Inv X pins σ H s) (hN : X.N.Nodup) (hi : X.N[i]? = some x) (hx : Loc X.env.scope x) (r : RelV v u)
    (h : ∀ s', Inv X pins (σ.set i (some v)) H s' → Q () s') (hf : X.fn x = true ∨ X.env.scope.names.lookup x = some .local := by first | exact .inl rfl | exact .inr rfl | assumption) : wpAny M A (storeName X.env x u) Q E s :=
  store_ok2 I hN hi hx r (fun s' I' _ => h s' I') hf
/-- behind a call or a block, the state as it is -/
theorem Inv.call' {s' : Shared} {ch : List Addr} (I : Inv X pins σ H s) (ho : s'.os = s.os) (u : Un (frs X.stack) ch H H' s.heap s'.heap) (hok : HOk X.prog X.w H' s'.heap) (hg : AllBare s'.gens)
    (hch : ∀ b ∈ ch, (b ∈ X.ex ∨ X.s₀.heap.objs.size ≤ b) ∧ b ≠ X.env.locals ∧ (∀ x c, X.env.cells.lookup x = some c → c ≠ b) ∧ ∀ p ∈ X.pn ++ pins, p.1 ≠ b) : Inv X pins σ H' s' := by
  obtain ⟨h', g', d', t', o'⟩ := s'
  have e : o' = s.os := ho
  subst e
  exact I.call (g' := g') (t' := t') (d' := d') u hok hg hch
end

/-! ### the judgements -/
/-- an exception: its class, its own dict's address (where it has one), the abstract heap behind it -/
abbrev XK := Value → Option Addr → Hp → Prop
abbrev St := List (Option V)
abbrev VK := V → Hp → Prop
/-- an expression's reading; a test's; an argument list's -/
abbrev TE := St → Hp → VK → Prop
abbrev TT := St → Hp → (Bool → Hp → Prop) → Prop
abbrev TA := St → Hp → (List V → Hp → Prop) → Prop
/-- what is wanted behind a statement -/
structure Ends where
  nx : St → Hp → Prop
  rt : VK
  bk : St → Hp → Prop := fun _ _ => False
  ct : St → Hp → Prop := fun _ _ => False
abbrev TS := Ends → St → Hp → Prop

def EP (X : Cx) (pins : List (Addr × Obj)) (σ : St) (Q : VK) (u : Value) (s' : Shared) : Prop := ∃ v H', Inv X pins σ H' s' ∧ RelV v u ∧ Q v H'
def TP (X : Cx) (pins : List (Addr × Obj)) (σ : St) (Q : Bool → Hp → Prop) (b : Bool) (s' : Shared) : Prop := ∃ H', Inv X pins σ H' s' ∧ Q b H'
def AP (X : Cx) (pins : List (Addr × Obj)) (σ : St) (Q : List V → Hp → Prop) (us : List Value) (s' : Shared) : Prop := ∃ vs H', Inv X pins σ H' s' ∧ Vals vs us ∧ Q vs H'
def SP (X : Cx) (pins : List (Addr × Obj)) (D : Ends) (f : Flow) (s' : Shared) : Prop :=
  match f with
  | .next => ∃ σ' H', Inv X pins σ' H' s' ∧ D.nx σ' H'
  | .brk => ∃ σ' H', Inv X pins σ' H' s' ∧ D.bk σ' H'
  | .cont => ∃ σ' H', Inv X pins σ' H' s' ∧ D.ct σ' H'
  | .ret u => ∃ v σ' H', Inv X pins σ' H' s' ∧ RelV v u ∧ D.rt v H'

def PE (X : Cx) (e : Expr) (t : TE) : Prop :=
  ∀ (pins : List (Addr × Obj)) (s : Shared) (σ : St) (H : Hp) (Q : VK), Inv X pins σ H s → t σ H Q → wpAny (model X.prog X.w) X.A (eval e X.env) (EP X pins σ Q) X.xe s
def PT (X : Cx) (e : Expr) (t : TT) : Prop :=
  ∀ (pins : List (Addr × Obj)) (s : Shared) (σ : St) (H : Hp) (Q : Bool → Hp → Prop), Inv X pins σ H s → t σ H Q → wpAny (model X.prog X.w) X.A (isTrue e X.env (eval e X.env)) (TP X pins σ Q) X.xe s
/-- a test whatever its 'whole' is (and, or) -/
def PW (X : Cx) (e : Expr) (t : TT) : Prop :=
  ∀ (whole : Sem Value) (pins : List (Addr × Obj)) (s : Shared) (σ : St) (H : Hp) (Q : Bool → Hp → Prop), Inv X pins σ H s → t σ H Q → wpAny (model X.prog X.w) X.A (isTrue e X.env whole) (TP X pins σ Q) X.xe s
theorem PW.pt {X : Cx} {e : Expr} {t : TT} (h : PW X e t) : PT X e t := h _
/-- an argument list (no star), from the left -/
def PA (X : Cx) (es : List Expr) (t : TA) : Prop :=
  ∀ (pos : Pos) (pins : List (Addr × Obj)) (s : Shared) (σ : St) (H : Hp) (Q : List V → Hp → Prop), Inv X pins σ H s → t σ H Q → wpAny (model X.prog X.w) X.A (spliced (backTo pos (starEach es X.env))) (AP X pins σ Q) X.xe s
def PS (X : Cx) (st : Stmt) (t : TS) : Prop :=
  ∀ (pins : List (Addr × Obj)) (s : Shared) (σ : St) (H : Hp) (D : Ends), Inv X pins σ H s → t D σ H → wpAny (model X.prog X.w) X.A (exec st X.env) (SP X pins D) X.xe s
def PSs (X : Cx) (st : List Stmt) (t : TS) : Prop :=
  ∀ (pins : List (Addr × Obj)) (s : Shared) (σ : St) (H : Hp) (D : Ends), Inv X pins σ H s → t D σ H → wpAny (model X.prog X.w) X.A (execs st X.env) (SP X pins D) X.xe s
/-- weaken the end -/
theorem thn {α : Type} {t : Sem α} {Q Q' : α → Shared → Prop} {M : Model} {A : Around} {E : Value → Shared → Prop} {s : Shared} (h : wpAny M A t Q E s) (hQ : ∀ a s, Q a s → Q' a s) : wpAny M A t Q' E s := wpAny_mono h hQ fun _ _ x => x
end L2

namespace L2
open PySem PySem.Spec PyProof.Rows
section
variable {X : Cx}

/-- two expressions in a row -/
theorem bin {a b : Expr} {ta tb : TE} (ha : PE X a ta) (hb : PE X b tb) {pins : List (Addr × Obj)} {s : Shared} {σ : St} {H : Hp} {R : V → V → Hp → Prop} (I : Inv X pins σ H s) (h : ta σ H fun x H1 => tb σ H1 fun y H2 => R x y H2)
    {α : Type} {Q : α → Shared → Prop} {f : Value → Value → Sem α}
    (hf : ∀ v u s2 x y H2, Inv X pins σ H2 s2 → RelV x v → RelV y u → R x y H2 → wpAny (model X.prog X.w) X.A (f v u) Q X.xe s2) :
    wpAny (model X.prog X.w) X.A (eval a X.env) (fun v s₁ => wpAny (model X.prog X.w) X.A (eval b X.env) (fun u s₂ => wpAny (model X.prog X.w) X.A (f v u) Q X.xe s₂) X.xe s₁) X.xe s := by
  refine thn (ha pins s σ H _ I h) fun v s1 ⟨x, H1, I1, r1, q1⟩ => ?_
  refine thn (hb pins s1 σ H1 _ I1 q1) fun u s2 ⟨y, H2, I2, r2, q2⟩ => ?_
  exact hf v u s2 x y H2 I2 r1 r2 q2

/-! ### names and constants -/
def tVar (i : Nat) : TE := fun σ H Q => ∃ v, σ[i]? = some (some v) ∧ Q v H
def tC (v : V) : TE := fun _ H Q => Q v H
theorem pe_var {i : Nat} {x : Str} {pos : Pos} (hN : X.N[i]? = some x) (hv : Vis X.env.scope x) (hd : (x == ("__debug__" : Str)) = false := by decide) (hcd : (x == ("__classdict__" : Str)) = false := by decide) : PE X (.Name x pos) (tVar i) := by
  intro pins s σ H Q I h
  obtain ⟨v, e, h⟩ := h
  obtain ⟨m, hn, hl⟩ := I.loc
  obtain ⟨u, r, l⟩ := hl i x v hN e hv
  have fin : EP X pins σ Q u s := ⟨v, H, I, r, h⟩
  rcases l with ⟨hk, hm⟩ | ⟨hk, c, hc, hcell⟩
  · exact wpAny_Name (wpAny_loadName_local I.ok.kind hk hn hm fin) hd
  · rcases hk with hk | hk
    · exact wpAny_Name (wpAny_loadName_cell I.ok.kind hk hc hcell fin) hd
    · exact wpAny_Name (wpAny_loadName_free I.ok.kind hk hc hcell fin hcd) hd
theorem pe_int {i j pos} : PE X (.Constant (.int i) j pos) (tC (.int i)) := fun _ _ _ H _ I h => wpAny_Constant_int ⟨.int i, H, I.tok _, ⟨_, rfl⟩, h⟩
theorem pe_bl {b j pos} : PE X (.Constant (.bool b) j pos) (tC (.bl b)) := fun _ _ _ H _ I h => Constant_bool ⟨.bl b, H, I, rfl, h⟩
theorem pe_non {j pos} : PE X (.Constant .none j pos) (tC .non) := fun _ _ _ H _ I h => Constant_none ⟨.non, H, I, rfl, h⟩
theorem pe_str {x j pos} : PE X (.Constant (.str x) j pos) (tC (.str x)) := fun _ _ _ H _ I h => Calls.Constant_str ⟨.str x, H, I.tok _, ⟨_, rfl⟩, h⟩

/-- a global name of the def -/
def Gl (X : Cx) (x : Str) : Prop := X.env.kindOf x = some .globalImplicit
theorem ld_glob {E : Value → Shared → Prop} {pins : List (Addr × Obj)} {s : Shared} {σ : St} {H : Hp} {x : Str} {u : Value} {pos : Pos} {Q : Value → Shared → Prop} (I : Inv X pins σ H s) (hg : Gl X x) (hm : X.mg x = some u) (h : Q u s)
    (hd : (x == ("__debug__" : Str)) = false := by decide) : wpAny (model X.prog X.w) X.A (eval (.Name x pos) X.env) Q E s :=
  Calls.Name_function_global I.ok.kind hg (Calls.loadGlobal_global (by rw [I.ok.glob]; exact I.mod.glob.keeps I.bk) hm h) hd
theorem ld_blt {E : Value → Shared → Prop} {pins : List (Addr × Obj)} {s : Shared} {σ : St} {H : Hp} {x : Str} {u : Value} {pos : Pos} {Q : Value → Shared → Prop} (I : Inv X pins σ H s) (hg : Gl X x) (hm : X.mg x = none) (hv : bootBuiltins x = some u) (h : Q u s)
    (hn : x ≠ "__name__" := by decide) (hd : (x == ("__debug__" : Str)) = false := by decide) : wpAny (model X.prog X.w) X.A (eval (.Name x pos) X.env) Q E s := by
  obtain ⟨mb, h1, h2⟩ := I.mod.blt
  exact Calls.Name_function_global I.ok.kind hg (Calls.loadGlobal_builtin (by rw [I.ok.glob]; exact I.mod.glob.keeps I.bk) hm (by rw [I.ok.blt]; exact h1.keeps I.bk) ((h2 x hn).trans hv) h) hd
/-- a module's constant, a class, a function, as a value -/
theorem pe_glob {x : Str} {v : V} {u : Value} {pos : Pos} (hg : Gl X x) (hm : X.mg x = some u) (r : RelV v u) (hd : (x == ("__debug__" : Str)) = false := by decide) : PE X (.Name x pos) (tC v) :=
  fun _ _ _ H _ I h => ld_glob I hg hm ⟨v, H, I, r, h⟩ hd
theorem pe_bltn {x : Str} {v : V} {u : Value} {pos : Pos} (hg : Gl X x) (hm : X.mg x = none) (hv : bootBuiltins x = some u) (r : RelV v u) (hn : x ≠ "__name__" := by decide) (hd : (x == ("__debug__" : Str)) = false := by decide) : PE X (.Name x pos) (tC v) :=
  fun _ _ _ H _ I h => ld_blt I hg hm hv ⟨v, H, I, r, h⟩ hn hd

/-! ### arithmetic -/
/-- two ints -/
def t2I (ta tb : TE) (k : Int → Int → Hp → Prop) : St → Hp → Prop := fun σ H => ta σ H fun x H1 => tb σ H1 fun y H2 => ∃ i j, x = .int i ∧ y = .int j ∧ k i j H2
def tAdd (ta tb : TE) : TE := fun σ H Q => t2I ta tb (fun i j H2 => Q (.int (i + j)) H2) σ H
def tSub (ta tb : TE) : TE := fun σ H Q => t2I ta tb (fun i j H2 => Q (.int (i - j)) H2) σ H
/-- the left factor below 2^64 -/
def tMul (ta tb : TE) : TE := fun σ H Q => t2I ta tb (fun i j H2 => (-(2 ^ 64) < i ∧ i < 2 ^ 64) ∧ Q (.int (i * j)) H2) σ H
variable {a b : Expr} {ta tb : TE} {pos : Pos}
theorem pe_add (ha : PE X a ta) (hb : PE X b tb) : PE X (.BinOp a .Add b pos) (tAdd ta tb) := by
  intro pins s σ H Q I h
  refine wpAny_BinOp (bin ha hb I h fun v u s2 x y H2 I2 rx ry q => ?_)
  obtain ⟨i, j, rfl, rfl, q⟩ := q
  obtain ⟨t, rfl⟩ := rx
  obtain ⟨t', rfl⟩ := ry
  exact add_int ⟨.int _, H2, I2.tok _, ⟨_, rfl⟩, q⟩
theorem pe_sub (ha : PE X a ta) (hb : PE X b tb) : PE X (.BinOp a .Sub b pos) (tSub ta tb) := by
  intro pins s σ H Q I h
  refine wpAny_BinOp (bin ha hb I h fun v u s2 x y H2 I2 rx ry q => ?_)
  obtain ⟨i, j, rfl, rfl, q⟩ := q
  obtain ⟨t, rfl⟩ := rx
  obtain ⟨t', rfl⟩ := ry
  exact sub_int ⟨.int _, H2, I2.tok _, ⟨_, rfl⟩, q⟩
theorem pe_mul (ha : PE X a ta) (hb : PE X b tb) : PE X (.BinOp a .Mult b pos) (tMul ta tb) := by
  intro pins s σ H Q I h
  refine wpAny_BinOp (bin ha hb I h fun v u s2 x y H2 I2 rx ry q => ?_)
  obtain ⟨i, j, rfl, rfl, ⟨q1, q2⟩, q⟩ := q
  obtain ⟨t, rfl⟩ := rx
  obtain ⟨t', rfl⟩ := ry
  exact mul_int ⟨.int _, H2, I2.tok _, ⟨_, rfl⟩, q⟩ (.of_left (intBits_le_64 q1 q2))

/-! ### comparisons -/
def PC (X : Cx) (op : CmpOp) (a b : Expr) (t : TE) : Prop :=
  ∀ (pins : List (Addr × Obj)) (s : Shared) (σ : St) (H : Hp) (Q : VK), Inv X pins σ H s → t σ H Q →
    wpAny (model X.prog X.w) X.A (eval a X.env) (fun v s₁ => wpAny (model X.prog X.w) X.A (eval b X.env) (fun u s₂ => wpAny (model X.prog X.w) X.A (compareOp op v u) (EP X pins σ Q) X.xe s₂) X.xe s₁) X.xe s
theorem nobehind (b : Expr) {op : CmpOp} (h : op ≠ .In) (h2 : op ≠ .NotIn) : behindInMarks op b = false := by
  have e1 : (op == CmpOp.In) = false := by cases op <;> first | rfl | exact absurd rfl h
  have e2 : (op == CmpOp.NotIn) = false := by cases op <;> first | rfl | exact absurd rfl h2
  cases b <;> simp [behindInMarks, e1, e2]
def tCmp (p : Int → Int → Bool) (ta tb : TE) : TE := fun σ H Q => t2I ta tb (fun i j H2 => Q (.bl (p i j)) H2) σ H
abbrev tLt : TE → TE → TE := tCmp fun i j => decide (i < j)
abbrev tLe : TE → TE → TE := tCmp fun i j => decide (i ≤ j)
abbrev tGt : TE → TE → TE := tCmp fun i j => decide (j < i)
abbrev tGe : TE → TE → TE := tCmp fun i j => decide (j ≤ i)
abbrev tEqI : TE → TE → TE := tCmp fun i j => decide (i = j)
abbrev tNeI : TE → TE → TE := tCmp fun i j => !decide (i = j)
/-- a comparison of two ints, by its rule -/
theorem pc_int {op : CmpOp} {p : Int → Int → Bool} (ha : PE X a ta) (hb : PE X b tb)
    (rule : ∀ (i j : Int) (t u : Tok) (Q : Value → Shared → Prop) (s : Shared), Q (.bool (p i j)) s → wpAny (model X.prog X.w) X.A (compareOp op (.int i t) (.int j u)) Q X.xe s) : PC X op a b (tCmp p ta tb) := by
  intro pins s σ H Q I h
  refine bin ha hb I h fun v u s2 x y H2 I2 rx ry q => ?_
  obtain ⟨i, j, rfl, rfl, q⟩ := q
  obtain ⟨t, rfl⟩ := rx
  obtain ⟨t', rfl⟩ := ry
  exact rule i j t t' _ s2 ⟨.bl _, H2, I2, rfl, q⟩
theorem pc_lt (ha : PE X a ta) (hb : PE X b tb) : PC X .Lt a b (tLt ta tb) := pc_int ha hb fun _ _ _ _ _ _ h => lt_int h
theorem pc_le (ha : PE X a ta) (hb : PE X b tb) : PC X .LtE a b (tLe ta tb) := pc_int ha hb fun _ _ _ _ _ _ h => le_int h
theorem pc_gt (ha : PE X a ta) (hb : PE X b tb) : PC X .Gt a b (tGt ta tb) := pc_int ha hb fun _ _ _ _ _ _ h => gt_int h
theorem pc_ge (ha : PE X a ta) (hb : PE X b tb) : PC X .GtE a b (tGe ta tb) := pc_int ha hb fun _ _ _ _ _ _ h => ge_int h
theorem pc_eqI (ha : PE X a ta) (hb : PE X b tb) : PC X .Eq a b (tEqI ta tb) := pc_int ha hb fun _ _ _ _ _ _ h => eq_int (by rw [Bool.beq_eq_decide_eq]; exact h)
theorem pc_neI (ha : PE X a ta) (hb : PE X b tb) : PC X .NotEq a b (tNeI ta tb) := pc_int ha hb fun _ _ _ _ _ _ h => ne_int (by rw [bne, Bool.beq_eq_decide_eq]; exact h)
/-- is None -/
def tIsN (ta : TE) : TE := fun σ H Q => ta σ H fun x H1 => Q (.bl (decide (x = .non))) H1
def tNotN (ta : TE) : TE := fun σ H Q => ta σ H fun x H1 => Q (.bl (!decide (x = .non))) H1
theorem RelV.none_iff {x : V} {v : Value} (r : RelV x v) : (v == Value.none) = decide (x = .non) := by
  cases x with
  | non => cases r; rfl
  | bl _ => cases r; rfl
  | int _ => obtain ⟨t, rfl⟩ := r; rfl
  | str _ => obtain ⟨t, rfl⟩ := r; rfl
  | byt _ => obtain ⟨t, rfl⟩ := r; rfl
  | flt _ => obtain ⟨t, rfl⟩ := r; rfl
  | ref _ => cases r; rfl
  | ty _ => cases r; rfl
theorem pc_isN {j pos'} (ha : PE X a ta) : PC X .Is a (.Constant .none j pos') (tIsN ta) := by
  intro pins s σ H Q I h
  refine thn (ha pins s σ H _ I h) fun v s1 ⟨x, H1, I1, r1, q1⟩ => ?_
  exact Constant_none (is_none_gen ⟨.bl _, H1, I1, by rw [r1.none_iff]; rfl, q1⟩)
theorem pc_notN {j pos'} (ha : PE X a ta) : PC X .IsNot a (.Constant .none j pos') (tNotN ta) := by
  intro pins s σ H Q I h
  refine thn (ha pins s σ H _ I h) fun v s1 ⟨x, H1, I1, r1, q1⟩ => ?_
  exact Constant_none (isnot_none_gen ⟨.bl _, H1, I1, by rw [r1.none_iff]; rfl, q1⟩)
/-- a comparison as a value, as a test -/
def tB (t : TE) : TT := fun σ H Q => t σ H fun x H1 => ∃ c, x = .bl c ∧ Q c H1
theorem pe_cmp {op : CmpOp} {t : TE} (h : PC X op a b t) (h1 : behindInMarks op b = false := by first | exact nobehind _ (by decide) (by decide) | rfl) : PE X (.Compare a [op] [b] pos) t := fun pins s σ H Q I hw => wpAny_Compare1 (h pins s σ H Q I hw) h1
theorem pt_cmp {op : CmpOp} {t : TE} (h : PC X op a b t) (h1 : behindInMarks op b = false := by first | exact nobehind _ (by decide) (by decide) | rfl) : PT X (.Compare a [op] [b] pos) (tB t) := by
  intro pins s σ H Q I hw
  refine wpAny_isTrue_Compare1 (thn (h pins s σ H _ I hw) fun v s1 h1 => thn h1 fun u s2 h2 => thn h2 fun c s3 ⟨x, H1, I1, r1, q1⟩ => ?_) h1
  obtain ⟨d, rfl, q⟩ := q1
  cases r1
  exact wpAny_truthy_bool ⟨H1, I1, q⟩
/-- an expression whose value is a bool, as a test -/
theorem pt_val {e : Expr} {t : TE} (h : PE X e t) (he : ∀ whole, isTrue e X.env whole = (do let v ← whole; standAt e.pos; holding [v] (truthy v)) := by intro _; rfl) : PT X e (tB t) := by
  intro pins s σ H Q I hw
  refine isTrue_plain (thn (h pins s σ H _ I hw) fun v s1 ⟨x, H1, I1, r1, q1⟩ => ?_) (he _)
  obtain ⟨d, rfl, q⟩ := q1
  cases r1
  exact wpAny_truthy_bool ⟨H1, I1, q⟩

/-! ### and, or, not -/
variable {tA tB' : TT} {rest : List Expr}
def tAnd (t u : TT) : TT := fun σ H Q => t σ H fun c H1 => if c = true then u σ H1 Q else Q false H1
def tOr (t u : TT) : TT := fun σ H Q => t σ H fun c H1 => if c = true then Q true H1 else u σ H1 Q
def tNot (t : TT) : TT := fun σ H Q => t σ H fun c H1 => Q (!c) H1
theorem pw_and1 (ha : PT X a tA) : PW X (.BoolOp .And [a] pos) tA := by
  intro wh pins s σ H Q I h
  refine isTrue_and (thn (ha pins s σ H Q I h) fun c s1 e => ?_)
  cases c with
  | true => exact isTrue_and_nil e
  | false => exact e
theorem pw_or1 (ha : PT X a tA) : PW X (.BoolOp .Or [a] pos) tA := by
  intro wh pins s σ H Q I h
  refine isTrue_or (thn (ha pins s σ H Q I h) fun c s1 e => ?_)
  cases c with
  | false => exact isTrue_or_nil e
  | true => exact e
theorem pw_and (ha : PT X a tA) (hb : PW X (.BoolOp .And (b :: rest) pos) tB') : PW X (.BoolOp .And (a :: b :: rest) pos) (tAnd tA tB') := by
  intro wh pins s σ H Q I h
  refine isTrue_and (thn (ha pins s σ H _ I h) fun c s1 ⟨H1, I1, q1⟩ => ?_)
  cases c with
  | true => exact hb wh pins s1 σ H1 Q I1 q1
  | false => exact ⟨H1, I1, q1⟩
theorem pw_or (ha : PT X a tA) (hb : PW X (.BoolOp .Or (b :: rest) pos) tB') : PW X (.BoolOp .Or (a :: b :: rest) pos) (tOr tA tB') := by
  intro wh pins s σ H Q I h
  refine isTrue_or (thn (ha pins s σ H _ I h) fun c s1 ⟨H1, I1, q1⟩ => ?_)
  cases c with
  | true => exact ⟨H1, I1, q1⟩
  | false => exact hb wh pins s1 σ H1 Q I1 q1
theorem pt_not (ha : PT X a tA) : PT X (.UnaryOp .Not a pos) (tNot tA) := by
  intro pins s σ H Q I h
  exact isTrue_not (ha pins s σ H (fun c H1 => Q (!c) H1) I h)
/-- .. as values (bools) -/
def tAndV (ta tb : TE) : TE := fun σ H Q => ta σ H fun x H1 => ∃ c, x = .bl c ∧ if c = true then tb σ H1 Q else Q (.bl false) H1
def tOrV (ta tb : TE) : TE := fun σ H Q => ta σ H fun x H1 => ∃ c, x = .bl c ∧ if c = true then Q (.bl true) H1 else tb σ H1 Q
def tNotV (ta : TE) : TE := fun σ H Q => ta σ H fun x H1 => ∃ c, x = .bl c ∧ Q (.bl (!c)) H1
theorem pe_one {op} {t : TE} (h : PE X a t) : PE X (.BoolOp op [a] pos) t := fun pins s σ H Q I hw => BoolOp_one (h pins s σ H Q I hw)
theorem pe_and (ha : PE X a ta) (hb : PE X (.BoolOp .And (b :: rest) pos) tb) : PE X (.BoolOp .And (a :: b :: rest) pos) (tAndV ta tb) := by
  intro pins s σ H Q I h
  refine BoolOp_and (thn (ha pins s σ H _ I h) fun v s1 ⟨x, H1, I1, r1, q1⟩ => ?_)
  obtain ⟨c, rfl, q1⟩ := q1
  cases r1
  refine wpAny_truthy_bool ?_
  cases c with
  | true => exact hb pins s1 σ H1 Q I1 q1
  | false => exact ⟨.bl false, H1, I1, rfl, q1⟩
theorem pe_or (ha : PE X a ta) (hb : PE X (.BoolOp .Or (b :: rest) pos) tb) : PE X (.BoolOp .Or (a :: b :: rest) pos) (tOrV ta tb) := by
  intro pins s σ H Q I h
  refine BoolOp_or (thn (ha pins s σ H _ I h) fun v s1 ⟨x, H1, I1, r1, q1⟩ => ?_)
  obtain ⟨c, rfl, q1⟩ := q1
  cases r1
  refine wpAny_truthy_bool ?_
  cases c with
  | false => exact hb pins s1 σ H1 Q I1 q1
  | true => exact ⟨.bl true, H1, I1, rfl, q1⟩
theorem pe_not (ha : PE X a ta) : PE X (.UnaryOp .Not a pos) (tNotV ta) := by
  intro pins s σ H Q I h
  refine UnaryOp_ (thn (ha pins s σ H _ I h) fun v s1 ⟨x, H1, I1, r1, q1⟩ => ?_)
  obtain ⟨c, rfl, q1⟩ := q1
  cases r1
  exact not_of (wpAny_truthy_bool ⟨.bl (!c), H1, I1, rfl, q1⟩)
/-- a if t else b -/
def tIf (t : TT) (ta tb : TE) : TE := fun σ H Q => t σ H fun c H1 => if c = true then ta σ H1 Q else tb σ H1 Q
theorem pe_ifExp {c : Expr} (hc : PT X c tA) (ha : PE X a ta) (hb : PE X b tb) : PE X (.IfExp c a b pos) (tIf tA ta tb) := by
  intro pins s σ H Q I h
  refine wpAny_IfExp (thn (hc pins s σ H _ I h) fun d s1 ⟨H1, I1, q1⟩ => ?_)
  cases d with
  | true => exact ha pins s1 σ H1 Q I1 q1
  | false => exact hb pins s1 σ H1 Q I1 q1
end
end L2

namespace L2
open PySem PySem.Spec PyProof.Rows

/-! ### a list, a tuple that is read: tracked, frozen, or an object of the module -/
def SqL (K : PySem.W.Frag) (H : Hp) (a : Addr) (xs : List V) : Prop :=
  Rd H a (.lst xs) ∨
    ∃ (o : Obj) (its : Array Value) (n : Nat), K.lookup a = some o ∧ o.cls = .type "list" ∧ o.dict = none ∧ o.data = .seq its n ∧ its.size ≤ sizeLine ∧ Vals xs its.toList
def SqT (K : PySem.W.Frag) (H : Hp) (a : Addr) (xs : List V) : Prop :=
  Rd H a (.tup xs) ∨
    ∃ (o : Obj) (its : Array Value) (n : Nat), K.lookup a = some o ∧ o.cls = .type "tuple" ∧ o.data = .seq its n ∧ its.size ≤ sizeLine ∧ Vals xs its.toList
def absV : Value → Option V
  | .none => some .non
  | .bool b => some (.bl b)
  | .int i _ => some (.int i)
  | .str x _ => some (.str x)
  | .bytes b _ => some (.byt b)
  | .float b _ => some (.flt b)
  | .ref a => some (.ref a)
  | .type n => some (.ty n)
  | _ => none
theorem RelV.abs {x : V} {u : Value} (r : RelV x u) : absV u = some x := by
  cases x with
  | non => cases r; rfl
  | bl _ => cases r; rfl
  | int _ => obtain ⟨t, rfl⟩ := r; rfl
  | str _ => obtain ⟨t, rfl⟩ := r; rfl
  | byt _ => obtain ⟨t, rfl⟩ := r; rfl
  | flt _ => obtain ⟨t, rfl⟩ := r; rfl
  | ref _ => cases r; rfl
  | ty _ => cases r; rfl
theorem RelV.inj {x y : V} {u : Value} (r : RelV x u) (q : RelV y u) : x = y := Option.some.inj (r.abs.symm.trans q.abs)
theorem Vals.inj : ∀ {xs ys : List V} {us : List Value}, Vals xs us → Vals ys us → xs = ys
  | _, _, _, .nil, .nil => rfl
  | _, _, _, .cons r t, .cons r' t' => by rw [r.inj r', Vals.inj t t']
section
variable {X : Cx} {pins : List (Addr × Obj)} {σ : St} {H : Hp} {s : Shared} {a : Addr} {xs ys : List V}
theorem SqL.of {K : PySem.W.Frag} (h : H a = some (.lst xs)) : SqL K H a xs := .inl (.inl h)
theorem SqT.of {K : PySem.W.Frag} (h : H a = some (.tup xs)) : SqT K H a xs := .inl (.inl h)
theorem Inv.list (I : Inv X pins σ H s) (h : SqL X.K H a xs) : ∃ its : List Value, Vals xs its ∧ PlainL s.heap a its.toArray ∧ xs.length ≤ sizeLine := by
  rcases h with h | ⟨o, its, n, hk, hc, hd, hs, hz, r⟩
  · obtain ⟨z, its, n, r, e⟩ := h.ok I.hok
    exact ⟨its, r, ⟨_, n, e, rfl, rfl, rfl⟩, z⟩
  · refine ⟨its.toList, r, ⟨o, n, I.kIn a o hk, hc, hd, by simpa using hs⟩, ?_⟩
    have e := r.length
    simp only [Array.length_toList] at e
    omega
theorem Inv.tuple (I : Inv X pins σ H s) (h : SqT X.K H a xs) : ∃ its : List Value, Vals xs its ∧ IsTup s.heap a its.toArray ∧ xs.length ≤ sizeLine := by
  rcases h with h | ⟨o, its, n, hk, hc, hs, hz, r⟩
  · obtain ⟨z, its, r, p⟩ := h.ok I.hok
    exact ⟨its, r, p, z⟩
  · refine ⟨its.toList, r, ⟨o, I.kIn a o hk, hc, n, by simpa using hs⟩, ?_⟩
    have e := r.length
    simp only [Array.length_toList] at e
    omega
theorem Inv.list_inj (I : Inv X pins σ H s) (h : SqL X.K H a xs) (h' : SqL X.K H a ys) : xs = ys := by
  obtain ⟨its, r, ⟨o, n, e, _, _, d⟩, _⟩ := I.list h
  obtain ⟨its', r', ⟨o', n', e', _, _, d'⟩, _⟩ := I.list h'
  rw [e] at e'; cases e'
  rw [d] at d'
  injection d' with d1 _
  have : its = its' := by simpa using congrArg Array.toList d1
  subst this
  exact r.inj r'
theorem Inv.tuple_inj (I : Inv X pins σ H s) (h : SqT X.K H a xs) (h' : SqT X.K H a ys) : xs = ys := by
  obtain ⟨its, r, ⟨o, e, _, n, d⟩, _⟩ := I.tuple h
  obtain ⟨its', r', ⟨o', e', _, n', d'⟩, _⟩ := I.tuple h'
  rw [e] at e'; cases e'
  rw [d] at d'
  injection d' with d1 _
  have : its = its' := by simpa using congrArg Array.toList d1
  subst this
  exact r.inj r'
end

/-! ### another wish about exceptions -/
abbrev Cx.wish (X : Cx) (E : Value → Shared → Prop) : Cx := { X with xe := E }
/-- no exception leaves -/
abbrev Cx.nox (X : Cx) : Cx := X.wish fun _ _ => False
theorem Cx.Ok.wish {X : Cx} (ok : X.Ok) (E : Value → Shared → Prop) : (X.wish E).Ok :=
  ⟨ok.mod, ok.kind, ok.glob, ok.blt, ok.above, ok.inj, ok.has, ok.cab, ok.hd, ok.frames, ok.stk, ok.exf, ok.bs, ok.bsz, ok.noex, ok.exfs, ok.funs, ok.frf⟩
theorem Cx.Ok.unwish {X : Cx} {E : Value → Shared → Prop} (ok : (X.wish E).Ok) : X.Ok :=
  ⟨ok.mod, ok.kind, ok.glob, ok.blt, ok.above, ok.inj, ok.has, ok.cab, ok.hd, ok.frames, ok.stk, ok.exf, ok.bs, ok.bsz, ok.noex, ok.exfs, ok.funs, ok.frf⟩
section
variable {X : Cx} {pins : List (Addr × Obj)} {σ : St} {H : Hp} {s : Shared} {E : Value → Shared → Prop}
theorem Inv.wish (I : Inv X pins σ H s) (E : Value → Shared → Prop) : Inv (X.wish E) pins σ H s := ⟨I.ok.wish E, I.os, I.bare, I.base, I.loc, I.cell, I.free, I.freeC, I.pin, I.hok, I.len⟩
theorem Inv.unwish (I : Inv (X.wish E) pins σ H s) : Inv X pins σ H s := ⟨I.ok.unwish, I.os, I.bare, I.base, I.loc, I.cell, I.free, I.freeC, I.pin, I.hok, I.len⟩
theorem SP.unwish {D : Ends} {f : Flow} {s' : Shared} (h : SP (X.wish E) pins D f s') : SP X pins D f s' := by
  cases f with
  | next => obtain ⟨σ', H', I, q⟩ := h; exact ⟨σ', H', I.unwish, q⟩
  | brk => obtain ⟨σ', H', I, q⟩ := h; exact ⟨σ', H', I.unwish, q⟩
  | cont => obtain ⟨σ', H', I, q⟩ := h; exact ⟨σ', H', I.unwish, q⟩
  | ret u => obtain ⟨v, σ', H', I, r, q⟩ := h; exact ⟨v, σ', H', I.unwish, r, q⟩
theorem PE.nox {e : Expr} {t : TE} (h : PE X.nox e t) : PE X e t := fun pins s σ H Q I hw =>
  wpAny_mono (h pins s σ H Q (I.wish _) hw) (fun _ _ ⟨v, H', I', r, q⟩ => ⟨v, H', I'.unwish, r, q⟩) fun _ _ z => False.elim z
theorem PT.nox {e : Expr} {t : TT} (h : PT X.nox e t) : PT X e t := fun pins s σ H Q I hw =>
  wpAny_mono (h pins s σ H Q (I.wish _) hw) (fun _ _ ⟨H', I', q⟩ => ⟨H', I'.unwish, q⟩) fun _ _ z => False.elim z
theorem PSs.nox {st : List Stmt} {t : TS} (h : PSs X.nox st t) : PSs X st t := fun pins s σ H D I hw =>
  wpAny_mono (h pins s σ H D (I.wish _) hw) (fun _ _ q => q.unwish) fun _ _ z => False.elim z
end

/-! ### blocks and small statements -/
section
variable {X : Cx} {st : Stmt} {rest : List Stmt} {t u : TS} {e : Expr} {te : TE} {pos : Pos}
def tNext : TS := fun D σ H => D.nx σ H
def tSeq (t u : TS) : TS := fun D σ H => t { D with nx := u D } σ H
theorem pss_nil : PSs X [] tNext := fun _ _ σ H _ I h => wpAny_execs_nil ⟨σ, H, I, h⟩
theorem pss_cons (h1 : PS X st t) (h2 : PSs X rest u) : PSs X (st :: rest) (tSeq t u) := by
  intro pins s σ H D I h
  refine wpAny_execs_cons (thn (h1 pins s σ H { D with nx := u D } I h) fun f s1 q => ?_)
  cases f with
  | next =>
    obtain ⟨σ', H', I', q⟩ := q
    exact h2 pins s1 σ' H' D I' q
  | ret v => exact q
  | brk => exact q
  | cont => exact q
theorem pss_one (h1 : PS X st t) : PSs X [st] t := by
  intro pins s σ H D I h
  refine wpAny_execs_cons (thn (h1 pins s σ H D I h) fun f s1 q => ?_)
  cases f with
  | next => exact wpAny_execs_nil q
  | ret v => exact q
  | brk => exact q
  | cont => exact q
def tBreak : TS := fun D σ H => D.bk σ H
def tCont : TS := fun D σ H => D.ct σ H
theorem ps_pass : PS X (.Pass pos) tNext := fun _ _ σ H _ I h => wpAny_Pass ⟨σ, H, I, h⟩
theorem ps_break : PS X (.Break pos) tBreak := fun _ _ σ H _ I h => wpAny_Break ⟨σ, H, I, h⟩
theorem ps_continue : PS X (.Continue pos) tCont := fun _ _ σ H _ I h => wpAny_Continue ⟨σ, H, I, h⟩
/-- in a def's body nothing is shown -/
theorem Inv.quiet {pins : List (Addr × Obj)} {σ : St} {H : Hp} {s : Shared} (I : Inv X pins σ H s) : interactive X.env = false := by simp [interactive, I.ok.kind]
/-- a docstring -/
theorem ps_doc {x j pos pos'} : PS X (.Expr (.Constant (.str x) j pos) pos') tNext := fun _ s σ H _ I h => wpAny_Expr (Calls.Constant_str (show SP X _ _ .next { s with toks := s.toks + 1 } from ⟨σ, H, I.tok _, h⟩)) I.quiet
/-- an expression whose value is dropped -/
def tDrop (te : TE) : TS := fun D σ H => te σ H fun _ H1 => D.nx σ H1
theorem ps_expr (he : PE X e te) (hs : swapsWith e none pos.line X.env = pure false := by rfl) : PS X (.Expr e pos) (tDrop te) := by
  intro pins s σ H D I h
  exact wpAny_Expr_any (thn (he pins s σ H _ I h) fun v s1 ⟨x, H1, I1, r1, q1⟩ => ⟨σ, H1, I1, q1⟩) I.quiet hs
def tRet (te : TE) : TS := fun D σ H => te σ H D.rt
theorem ps_ret (he : PE X e te) : PS X (.Return (some e) pos) (tRet te) := by
  intro pins s σ H D I h
  exact wpAny_Return_some (thn (he pins s σ H _ I h) fun v s1 ⟨x, H1, I1, r1, q1⟩ => ⟨x, σ, H1, I1, r1, q1⟩)
def tRetN : TS := fun D _ H => D.rt .non H
theorem ps_retN : PS X (.Return none pos) tRetN := fun _ _ σ H _ I h => wpAny_Return_none ⟨.non, σ, H, I, rfl, h⟩
def tIfS (c : TT) (t u : TS) : TS := fun D σ H => c σ H fun b H1 => if b = true then t D σ H1 else u D σ H1
theorem ps_if {c : Expr} {a b : List Stmt} {tc : TT} (hc : PT X c tc) (ha : PSs X a t) (hb : PSs X b u) : PS X (.If c a b pos) (tIfS tc t u) := by
  intro pins s σ H D I h
  refine wpAny_If (thn (hc pins s σ H _ I h) fun d s1 ⟨H1, I1, q1⟩ => ?_)
  cases d with
  | true => exact ha pins s1 σ H1 D I1 q1
  | false => exact hb pins s1 σ H1 D I1 q1
/-- code that the proof never comes to -/
def tNever : TS := fun _ _ _ => False
theorem ps_never : PS X st tNever := fun _ _ _ _ _ _ h => h.elim
theorem pss_never {sts : List Stmt} : PSs X sts tNever := fun _ _ _ _ _ _ h => h.elim
end

/-! ### targets -/
abbrev TG := V → St → Hp → (St → Hp → Prop) → Prop
abbrev TGs := List V → St → Hp → (St → Hp → Prop) → Prop
def PG (X : Cx) (target : Expr) (t : TG) : Prop :=
  ∀ (pins : List (Addr × Obj)) (s : Shared) (σ : St) (H : Hp) (v : V) (u : Value) (Q : St → Hp → Prop), Inv X pins σ H s → RelV v u → t v σ H Q →
    wpAny (model X.prog X.w) X.A (assign target X.env u) (fun _ s' => ∃ σ' H', Inv X pins σ' H' s' ∧ Q σ' H') X.xe s
/-- several targets, one after another -/
def PGs (X : Cx) (ts : List Expr) (t : TGs) : Prop :=
  ∀ (pins : List (Addr × Obj)) (s : Shared) (σ : St) (H : Hp) (vs : List V) (us : List Value) (Q : St → Hp → Prop), Inv X pins σ H s → Vals vs us → t vs σ H Q →
    wpAny (model X.prog X.w) X.A (assignInOrder ((assignEach ts X.env).map (·.2)) us) (fun _ s' => ∃ σ' H', Inv X pins σ' H' s' ∧ Q σ' H') X.xe s
/-- o[i] = v, by values -/
abbrev TSet := V → V → V → Hp → (Hp → Prop) → Prop
def PSet (X : Cx) (t : TSet) : Prop :=
  ∀ (pins : List (Addr × Obj)) (s : Shared) (σ : St) (H : Hp) (o i v : V) (ov iv u : Value) (Q : Hp → Prop), Inv X pins σ H s → RelV o ov → RelV i iv → RelV v u → t o i v H Q →
    wpAny (model X.prog X.w) X.A (setItem ov iv u) (fun _ s' => ∃ H', Inv X pins σ H' s' ∧ Q H') X.xe s
/-- a op= b, by values -/
abbrev TIp := V → V → Hp → VK → Prop
def PIp (X : Cx) (op : Operator) (t : TIp) : Prop :=
  ∀ (pins : List (Addr × Obj)) (s : Shared) (σ : St) (H : Hp) (x y : V) (v u : Value) (Q : VK), Inv X pins σ H s → RelV x v → RelV y u → t x y H Q →
    wpAny (model X.prog X.w) X.A (inplaceOp op v u) (EP X pins σ Q) X.xe s
section
variable {X : Cx} {pos : Pos}
def gName (i : Nat) : TG := fun v σ H Q => Q (σ.set i (some v)) H
theorem pg_name {i : Nat} {x : Str} (hN : X.N.Nodup) (hi : X.N[i]? = some x) (hx : Loc X.env.scope x) (hf : X.fn x = true ∨ X.env.scope.names.lookup x = some .local := by first | exact .inl rfl | exact .inr rfl | assumption) : PG X (.Name x pos) (gName i) := by
  intro pins s σ H v u Q I r h
  exact wpAny_assign_Name (store_ok I hN hi hx r (fun s' I' => ⟨_, H, I', h⟩) hf)
def gNil : TGs := fun vs σ H Q => vs = [] ∧ Q σ H
def gCons (t : TG) (u : TGs) : TGs := fun vs σ H Q => ∃ v r, vs = v :: r ∧ t v σ H fun σ' H' => u r σ' H' Q
theorem pgs_nil : PGs X [] gNil := by
  intro pins s σ H vs us Q I r h
  obtain ⟨e, h⟩ := h
  subst e
  cases r
  exact assignInOrder_nil ⟨σ, H, I, h⟩
theorem pgs_cons {e : Expr} {es : List Expr} {t : TG} {u : TGs} (h1 : PG X e t) (h2 : PGs X es u)
    (hs : (assignEach (e :: es) X.env).map (·.2) = assign e X.env :: (assignEach es X.env).map (·.2) := by rfl) : PGs X (e :: es) (gCons t u) := by
  intro pins s σ H vs us Q I r h
  obtain ⟨v, vr, e1, h⟩ := h
  subst e1
  cases r with
  | cons r rr =>
    rw [hs]
    refine assignInOrder_cons (thn (h1 pins s σ H _ _ _ I r h) fun _ s1 ⟨σ1, H1, I1, q1⟩ => ?_)
    exact h2 pins s1 σ1 H1 _ _ Q I1 rr q1
/-- (a, b, ..) = a tuple of that length -/
def gTup (K : PySem.W.Frag) (n : Nat) (t : TGs) : TG := fun v σ H Q => ∃ a xs, v = .ref a ∧ SqT K H a xs ∧ xs.length = n ∧ t xs σ H Q
theorem pg_tup {es : List Expr} {k : Nat} {t : TGs} {n : Nat} (hc : X.calm = true) (h : PGs X es t)
    (hn : (assignEach es X.env).length = n := by rfl) (hst : (assignEach es X.env).findIdx? (·.1) = none := by rfl) : PG X (.Tuple es k pos) (gTup X.K n t) := by
  intro pins s σ H v u Q I r hw
  obtain ⟨a, xs, e1, hq, hl, hw⟩ := hw
  subst e1
  cases r
  obtain ⟨its, rv, ht, hz⟩ := I.tuple hq
  refine assign_Tuple_tuple (I.ok.hd hc) ht (by simp [hn, ← hl, rv.length]) hst fun h' hx => ?_
  have I1 : Inv X pins σ H { s with heap := h' } := I.kept (t' := s.toks) fun b o e => hx b o (Nat.ne_of_lt (Heap.lt_size e)) e
  exact h pins _ σ H xs _ Q I1 (by simpa using rv) hw
/-- o[i] = .. -/
def gSub (to ti : TE) (t : TSet) : TG := fun v σ H Q => to σ H fun o H1 => ti σ H1 fun i H2 => t o i v H2 fun H3 => Q σ H3
theorem pg_sub {o i : Expr} {to ti : TE} {t : TSet} (ho : PE X o to) (hi : PE X i ti) (hs : PSet X t)
    (ha : ∀ v, assign (.Subscript o i pos) X.env v = (do
      let ov ← holding [v] (eval o X.env)
      let iv ← holding [v, ov] (eval i X.env)
      standAt pos
      holding [v, ov, iv] (setItem ov iv v)
      release [v, ov, iv] []) := by intro _; rfl) : PG X (.Subscript o i pos) (gSub to ti t) := by
  intro pins s σ H v u Q I r h
  rw [ha]
  refine wpAny_bind (wpAny_holding (thn (ho pins s σ H _ I h) fun ov s1 ⟨x, H1, I1, r1, q1⟩ => ?_))
  refine wpAny_bind (wpAny_holding (thn (hi pins s1 σ H1 _ I1 q1) fun iv s2 ⟨y, H2, I2, r2, q2⟩ => ?_))
  refine wpAny_bind (wpAny_standAt (wpAny_bind (wpAny_holding (thn (hs pins s2 σ H2 x y v ov iv u _ I2 r1 r2 r q2) fun _ s3 ⟨H3, I3, q3⟩ => ?_))))
  exact wpAny_release ⟨σ, H3, I3, q3⟩
/-- target = value -/
def tAsg (te : TE) (g : TG) : TS := fun D σ H => te σ H fun x H1 => g x σ H1 D.nx
theorem ps_asg {tg e : Expr} {te : TE} {g : TG} (he : PE X e te) (hg : PG X tg g) (hs : swapsWithSole [tg] e pos.line X.env = pure false := by rfl) (hw : swappedStores [tg] e X.env = pure none := by rfl)
    (h1 : (assignEach [tg] X.env).map (·.2) = [assign tg X.env] := by rfl) : PS X (.Assign [tg] e pos) (tAsg te g) := by
  intro pins s σ H D I h
  refine wpAny_Assign_stores (thn (he pins s σ H _ I h) fun v s1 ⟨x, H1, I1, r1, q1⟩ => ?_) hs hw
  rw [h1]
  exact thn (hg pins s1 σ H1 x v _ I1 r1 q1) fun _ s2 q => q
/-- name = value -/
theorem ps_set {i : Nat} {x : Str} {e : Expr} {te : TE} {pos' : Pos} (hN : X.N.Nodup) (hi : X.N[i]? = some x) (hx : Loc X.env.scope x) (he : PE X e te) (hs : swapsWith e (some (.Name x pos')) pos.line X.env = pure false := by rfl) (hf : X.fn x = true ∨ X.env.scope.names.lookup x = some .local := by first | exact .inl rfl | exact .inr rfl | assumption) :
    PS X (.Assign [.Name x pos'] e pos) (tAsg te (gName i)) := by
  intro pins s σ H D I h
  refine wpAny_Assign_Name (thn (he pins s σ H _ I h) fun v s1 ⟨y, H1, I1, r1, q1⟩ => ?_) hs
  exact store_ok I1 hN hi hx r1 (fun s2 I2 => ⟨_, H1, I2, q1⟩) hf
/-- a, b = x, y with plain local names: stored from the right; the pair itself is not tracked (the opening rows as in PyProof/Rows/TupAssign.lean:23) -/
def tPar (i j : Nat) (ta : TA) : TS := fun D σ H => ta σ H fun vs H1 => ∃ v w, vs = [v, w] ∧ D.nx ((σ.set i (some v)).set j (some w)) H1
theorem ps_par {i j : Nat} {x y : Str} {a b : Expr} {ta : TA} {px py pt : Pos} {kt k2 pt2} (hc : X.calm = true) (hN : X.N.Nodup) (hi : X.N[i]? = some x) (hj : X.N[j]? = some y) (hij : i ≠ j)
    (hx : X.env.scope.names.lookup x = some .local) (hy : X.env.scope.names.lookup y = some .local) (ha : PA X [a, b] ta)
    (hw : swappedStores [.Tuple [.Name x px, .Name y py] kt pt] (.Tuple [a, b] k2 pt2) X.env = pure (some [x, y]))
    (hs : swapsWithSole [.Tuple [.Name x px, .Name y py] kt pt] (.Tuple [a, b] k2 pt2) pos.line X.env = pure false := by rfl) :
    PS X (.Assign [.Tuple [.Name x px, .Name y py] kt pt] (.Tuple [a, b] k2 pt2) pos) (tPar i j ta) := by
  intro pins s σ H D I h
  rw [exec_Assign_arm]
  refine wpAny_bind (wpAny_standAt ?_)
  rw [hs]
  refine wpAny_bind (wpAny_pure ?_)
  rw [if_neg (by decide)]
  refine wpAny_bind (Tuple_ (thn (ha _ pins s σ H _ I h) fun us s1 ⟨vs, H1, I1, r1, q1⟩ => ?_))
  obtain ⟨v, w, e1, q1⟩ := q1
  subst e1
  obtain ⟨u1, u2, rfl, rv, rw'⟩ : ∃ u1 u2, us = [u1, u2] ∧ RelV v u1 ∧ RelV w u2 := by
    cases r1 with
    | cons p q =>
      cases q with
      | cons p' q' =>
        cases q'
        exact ⟨_, _, rfl, p, p'⟩
  refine wpAny_newObj_type ?_ (by show 2 ≤ sizeLine; decide)
  have I2 : Inv X pins σ H1 { s1 with heap := s1.heap.push { cls := .type "tuple", data := .seq [u1, u2].toArray } } := I1.kept (t' := s1.toks) fun b o e => Heap.get?_push_of_some _ e
  rw [hw]
  refine wpAny_bind (wpAny_pure ?_)
  show wpAny (model X.prog X.w) X.A (do rule "assign.swapped-stores"; let items ← unpackItems (.ref s1.heap.objs.size) 2 none; assignInOrder [fun v => bindName X.env y v, fun v => bindName X.env x v] items.reverse; pure Flow.next) _ _ _
  refine wpAny_bind (wpAny_rule (wpAny_bind (unpackItems_tuple (items := #[u1, u2]) (I.ok.hd hc) (IsTup.new s1.heap _) fun h' hx' => ?_)))
  have I3 := I2.kept (h' := h') (t' := s1.toks) fun b o e => hx' b o (Nat.ne_of_lt (Heap.lt_size e)) e
  show wpAny _ _ (assignInOrder [fun v => bindName X.env y v, fun v => bindName X.env x v] [u2, u1] >>= fun _ => pure Flow.next) _ _ _
  refine wpAny_bind (assignInOrder_cons (wpAny_bindName (store_ok I3 hN hj (.inl hy) rw' (fun s2 I4 => ?_) (.inr hy))))
  refine assignInOrder_cons (wpAny_bindName (store_ok I4 hN hi (.inl hx) rv (fun s3 I5 => assignInOrder_nil (wpAny_pure ?_)) (.inr hx)))
  rw [List.set_comm _ _ (Ne.symm hij)] at I5
  exact ⟨_, H1, I5, q1⟩
/-- name op= e -/
def tAug (i : Nat) (te : TE) (ti : TIp) : TS := fun D σ H => ∃ x, σ[i]? = some (some x) ∧ te σ H fun y H1 => ti x y H1 fun z H2 => D.nx (σ.set i (some z)) H2
theorem ps_aug {i : Nat} {x : Str} {e : Expr} {te : TE} {op : Operator} {ti : TIp} {pos' : Pos} (hN : X.N.Nodup) (hi : X.N[i]? = some x) (hx : Loc X.env.scope x) (he : PE X e te) (ho : PIp X op ti) (hf : X.fn x = true ∨ X.env.scope.names.lookup x = some .local := by first | exact .inl rfl | exact .inr rfl | assumption) :
    PS X (.AugAssign (.Name x pos') op e pos) (tAug i te ti) := by
  intro pins s σ H D I h
  obtain ⟨v, e1, h⟩ := h
  obtain ⟨m, hn, hl⟩ := I.loc
  have vis : Vis X.env.scope x := by rcases hx with k | k; exact .inl k; exact .inr (.inl k)
  obtain ⟨u, r, l⟩ := hl i x v hi e1 vis
  refine wpAny_AugAssign_Name ?_
  have go : wpAny (model X.prog X.w) X.A (eval e X.env) (fun w s₂ => wpAny (model X.prog X.w) X.A (inplaceOp op u w) (fun r s₃ => wpAny (model X.prog X.w) X.A (storeName X.env x r) (fun _ => SP X pins D .next) X.xe s₃) X.xe s₂) X.xe s := by
    refine thn (he pins s σ H _ I h) fun w s1 ⟨y, H1, I1, r1, q1⟩ => ?_
    refine thn (ho pins s1 σ H1 v y u w _ I1 r r1 q1) fun z s2 ⟨zv, H2, I2, r2, q2⟩ => ?_
    exact store_ok I2 hN hi hx r2 (fun s3 I3 => ⟨_, H2, I3, q2⟩) hf
  rcases l with ⟨hk, hm⟩ | ⟨hk, c, hc, hcell⟩
  · exact wpAny_loadName_local I.ok.kind hk hn hm go
  · rcases hk with hk | hk
    · exact wpAny_loadName_cell I.ok.kind hk hc hcell go
    · rcases hx with k | k
      · have : X.env.scope.names.lookup x = some .free := hk
        rw [k] at this; cases this
      · have : X.env.scope.names.lookup x = some .free := hk
        rw [k] at this; cases this
/-- o[i] op= e -/
def tAugS (to ti te : TE) (tget : V → V → Hp → VK → Prop) (tip : TIp) (tset : TSet) : TS := fun D σ H => to σ H fun o H1 => ti σ H1 fun i H2 => tget o i H2 fun x H3 => te σ H3 fun y H4 => tip x y H4 fun z H5 => tset o i z H5 fun H6 => D.nx σ H6
/-- o[i], by values -/
def PGet (X : Cx) (t : V → V → Hp → VK → Prop) : Prop :=
  ∀ (pins : List (Addr × Obj)) (s : Shared) (σ : St) (H : Hp) (o i : V) (ov iv : Value) (Q : VK), Inv X pins σ H s → RelV o ov → RelV i iv → t o i H Q →
    wpAny (model X.prog X.w) X.A (getItem ov iv) (EP X pins σ Q) X.xe s
theorem ps_augS {o i e : Expr} {to ti te : TE} {tget : V → V → Hp → VK → Prop} {tip : TIp} {tset : TSet} {op : Operator} {tpos : Pos} (ho : PE X o to) (hi : PE X i ti) (hg : PGet X tget) (he : PE X e te) (hp : PIp X op tip) (hs : PSet X tset)
    (ha : ∀ ov iv new, augStore i ov iv new = (do holding [new, ov, iv] (setItem ov iv new); release [new, ov, iv] []; pure .next) := by intros; rfl) : PS X (.AugAssign (.Subscript o i tpos) op e pos) (tAugS to ti te tget tip tset) := by
  intro pins s σ H D I h
  refine wpAny_AugAssign_SubscriptAny (thn (ho pins s σ H _ I h) fun ov s1 ⟨x1, H1, I1, r1, q1⟩ => ?_) ha
  refine thn (hi pins s1 σ H1 _ I1 q1) fun iv s2 ⟨x2, H2, I2, r2, q2⟩ => ?_
  refine thn (hg pins s2 σ H2 x1 x2 ov iv _ I2 r1 r2 q2) fun old s3 ⟨x3, H3, I3, r3, q3⟩ => ?_
  refine thn (he pins s3 σ H3 _ I3 q3) fun v s4 ⟨x4, H4, I4, r4, q4⟩ => ?_
  refine thn (hp pins s4 σ H4 x3 x4 old v _ I4 r3 r4 q4) fun new s5 ⟨x5, H5, I5, r5, q5⟩ => ?_
  exact thn (hs pins s5 σ H5 x1 x2 x5 ov iv new _ I5 r1 r2 r5 q5) fun _ s6 ⟨H6, I6, q6⟩ => ⟨σ, H6, I6, q6⟩
/-- ints -/
def ipI (f : Int → Int → Int) : TIp := fun x y H Q => ∃ i j, x = .int i ∧ y = .int j ∧ Q (.int (f i j)) H
theorem ip_add : PIp X .Add (ipI fun i j => i + j) := by
  intro pins s σ H x y v u Q I r1 r2 h
  obtain ⟨i, j, e1, e2, q⟩ := h
  subst e1; subst e2
  obtain ⟨t, rfl⟩ := r1
  obtain ⟨t', rfl⟩ := r2
  exact iadd_int ⟨.int _, H, I.tok _, ⟨_, rfl⟩, q⟩
theorem ip_sub : PIp X .Sub (ipI fun i j => i - j) := by
  intro pins s σ H x y v u Q I r1 r2 h
  obtain ⟨i, j, e1, e2, q⟩ := h
  subst e1; subst e2
  obtain ⟨t, rfl⟩ := r1
  obtain ⟨t', rfl⟩ := r2
  exact isub_int ⟨.int _, H, I.tok _, ⟨_, rfl⟩, q⟩
end

/-! ### while -/
section
variable {X : Cx} {pos : Pos}
/-- the invariant W with its measure -/
def tWhile (c : TT) (tb : TS) : TS := fun D σ H => ∃ W : Nat → St → Hp → Prop, (∃ m, W m σ H) ∧ ∀ m σ H, W m σ H →
  c σ H fun b H1 => if b = true then ∃ N : St → Hp → Prop, (∀ σ' H', N σ' H' → ∃ m', m' < m ∧ W m' σ' H') ∧ tb { D with nx := N, ct := N, bk := D.nx } σ H1 else D.nx σ H1
theorem ps_while {c : Expr} {body : List Stmt} {tc : TT} {tb : TS} (hp : PassesOwn (model X.prog X.w) X.A X.env X.xe) (hc : PT X c tc) (hb : PSs X body tb) : PS X (.While c body [] pos) (tWhile tc tb) := by
  intro pins s σ H D I h
  obtain ⟨W, ⟨m0, w0⟩, turn⟩ := h
  refine wpAny_While (codeAny_whileLoop (fun n s' => ∃ σ' H', Inv X pins σ' H' s' ∧ W n σ' H') ?_ m0 ⟨σ, H, I, w0⟩)
  rintro n s1 ⟨σ1, H1, I1, w1⟩
  refine wpAny_passesOwn hp (thn (hc pins s1 σ1 H1 _ I1 (turn n σ1 H1 w1)) fun b s2 ⟨H2, I2, q2⟩ => ?_)
  cases b with
  | true =>
    obtain ⟨N, hN, q2⟩ := q2
    rw [if_pos rfl]
    refine wpAny_passesOwn hp (thn (hb pins s2 σ1 H2 _ I2 q2) fun f s3 q3 => ?_)
    cases f with
    | next =>
      obtain ⟨σ3, H3, I3, n3⟩ := q3
      obtain ⟨m', hm, w3⟩ := hN σ3 H3 n3
      exact ⟨m', hm, σ3, H3, I3, w3⟩
    | cont =>
      obtain ⟨σ3, H3, I3, n3⟩ := q3
      obtain ⟨m', hm, w3⟩ := hN σ3 H3 n3
      exact ⟨m', hm, σ3, H3, I3, w3⟩
    | brk => exact q3
    | ret v => exact q3
  | false =>
    rw [if_neg Bool.false_ne_true]
    exact wpAny_execs_nil ⟨σ1, H2, I2, q2⟩
end

/-! ### what a loop or a comprehension walks -/
/-- at turn i: it yields x (the heap may grow), or it stops -/
structure It where
  go : Nat → Hp → Prop
  yld : Nat → Hp → V → Hp → Prop
  stop : Nat → Hp → Prop
/-- the iterator's own objects may turn: they are not the frame's, not pinned, younger than the entry (or a comprehension's own) -/
def FpOk (X : Cx) (pins : List (Addr × Obj)) (H : Hp) (b : Addr) : Prop :=
  H b = none ∧ b ≠ X.env.locals ∧ b ∉ X.fs ∧ (b ∈ X.ex ∨ X.s₀.heap.objs.size ≤ b) ∧ (∀ x c, X.env.cells.lookup x = some c → c ≠ b) ∧ ∀ p ∈ X.pn ++ pins, p.1 ≠ b
theorem Inv.fpOk {X : Cx} {pins : List (Addr × Obj)} {σ : St} {H H' : Hp} {s : Shared} {b : Addr} (I : Inv X pins σ H s) (hb : s.heap.objs.size ≤ b) (hn : H' b = none) : FpOk X pins H' b := by
  refine ⟨hn, Nat.ne_of_gt (Nat.lt_of_lt_of_le I.lt hb), I.nofs hb, .inr (Nat.le_trans I.sz hb), fun x c e z => ?_, fun p hp z => ?_⟩
  · obtain ⟨v, q⟩ := I.cell x c e
    exact absurd (Nat.lt_of_lt_of_le q.lt (by rw [z]; exact hb)) (Nat.lt_irrefl _)
  · exact absurd (Nat.lt_of_lt_of_le (Heap.lt_size (I.pin p hp).1) (by rw [z]; exact hb)) (Nat.lt_irrefl _)
structure Turn (P : Program) (w : World) (K : PySem.W.Frag) (tg : Expr) (J : It) (fp : List Addr) (it : Addr) (tn : Nat → Heap → Prop) : Prop where
  mem : it ∈ fp
  obj : ∀ i h, tn i h → ∀ b ∈ fp, ∃ o, h.get? b = some o ∧ ∀ v, o.data ≠ .cell v
  keep : ∀ i h h', tn i h → (∀ b ∈ fp, ∀ o, h.get? b = some o → h'.get? b = some o) → tn i h'
  item : ∀ (X : Cx), X.prog = P → X.w = w → X.K = K → X.calm = true → ∀ (i : Nat) (pins : List (Addr × Obj)) (s : Shared) (σ : St) (H : Hp) (E : Value → Shared → Prop), Inv X pins σ H s → (∀ b ∈ fp, FpOk X pins H b) → tn i s.heap → J.go i H →
    wpAny (model P w) X.A (pyNext (.ref it)) (fun r s1 => ∃ u, r = some u ∧
      wpAny (model P w) X.A (letOwnedTupleGo tg (.ref it) u) (fun _ s2 => ∃ x H', Inv X pins σ H' s2 ∧ RelV x u ∧ J.yld i H x H' ∧ tn (i + 1) s2.heap ∧ ∀ b ∈ fp, H' b = none) E s1) E s
  done : ∀ (X : Cx), X.prog = P → X.w = w → X.K = K → X.calm = true → ∀ (i : Nat) (pins : List (Addr × Obj)) (s : Shared) (σ : St) (H : Hp) (E : Value → Shared → Prop), Inv X pins σ H s → (∀ b ∈ fp, FpOk X pins H b) → tn i s.heap → J.stop i H →
    wpAny (model P w) X.A (pyNext (.ref it)) (fun r s1 => r = none ∧ Inv X pins σ H s1) E s
  self : ∀ (A : Around) (i : Nat) (s : Shared) (Q : Value → Shared → Prop) (E : Value → Shared → Prop), tn i s.heap → Q (.ref it) s → wpAny (model P w) A (pyIter (.ref it)) Q E s
abbrev TI := St → Hp → (It → Hp → Prop) → Prop
/-- an iterator has come -/
def PIE (X : Cx) (pins : List (Addr × Obj)) (σ : St) (tg : Expr) (R : It → Hp → Prop) (itv : Value) (s2 : Shared) : Prop :=
  ∃ (it : Addr) (fp : List Addr) (tn : Nat → Heap → Prop) (J : It) (H' : Hp), itv = .ref it ∧ Inv X pins σ H' s2 ∧ Turn X.prog X.w X.K tg J fp it tn ∧ tn 0 s2.heap ∧ (∀ b ∈ fp, FpOk X pins H' b) ∧ R J H'
def PI (X : Cx) (tg iter : Expr) (wi : TI) : Prop :=
  ∀ (pins : List (Addr × Obj)) (s : Shared) (σ : St) (H : Hp) (R : It → Hp → Prop), Inv X pins σ H s → wi σ H R →
    wpAny (model X.prog X.w) X.A (eval iter X.env) (fun v s1 => wpAny (model X.prog X.w) X.A (pyIter v) (PIE X pins σ tg R) X.xe s1) X.xe s

/-- the step ahead of the store is nothing for an iterator that keeps no tuple -/
theorem go_of {M : Model} {A : Around} {E : Value → Shared → Prop} {s : Shared} {tg : Expr} {it : Addr} {u : Value} {o : Obj} {n : String} {vs : Array Value} {Q : Unit → Shared → Prop} (ho : s.heap.get? it = some o) (hc : o.cls = .type n) (hd : o.data = .fields vs)
    (hn : ["enumerate", "zip", "dict_itemiterator", "dict_reverseitemiterator", "odict_iterator", "itertools.zip_longest", "itertools.pairwise"].contains n = false) (hQ : Q () s) : wpAny M A (letOwnedTupleGo tg (.ref it) u) Q E s := by
  unfold letOwnedTupleGo
  cases tg <;> first
    | exact wpAny_pure hQ
    | (cases u <;> first
        | exact wpAny_pure hQ
        | (refine wpAny_bind (wpAny_load ho ?_)
           rw [hc, hd]
           show wpAny M A (if (["enumerate", "zip", "dict_itemiterator", "dict_reverseitemiterator", "odict_iterator", "itertools.zip_longest", "itertools.pairwise"].contains n && vs[0]? == some (rawInt _)) = true then _ else _) Q E s
           rw [if_neg (by intro h; rw [hn, Bool.false_and] at h; cases h)]
           exact wpAny_pure hQ))

/-- the list at a, as it stands at each turn (a loop may append to it) -/
def Itl (K : PySem.W.Frag) (a : Addr) : It :=
  ⟨fun i H => ∃ xs x, SqL K H a xs ∧ xs[i]? = some x, fun i H x H' => H' = H ∧ ∀ xs, SqL K H a xs → xs[i]? = some x, fun i H => ∃ xs, SqL K H a xs ∧ xs.length ≤ i⟩
def Itt (K : PySem.W.Frag) (a : Addr) : It :=
  ⟨fun i H => ∃ xs x, SqT K H a xs ∧ xs[i]? = some x, fun i H x H' => H' = H ∧ ∀ xs, SqT K H a xs → xs[i]? = some x, fun i H => ∃ xs, SqT K H a xs ∧ xs.length ≤ i⟩
/-- lo, lo + 1, .. (n of them) -/
def Itr (lo : Int) (n : Nat) : It := ⟨fun i _ => i < n, fun i H x H' => H' = H ∧ x = .int (lo + i), fun i _ => n ≤ i⟩
theorem turn_list {P : Program} {w : World} {K : PySem.W.Frag} {tg : Expr} (a it : Addr) : Turn P w K tg (Itl K a) [it] it (fun i h => h.IsListIter it a i) where
  mem := by simp
  obj := fun i h st b hb => by
    have e : b = it := by simpa using hb
    subst e
    obtain ⟨o, e, c, d⟩ := st
    exact ⟨o, e, fun v z => by rw [d] at z; cases z⟩
  keep := fun i h h' st k => st.at fun o e => k it (by simp) o e
  item := by
    intro X hP hw hK hc i pins s σ H E I hf st hg
    subst hP hw hK
    obtain ⟨xs, x, hq, hx⟩ := hg
    obtain ⟨its, rv, p, hz⟩ := I.list hq
    obtain ⟨u, hu, ru⟩ := rv.get hx
    obtain ⟨f0, f1, f2, f3, f4, f5⟩ := hf it (by simp)
    refine wpAny_pyNext_list_item st p.isList (x := u) (by simpa using hu) fun h' st' sb => ?_
    have I1 : Inv X pins σ H { s with heap := h' } := I.turned (t' := s.toks) (fun b o hb e => (sb.2 b hb).trans e) f0 f1 f3 f4 f5
    obtain ⟨o, e, c, d⟩ := id st'
    exact ⟨u, rfl, go_of (s := { s with heap := h' }) e c d (by decide) ⟨x, H, I1, ru, ⟨rfl, fun ys hy => by rw [I.list_inj hy hq]; exact hx⟩, st', fun b hb => (hf b hb).1⟩⟩
  done := by
    intro X hP hw hK hc i pins s σ H E I hf st hg
    subst hP hw hK
    obtain ⟨xs, hq, hx⟩ := hg
    obtain ⟨its, rv, p, hz⟩ := I.list hq
    obtain ⟨f0, f1, f2, f3, f4, f5⟩ := hf it (by simp)
    have hl := rv.length
    exact wpAny_pyNext_list_end (I.ok.hd hc) st p.isList (by simp; omega) fun h' eb => ⟨rfl, I.turned (t' := s.toks) (fun b o hb e => eb b o hb e) f0 f1 f3 f4 f5⟩
  self := fun _ _ _ _ _ st h => wpAny_pyIter_listiter st h
theorem turn_tuple {P : Program} {w : World} {K : PySem.W.Frag} {tg : Expr} (a it : Addr) : Turn P w K tg (Itt K a) [it] it (fun i h => h.IsTupleIter it a i) where
  mem := by simp
  obj := fun i h st b hb => by
    have e : b = it := by simpa using hb
    subst e
    obtain ⟨o, e, c, d⟩ := st
    exact ⟨o, e, fun v z => by rw [d] at z; cases z⟩
  keep := fun i h h' st k => st.at fun o e => k it (by simp) o e
  item := by
    intro X hP hw hK hc i pins s σ H E I hf st hg
    subst hP hw hK
    obtain ⟨xs, x, hq, hx⟩ := hg
    obtain ⟨its, rv, p, hz⟩ := I.tuple hq
    obtain ⟨u, hu, ru⟩ := rv.get hx
    obtain ⟨f0, f1, f2, f3, f4, f5⟩ := hf it (by simp)
    refine wpAny_pyNext_tuple_item st (show s.heap.IsTuple a its.toArray from p) (x := u) (by simpa using hu) fun h' st' sb => ?_
    have I1 : Inv X pins σ H { s with heap := h' } := I.turned (t' := s.toks) (fun b o hb e => (sb.2 b hb).trans e) f0 f1 f3 f4 f5
    obtain ⟨o, e, c, d⟩ := id st'
    exact ⟨u, rfl, go_of (s := { s with heap := h' }) e c d (by decide) ⟨x, H, I1, ru, ⟨rfl, fun ys hy => by rw [I.tuple_inj hy hq]; exact hx⟩, st', fun b hb => (hf b hb).1⟩⟩
  done := by
    intro X hP hw hK hc i pins s σ H E I hf st hg
    subst hP hw hK
    obtain ⟨xs, hq, hx⟩ := hg
    obtain ⟨its, rv, p, hz⟩ := I.tuple hq
    obtain ⟨f0, f1, f2, f3, f4, f5⟩ := hf it (by simp)
    have hl := rv.length
    exact wpAny_pyNext_tuple_end (I.ok.hd hc) st (show s.heap.IsTuple a its.toArray from p) (by simp; omega) fun h' eb => ⟨rfl, I.turned (t' := s.toks) (fun b o hb e => eb b o hb e) f0 f1 f3 f4 f5⟩
  self := fun _ _ _ _ _ st h => wpAny_pyIter_tupleiter st h
theorem turn_range {P : Program} {w : World} {K : PySem.W.Frag} {tg : Expr} (it : Addr) (lo : Int) (n : Nat) : Turn P w K tg (Itr lo n) [it] it (fun i h => IsRangeIter h it (lo + (i : Nat) * 1) ((n : Int) - (i : Nat)) 1) where
  mem := by simp
  obj := fun i h st b hb => by
    have e : b = it := by simpa using hb
    subst e
    exact ⟨_, st, fun v z => by
      have z' : Data.fields _ = Data.cell v := z
      cases z'⟩
  keep := fun i h h' st k => k it (by simp) _ st
  item := by
    intro X hP hw hK hc i pins s σ H E I hf st hg
    subst hP hw hK
    obtain ⟨f0, f1, f2, f3, f4, f5⟩ := hf it (by simp)
    have W := Walks.range (prog := X.prog) (w := X.w) (I.ok.hd hc) it lo 1 n
    refine W.item i s _ _ hg st fun v h' tk hv st' kk => ?_
    obtain ⟨t, rfl⟩ := hv
    have I1 : Inv X pins σ H { s with heap := h', toks := tk } := I.turned (fun b o hb e => kk b o (by simpa using hb) e) f0 f1 f3 f4 f5
    refine ⟨_, rfl, go_of (s := { s with heap := h', toks := tk }) (n := "range_iterator") st' rfl rfl (by decide) ⟨.int (lo + i), H, I1, ⟨t, ?_⟩, ⟨rfl, rfl⟩, st', fun b hb => (hf b hb).1⟩⟩
    rw [Int.mul_one]
  done := by
    intro X hP hw hK hc i pins s σ H E I hf st hg
    subst hP hw hK
    obtain ⟨f0, f1, f2, f3, f4, f5⟩ := hf it (by simp)
    exact wpAny_pyNext_range_end (I.ok.hd hc) st (by have : n ≤ i := hg; omega) fun h' eb => ⟨rfl, I.turned (t' := s.toks) (fun b o hb e => eb b o hb e) f0 f1 f3 f4 f5⟩
  self := fun _ _ _ _ _ st h => wpAny_pyIter_rangeiter st h
end L2

namespace L2
open PySem PySem.Spec PyProof.Rows
section
variable {X : Cx} {tg : Expr}
def iList (K : PySem.W.Frag) (tl : TE) : TI := fun σ H R => tl σ H fun x H1 => ∃ a, x = .ref a ∧ (∃ xs, SqL K H1 a xs) ∧ R (Itl K a) H1
def iTup (K : PySem.W.Frag) (tl : TE) : TI := fun σ H R => tl σ H fun x H1 => ∃ a, x = .ref a ∧ (∃ xs, SqT K H1 a xs) ∧ R (Itt K a) H1
theorem pi_list {l : Expr} {tl : TE} (hl : PE X l tl) : PI X tg l (iList X.K tl) := by
  intro pins s σ H R I h
  refine thn (hl pins s σ H _ I h) fun v s1 ⟨x, H1, I1, r1, q1⟩ => ?_
  obtain ⟨a, e, ⟨xs, hq⟩, q⟩ := q1
  subst e
  cases r1
  obtain ⟨its, rv, p, hz⟩ := I1.list hq
  refine wpAny_pyIter_list p.isList ?_
  refine ⟨s1.heap.objs.size, [s1.heap.objs.size], _, _, H1, rfl, I1.kept (t' := s1.toks) fun b o e => Heap.get?_push_of_some _ e, turn_list a _, ⟨_, Heap.get?_push_size _ rfl, rfl, rfl⟩, fun b hb => ?_, q⟩
  have e : b = s1.heap.objs.size := by simpa using hb
  subst e
  exact I1.fpOk (Nat.le_refl _) (I1.hok.fresh (Nat.le_refl _))
theorem pi_tup {l : Expr} {tl : TE} (hl : PE X l tl) : PI X tg l (iTup X.K tl) := by
  intro pins s σ H R I h
  refine thn (hl pins s σ H _ I h) fun v s1 ⟨x, H1, I1, r1, q1⟩ => ?_
  obtain ⟨a, e, ⟨xs, hq⟩, q⟩ := q1
  subst e
  cases r1
  obtain ⟨its, rv, p, hz⟩ := I1.tuple hq
  refine wpAny_pyIter_tuple (show s1.heap.IsTuple a its.toArray from p) ?_
  refine ⟨s1.heap.objs.size, [s1.heap.objs.size], _, _, H1, rfl, I1.kept (t' := s1.toks) fun b o e => Heap.get?_push_of_some _ e, turn_tuple a _, ⟨_, Heap.get?_push_size _ rfl, rfl, rfl⟩, fun b hb => ?_, q⟩
  have e : b = s1.heap.objs.size := by simpa using hb
  subst e
  exact I1.fpOk (Nat.le_refl _) (I1.hok.fresh (Nat.le_refl _))
/-- a range object just made, walked -/
theorem range_it {pins : List (Addr × Obj)} {σ : St} {H : Hp} {s : Shared} {R : It → Hp → Prop} {E : Value → Shared → Prop} {lo hi : Int} {t u v : Tok} {tk : Nat} (I : Inv X pins σ H s) (h1 : -(2 ^ 62) ≤ lo) (h2 : lo < 2 ^ 62) (h3 : -(2 ^ 62) ≤ hi) (h4 : hi < 2 ^ 62)
    (q : R (Itr lo (hi - lo).toNat) H) : wpAny (model X.prog X.w) X.A (pyIter (.ref s.heap.objs.size)) (PIE X pins σ tg R) E { s with heap := s.heap.push { cls := .type "range", data := .fields #[.int lo t, .int hi u, .int 1 v] }, toks := tk } := by
  refine wpAny_pyIter_range (IsRange.new ..) (small_one h1 h2 h3 h4) ?_
  have I1 : Inv X pins σ H { s with heap := s.heap.push { cls := .type "range", data := .fields #[.int lo t, .int hi u, .int 1 v] }, toks := tk } := I.kept fun b o e => Heap.get?_push_of_some _ e
  refine ⟨(s.heap.push { cls := .type "range", data := .fields #[.int lo t, .int hi u, .int 1 v] }).objs.size, [(s.heap.push { cls := .type "range", data := .fields #[.int lo t, .int hi u, .int 1 v] }).objs.size], _, _, H, rfl,
    I1.kept (t' := tk) fun b o e => Heap.get?_push_of_some _ e, turn_range _ lo (hi - lo).toNat, ?_, fun b hb => ?_, q⟩
  · have e1 : lo + ((0 : Nat) : Int) * 1 = lo := by simp
    have e2 : (((hi - lo).toNat : Nat) : Int) - ((0 : Nat) : Int) = Builtin.Range.rangeSize lo hi 1 := by rw [rangeSize_one]; split <;> omega
    show IsRangeIter _ _ (lo + ((0 : Nat) : Int) * 1) ((((hi - lo).toNat : Nat) : Int) - ((0 : Nat) : Int)) 1
    rw [e1, e2]
    exact Heap.get?_push_size _ rfl
  · have e : b = (s.heap.push { cls := .type "range", data := .fields #[.int lo t, .int hi u, .int 1 v] }).objs.size := by simpa using hb
    subst e
    exact I1.fpOk (Nat.le_refl _) (I1.hok.fresh (Nat.le_refl _))
def iRng1 (ta : TA) : TI := fun σ H R => ta σ H fun vs H1 => ∃ j : Int, vs = [.int j] ∧ -(2 ^ 62) ≤ j ∧ j < 2 ^ 62 ∧ R (Itr 0 j.toNat) H1
def iRng2 (ta : TA) : TI := fun σ H R => ta σ H fun vs H1 => ∃ i j : Int, vs = [.int i, .int j] ∧ (-(2 ^ 62) ≤ i ∧ i < 2 ^ 62 ∧ -(2 ^ 62) ≤ j ∧ j < 2 ^ 62) ∧ R (Itr i (j - i).toNat) H1
theorem pi_range1 {a : Expr} {ta : TA} {p pos : Pos} (hg : Gl X "range") (hm : X.mg "range" = none) (ha : PA X [a] ta) (hs : starEach [a] X.env = [(false, eval a X.env)] := by rfl) : PI X tg (.Call (.Name "range" p) [a] [] pos) (iRng1 ta) := by
  intro pins s σ H R I h
  refine Call_ (ld_blt I hg hm boot_range (PyProof.Rows.callWith_type1 (thn (ha pos pins s σ H _ I h) fun us s1 ⟨vs, H1, I1, r1, q1⟩ => ?_) hs rfl))
  obtain ⟨j, e, q1, q2, q⟩ := q1
  subst e
  cases r1 with
  | cons r rr =>
    cases rr
    obtain ⟨t, rfl⟩ := r
    exact call_range_1 (range_it I1 (by omega) (by omega) q1 q2 (by simpa using q))
theorem pi_range2 {a b : Expr} {ta : TA} {p pos : Pos} (hg : Gl X "range") (hm : X.mg "range" = none) (ha : PA X [a, b] ta) (hs : starEach [a, b] X.env = [(false, eval a X.env), (false, eval b X.env)] := by rfl) (hs2 : starEach [b] X.env = [(false, eval b X.env)] := by rfl) :
    PI X tg (.Call (.Name "range" p) [a, b] [] pos) (iRng2 ta) := by
  intro pins s σ H R I h
  refine Call_ (ld_blt I hg hm boot_range (PyProof.Rows.callWith_type1 (thn (ha pos pins s σ H _ I h) fun us s1 ⟨vs, H1, I1, r1, q1⟩ => ?_) (by rw [hs, hs2]) (by rw [hs2]; rfl)))
  obtain ⟨i, j, e, ⟨q1, q2, q3, q4⟩, q⟩ := q1
  subst e
  cases r1 with
  | cons r rr =>
    cases rr with
    | cons r' rr =>
      cases rr
      obtain ⟨t, rfl⟩ := r
      obtain ⟨t', rfl⟩ := r'
      exact call_range_2 (range_it I1 q1 q2 q3 q4 q)

/-! ### for -/
/-- W: the invariant by the turn and a measure; N: what the body is to reach -/
def tFor (wi : TI) (g : TG) (tb : TS) : TS := fun D σ H => wi σ H fun J H1 => ∃ W : Nat → Nat → St → Hp → Prop, (∃ m, W 0 m σ H1) ∧ ∀ i m σ H, W i m σ H →
  (J.stop i H ∧ D.nx σ H) ∨ (J.go i H ∧ ∃ N : St → Hp → Prop, (∀ σ' H', N σ' H' → ∃ m', m' < m ∧ W (i + 1) m' σ' H') ∧ ∀ x H', J.yld i H x H' → g x σ H' fun σ2 H2 => tb { D with nx := N, ct := N, bk := D.nx } σ2 H2)
/-- the records at fp as they stand -/
def pinsAt (fp : List Addr) (h : Heap) : List (Addr × Obj) := fp.filterMap fun b => (h.get? b).map fun o => (b, o)
theorem mem_pinsAt {fp : List Addr} {h : Heap} {b : Addr} {o : Obj} (hb : b ∈ fp) (e : h.get? b = some o) : (b, o) ∈ pinsAt fp h := List.mem_filterMap.mpr ⟨b, hb, by rw [e]; rfl⟩
theorem of_pinsAt {fp : List Addr} {h : Heap} {p : Addr × Obj} (hp : p ∈ pinsAt fp h) : p.1 ∈ fp ∧ h.get? p.1 = some p.2 := by
  obtain ⟨b, hb, e⟩ := List.mem_filterMap.mp hp
  cases q : h.get? b with
  | none => rw [q] at e; cases e
  | some o =>
    rw [q] at e
    have e' : (b, o) = p := Option.some.inj e
    subst e'
    exact ⟨hb, q⟩
theorem Inv.pinned {pins : List (Addr × Obj)} {σ : St} {H : Hp} {s : Shared} {fp : List Addr} (I : Inv X pins σ H s) (hf : ∀ b ∈ fp, FpOk X pins H b) (ho : ∀ b ∈ fp, ∃ o, s.heap.get? b = some o ∧ ∀ v, o.data ≠ .cell v) : Inv X (pins ++ pinsAt fp s.heap) σ H s :=
  I.pins_of fun p hp => (List.mem_append.mp hp).elim (fun z => I.pin p (List.mem_append_right _ z)) fun z => by
    obtain ⟨hb, e⟩ := of_pinsAt z
    obtain ⟨f0, f1, f2, _⟩ := hf p.1 hb
    obtain ⟨o, e', d⟩ := ho p.1 hb
    rw [e] at e'; cases e'
    exact ⟨e, f0, f1, f2, d⟩
theorem Inv.unpinned {pins pl : List (Addr × Obj)} {σ : St} {H : Hp} {s : Shared} (I : Inv X (pins ++ pl) σ H s) : Inv X pins σ H s := I.pins_of fun p hp => I.pin p (List.mem_append_right _ (List.mem_append_left _ hp))
theorem ps_for {iter : Expr} {body : List Stmt} {wi : TI} {g : TG} {tb : TS} {pos : Pos} (hp : PassesOwn (model X.prog X.w) X.A X.env X.xe) (hc : X.calm = true) (hi : PI X tg iter wi) (hg : PG X tg g) (hb : PSs X body tb)
    (hs : ∀ x, foldedSetIterable iter X.env x = pure x := by intro _; rfl) : PS X (.For tg iter body [] pos) (tFor wi g tb) := by
  intro pins s σ H D I h
  refine wpAny_For (thn (hi pins s σ H _ I h) fun v s1 h1 => thn h1 fun itv s2 h2 => ?_) hs
  obtain ⟨it, fp, tn, J, H2, e, I2, T, st2, f2, W, ⟨m0, w0⟩, turn⟩ := h2
  subst e
  -- what stays true of the iterator's objects through the loop
  have stat : ∀ {H' : Hp}, (∀ b ∈ fp, H' b = none) → ∀ b ∈ fp, FpOk X pins H' b := fun hn b hb => ⟨hn b hb, (f2 b hb).2⟩
  refine codeAny_forLoop_any (fun n s' => ∃ i σ' H', Inv X pins σ' H' s' ∧ tn i s'.heap ∧ (∀ b ∈ fp, H' b = none) ∧ W i n σ' H') ?_ m0 ⟨0, σ, H2, I2, st2, fun b hb => (f2 b hb).1, w0⟩
  rintro n s3 ⟨i, σ3, H3, I3, st3, fr3, w3⟩
  rcases turn i n σ3 H3 w3 with ⟨stop, qn⟩ | ⟨go, N, hN, step⟩
  · refine wpAny_passesOwn hp (thn (T.done X rfl rfl rfl hc i pins s3 σ3 H3 X.xe I3 (stat fr3) st3 stop) fun r s4 ⟨hr, I4⟩ => ?_)
    subst hr
    exact wpAny_execs_nil ⟨σ3, H3, I4, qn⟩
  · refine wpAny_passesOwn hp (thn (T.item X rfl rfl rfl hc i pins s3 σ3 H3 X.xe I3 (stat fr3) st3 go) fun r s4 ⟨u, hr, h4⟩ => ?_)
    subst hr
    refine wpAny_passesOwn hp (thn h4 fun _ s5 ⟨x, H5, I5, r5, y5, st5, fr5⟩ => ?_)
    have I5' := I5.pinned (stat fr5) (T.obj _ _ st5)
    refine wpAny_passesOwn hp (thn (hg _ s5 σ3 H5 x u _ I5' r5 (step x H5 y5)) fun _ s6 ⟨σ6, H6, I6, q6⟩ => ?_)
    refine wpAny_passesOwn hp (thn (hb _ s6 σ6 H6 _ I6 q6) fun f s7 q7 => ?_)
    have again : ∀ {σ7 : St} {H7 : Hp}, Inv X (pins ++ pinsAt fp s5.heap) σ7 H7 s7 → N σ7 H7 → ∃ m, m < n ∧ ∃ i σ' H', Inv X pins σ' H' s7 ∧ tn i s7.heap ∧ (∀ b ∈ fp, H' b = none) ∧ W i m σ' H' := fun {σ7 H7} I7 n7 => by
      obtain ⟨m', hm, w7⟩ := hN σ7 H7 n7
      refine ⟨m', hm, i + 1, σ7, H7, I7.unpinned, T.keep _ _ _ st5 fun b hb o e => (I7.pin (b, o) (List.mem_append_right _ (List.mem_append_right _ (mem_pinsAt hb e)))).1, fun b hb => ?_, w7⟩
      obtain ⟨o, e, d⟩ := T.obj _ _ st5 b hb
      exact (I7.pin (b, o) (List.mem_append_right _ (List.mem_append_right _ (mem_pinsAt hb e)))).2.1
    cases f with
    | next => obtain ⟨σ7, H7, I7, n7⟩ := q7; exact again I7 n7
    | cont => obtain ⟨σ7, H7, I7, n7⟩ := q7; exact again I7 n7
    | brk => obtain ⟨σ7, H7, I7, q7⟩ := q7; exact ⟨σ7, H7, I7.unpinned, q7⟩
    | ret v => obtain ⟨x7, σ7, H7, I7, r7, q7⟩ := q7; exact ⟨x7, σ7, H7, I7.unpinned, r7, q7⟩
end

/-! ### the forms one uses -/
/-- over a list that the body leaves as it is -/
theorem for_list {K : PySem.W.Frag} {a : Addr} {xs : List V} {g : TG} {tb : TS} {D : Ends} {σ : St} {H : Hp} (Pv : Nat → St → Hp → Prop) (h0 : Pv 0 σ H) (hl : ∀ i σ H, i ≤ xs.length → Pv i σ H → SqL K H a xs)
    (hs : ∀ i x σ H, xs[i]? = some x → Pv i σ H → g x σ H fun σ2 H2 => tb { D with nx := Pv (i + 1), ct := Pv (i + 1), bk := D.nx } σ2 H2) (hd : ∀ σ H, Pv xs.length σ H → D.nx σ H) :
    ∃ W : Nat → Nat → St → Hp → Prop, (∃ m, W 0 m σ H) ∧ ∀ i m σ H, W i m σ H →
      ((Itl K a).stop i H ∧ D.nx σ H) ∨ ((Itl K a).go i H ∧ ∃ N : St → Hp → Prop, (∀ σ' H', N σ' H' → ∃ m', m' < m ∧ W (i + 1) m' σ' H') ∧ ∀ x H', (Itl K a).yld i H x H' → g x σ H' fun σ2 H2 => tb { D with nx := N, ct := N, bk := D.nx } σ2 H2) := by
  refine ⟨fun i m σ H => m = xs.length - i ∧ i ≤ xs.length ∧ Pv i σ H, ⟨xs.length, by simp, Nat.zero_le _, h0⟩, ?_⟩
  rintro i m σ H ⟨rfl, hi, p⟩
  have q := hl i σ H hi p
  by_cases hlt : i < xs.length
  · refine .inr ⟨⟨xs, xs[i], q, by simp [hlt]⟩, Pv (i + 1), fun σ' H' p' => ⟨xs.length - (i + 1), by omega, rfl, hlt, p'⟩, fun x H' y => ?_⟩
    obtain ⟨e, y⟩ := y
    subst e
    exact hs i x σ _ (y xs q) p
  · have e : i = xs.length := by omega
    subst e
    exact .inl ⟨⟨xs, q, Nat.le_refl _⟩, hd σ H p⟩
theorem for_tup {K : PySem.W.Frag} {a : Addr} {xs : List V} {g : TG} {tb : TS} {D : Ends} {σ : St} {H : Hp} (Pv : Nat → St → Hp → Prop) (h0 : Pv 0 σ H) (hl : ∀ i σ H, i ≤ xs.length → Pv i σ H → SqT K H a xs)
    (hs : ∀ i x σ H, xs[i]? = some x → Pv i σ H → g x σ H fun σ2 H2 => tb { D with nx := Pv (i + 1), ct := Pv (i + 1), bk := D.nx } σ2 H2) (hd : ∀ σ H, Pv xs.length σ H → D.nx σ H) :
    ∃ W : Nat → Nat → St → Hp → Prop, (∃ m, W 0 m σ H) ∧ ∀ i m σ H, W i m σ H →
      ((Itt K a).stop i H ∧ D.nx σ H) ∨ ((Itt K a).go i H ∧ ∃ N : St → Hp → Prop, (∀ σ' H', N σ' H' → ∃ m', m' < m ∧ W (i + 1) m' σ' H') ∧ ∀ x H', (Itt K a).yld i H x H' → g x σ H' fun σ2 H2 => tb { D with nx := N, ct := N, bk := D.nx } σ2 H2) := by
  refine ⟨fun i m σ H => m = xs.length - i ∧ i ≤ xs.length ∧ Pv i σ H, ⟨xs.length, by simp, Nat.zero_le _, h0⟩, ?_⟩
  rintro i m σ H ⟨rfl, hi, p⟩
  have q := hl i σ H hi p
  by_cases hlt : i < xs.length
  · refine .inr ⟨⟨xs, xs[i], q, by simp [hlt]⟩, Pv (i + 1), fun σ' H' p' => ⟨xs.length - (i + 1), by omega, rfl, hlt, p'⟩, fun x H' y => ?_⟩
    obtain ⟨e, y⟩ := y
    subst e
    exact hs i x σ _ (y xs q) p
  · have e : i = xs.length := by omega
    subst e
    exact .inl ⟨⟨xs, q, Nat.le_refl _⟩, hd σ H p⟩
theorem for_range {lo : Int} {n : Nat} {g : TG} {tb : TS} {D : Ends} {σ : St} {H : Hp} (Pv : Nat → St → Hp → Prop) (h0 : Pv 0 σ H)
    (hs : ∀ i σ H, i < n → Pv i σ H → g (.int (lo + i)) σ H fun σ2 H2 => tb { D with nx := Pv (i + 1), ct := Pv (i + 1), bk := D.nx } σ2 H2) (hd : ∀ σ H, Pv n σ H → D.nx σ H) :
    ∃ W : Nat → Nat → St → Hp → Prop, (∃ m, W 0 m σ H) ∧ ∀ i m σ H, W i m σ H →
      ((Itr lo n).stop i H ∧ D.nx σ H) ∨ ((Itr lo n).go i H ∧ ∃ N : St → Hp → Prop, (∀ σ' H', N σ' H' → ∃ m', m' < m ∧ W (i + 1) m' σ' H') ∧ ∀ x H', (Itr lo n).yld i H x H' → g x σ H' fun σ2 H2 => tb { D with nx := N, ct := N, bk := D.nx } σ2 H2) := by
  refine ⟨fun i m σ H => m = n - i ∧ i ≤ n ∧ Pv i σ H, ⟨n, by simp, Nat.zero_le _, h0⟩, ?_⟩
  rintro i m σ H ⟨rfl, hi, p⟩
  by_cases hlt : i < n
  · refine .inr ⟨hlt, Pv (i + 1), fun σ' H' p' => ⟨n - (i + 1), by omega, rfl, hlt, p'⟩, fun x H' y => ?_⟩
    obtain ⟨e, y⟩ := y
    subst e y
    exact hs i σ _ hlt p
  · have e : i = n := by omega
    subst e
    exact .inl ⟨Nat.le_refl _, hd σ H p⟩
/-- while, by a word and a measure of the state -/
theorem while_by {c : TT} {tb : TS} {D : Ends} {σ : St} {H : Hp} (Pv : St → Hp → Prop) (μ : St → Hp → Nat) (h0 : Pv σ H)
    (hs : ∀ σ H, Pv σ H → c σ H fun b H1 => if b = true then tb { D with nx := fun σ' H' => Pv σ' H' ∧ μ σ' H' < μ σ H, ct := fun σ' H' => Pv σ' H' ∧ μ σ' H' < μ σ H, bk := D.nx } σ H1 else D.nx σ H1)
    (mono : ∀ σ H Q Q', (∀ b H1, Q b H1 → Q' b H1) → c σ H Q → c σ H Q') : tWhile c tb D σ H := by
  refine ⟨fun m σ H => m = μ σ H ∧ Pv σ H, ⟨_, rfl, h0⟩, ?_⟩
  rintro m σ H ⟨rfl, p⟩
  refine mono σ H _ _ (fun b H1 q => ?_) (hs σ H p)
  cases b with
  | true => exact ⟨_, fun σ' H' ⟨p', l⟩ => ⟨_, l, rfl, p'⟩, q⟩
  | false => exact q
end L2

namespace L2
open PySem PySem.Spec PyProof.Rows

abbrev R2 := V → V → Hp → VK → Prop
/-- a two-place operation on values: f is binaryOp op, inplaceOp op or compareOp op -/
def OpR (X : Cx) (f : Value → Value → Sem Value) (r : R2) : Prop :=
  ∀ (pins : List (Addr × Obj)) (s : Shared) (σ : St) (H : Hp) (x y : V) (v u : Value) (Q : VK), Inv X pins σ H s → RelV x v → RelV y u → r x y H Q →
    wpAny (model X.prog X.w) X.A (f v u) (EP X pins σ Q) X.xe s
/-- a one-place operation -/
def UnR (X : Cx) (f : Value → Sem Value) (r : V → Hp → VK → Prop) : Prop :=
  ∀ (pins : List (Addr × Obj)) (s : Shared) (σ : St) (H : Hp) (x : V) (v : Value) (Q : VK), Inv X pins σ H s → RelV x v → r x H Q →
    wpAny (model X.prog X.w) X.A (f v) (EP X pins σ Q) X.xe s
/-- a call of a value that is known (a builtin, a type) with values -/
def CallR (X : Cx) (f : Value) (r : List V → Hp → VK → Prop) : Prop :=
  ∀ (pins : List (Addr × Obj)) (s : Shared) (σ : St) (H : Hp) (xs : List V) (us : List Value) (Q : VK), Inv X pins σ H s → Vals xs us → r xs H Q →
    wpAny (model X.prog X.w) X.A (call f us) (EP X pins σ Q) X.xe s
/-- a value's truth -/
def TruR (X : Cx) (r : V → Hp → (Bool → Hp → Prop) → Prop) : Prop :=
  ∀ (pins : List (Addr × Obj)) (s : Shared) (σ : St) (H : Hp) (x : V) (v : Value) (Q : Bool → Hp → Prop), Inv X pins σ H s → RelV x v → r x H Q →
    wpAny (model X.prog X.w) X.A (truthy v) (TP X pins σ Q) X.xe s

def tOp (r : R2) (ta tb : TE) : TE := fun σ H Q => ta σ H fun x H1 => tb σ H1 fun y H2 => r x y H2 Q
def tUn (r : V → Hp → VK → Prop) (ta : TE) : TE := fun σ H Q => ta σ H fun x H1 => r x H1 Q
/-- ints in, under C, and a value out -/
def rI (C : Int → Int → Prop) (g : Int → Int → V) : R2 := fun x y H Q => ∃ i j, x = .int i ∧ y = .int j ∧ C i j ∧ Q (g i j) H
def rI0 (g : Int → Int → V) : R2 := fun x y H Q => ∃ i j, x = .int i ∧ y = .int j ∧ Q (g i j) H
def rU (g : Int → V) : V → Hp → VK → Prop := fun x H Q => ∃ i, x = .int i ∧ Q (g i) H

section
variable {X : Cx} {a b c : Expr} {ta tb tc : TE} {pos : Pos}

theorem binT (ha : PE X a ta) (hb : PE X b tb) {pins : List (Addr × Obj)} {s : Shared} {σ : St} {H : Hp} {R : V → V → Hp → Prop} (I : Inv X pins σ H s)
    (h : ta σ H fun x H1 => tb σ H1 fun y H2 => R x y H2) {Q : Value → Shared → Prop} {f : Value → Value → Sem Value}
    (hf : ∀ v u s2 x y H2, Inv X pins σ H2 s2 → RelV x v → RelV y u → R x y H2 → wpAny (model X.prog X.w) X.A (f v u) Q X.xe s2) :
    wpAny (model X.prog X.w) X.A (eval a X.env) (fun v s₁ => wpAny (model X.prog X.w) X.A (eval b X.env) (fun u s₂ => wpAny (model X.prog X.w) X.A (f v u) Q X.xe s₂) X.xe s₁) X.xe s := by
  refine thn (ha pins s σ H _ I h) fun v s1 ⟨x, H1, I1, r1, q1⟩ => ?_
  refine thn (hb pins s1 σ H1 _ I1 q1) fun u s2 ⟨y, H2, I2, r2, q2⟩ => ?_
  exact hf v u s2 x y H2 I2 r1 r2 q2

theorem pe_op {op : Operator} {r : R2} (ho : OpR X (binaryOp op) r) (ha : PE X a ta) (hb : PE X b tb) : PE X (.BinOp a op b pos) (tOp r ta tb) := by
  intro pins s σ H Q I h
  exact wpAny_BinOp (binT ha hb I h fun v u s2 x y H2 I2 rx ry q => ho pins s2 σ H2 x y v u Q I2 rx ry q)
theorem pe_un {op : UnaryOp} {r : V → Hp → VK → Prop} (ho : UnR X (unaryOp op) r) (ha : PE X a ta) : PE X (.UnaryOp op a pos) (tUn r ta) := by
  intro pins s σ H Q I h
  exact UnaryOp_ (thn (ha pins s σ H _ I h) fun v s1 ⟨x, H1, I1, r1, q1⟩ => ho pins s1 σ H1 x v Q I1 r1 q1)
/-- a op= e at a name: the name's slot i -/
theorem augR {op : Operator} {r : R2} (ho : OpR X (inplaceOp op) r) {pins : List (Addr × Obj)} {s : Shared} {σ : St} {H : Hp} {x y : V} {v u : Value} {Q : VK} (I : Inv X pins σ H s)
    (rx : RelV x v) (ry : RelV y u) (q : r x y H Q) : wpAny (model X.prog X.w) X.A (inplaceOp op v u) (EP X pins σ Q) X.xe s := ho pins s σ H x y v u Q I rx ry q

/-! ### ints -/
theorem opI {f : Value → Value → Sem Value} {C : Int → Int → Prop} {g : Int → Int → Int}
    (rule : ∀ (i j : Int) (t u : Tok) (s : Shared) (Q : Value → Shared → Prop) (E : Value → Shared → Prop), C i j → Q (.int (g i j) s.toks) { s with toks := s.toks + 1 } → wpAny (model X.prog X.w) X.A (f (.int i t) (.int j u)) Q E s) :
    OpR X f (rI C fun i j => .int (g i j)) := by
  intro pins s σ H x y v u Q I rx ry h
  obtain ⟨i, j, rfl, rfl, hc, q⟩ := h
  obtain ⟨t, rfl⟩ := rx
  obtain ⟨t', rfl⟩ := ry
  exact rule i j t t' s _ _ hc ⟨.int (g i j), H, I.tok _, ⟨_, rfl⟩, q⟩
theorem opI0 {f : Value → Value → Sem Value} {g : Int → Int → Int}
    (rule : ∀ (i j : Int) (t u : Tok) (s : Shared) (Q : Value → Shared → Prop) (E : Value → Shared → Prop), Q (.int (g i j) s.toks) { s with toks := s.toks + 1 } → wpAny (model X.prog X.w) X.A (f (.int i t) (.int j u)) Q E s) :
    OpR X f (rI0 fun i j => .int (g i j)) := by
  intro pins s σ H x y v u Q I rx ry h
  obtain ⟨i, j, rfl, rfl, q⟩ := h
  obtain ⟨t, rfl⟩ := rx
  obtain ⟨t', rfl⟩ := ry
  exact rule i j t t' s _ _ ⟨.int (g i j), H, I.tok _, ⟨_, rfl⟩, q⟩
theorem opB0 {f : Value → Value → Sem Value} {g : Int → Int → Bool}
    (rule : ∀ (i j : Int) (t u : Tok) (s : Shared) (Q : Value → Shared → Prop) (E : Value → Shared → Prop), Q (.bool (g i j)) s → wpAny (model X.prog X.w) X.A (f (.int i t) (.int j u)) Q E s) :
    OpR X f (rI0 fun i j => .bl (g i j)) := by
  intro pins s σ H x y v u Q I rx ry h
  obtain ⟨i, j, rfl, rfl, q⟩ := h
  obtain ⟨t, rfl⟩ := rx
  obtain ⟨t', rfl⟩ := ry
  exact rule i j t t' s _ _ ⟨.bl (g i j), H, I, rfl, q⟩

def CDiv (i j : Int) : Prop := 0 < j ∧ j < 1073741824
def CDivN (i j : Int) : Prop := j ≠ 0 ∧ j.natAbs < 1073741824
def CPow (i j : Int) : Prop := 0 ≤ j ∧ j ≤ 1000000 ∧ i.natAbs < 2 ^ 64
def CMul (i j : Int) : Prop := (-(2 ^ 64) < i ∧ i < 2 ^ 64) ∨ (-(2 ^ 64) < j ∧ j < 2 ^ 64)
theorem CMul.ok {i j : Int} (h : CMul i j) : IntMulOk i j := by
  rcases h with ⟨h1, h2⟩ | ⟨h1, h2⟩
  · exact .of_left (intBits_le_64 h1 h2)
  · exact .of_right (intBits_le_64 h1 h2)
theorem two_pow_nn (k : Nat) : (0 : Int) ≤ 2 ^ k := by
  rw [two_pow_cast]
  exact Int.natCast_nonneg _

theorem op_add : OpR X (binaryOp .Add) (rI0 fun i j => .int (i + j)) := opI0 fun _ _ _ _ _ _ _ q => add_int q
theorem op_sub : OpR X (binaryOp .Sub) (rI0 fun i j => .int (i - j)) := opI0 fun _ _ _ _ _ _ _ q => sub_int q
theorem op_mul : OpR X (binaryOp .Mult) (rI CMul fun i j => .int (i * j)) := opI fun _ _ _ _ _ _ _ hc q => mul_int q hc.ok
/-- // by a positive divisor -/
theorem op_fdiv : OpR X (binaryOp .FloorDiv) (rI CDiv fun i j => .int (i / j)) := opI fun i j _ _ _ _ _ hc q => by
  have h1 : (0 : Int) < j := hc.1
  have h2 : j < 1073741824 := hc.2
  exact floordiv_int (by omega) (by rw [Int.fdiv_eq_ediv_of_nonneg i (by omega)]; exact q) (.inl (PyProof.noPylong_small (by omega)))
theorem op_fdivN : OpR X (binaryOp .FloorDiv) (rI CDivN fun i j => .int (i.fdiv j)) := opI fun _ _ _ _ _ _ _ hc q => floordiv_int hc.1 q (.inl (PyProof.noPylong_small hc.2))
/-- % by a positive divisor of any size -/
theorem op_mod : OpR X (binaryOp .Mod) (rI (fun _ j => 0 < j) fun i j => .int (i % j)) := opI fun i j _ _ _ _ _ hc q => by
  have h1 : (0 : Int) < j := hc
  exact mod_int' (by omega) (by rw [Int.fmod_eq_emod_of_nonneg i (by omega)]; exact q)
theorem op_modN : OpR X (binaryOp .Mod) (rI (fun _ j => j ≠ 0) fun i j => .int (i.fmod j)) := opI fun _ _ _ _ _ _ _ hc q => mod_int' hc q
theorem op_pow : OpR X (binaryOp .Pow) (rI CPow fun i j => .int (i ^ j.toNat)) := opI fun _ _ _ _ _ _ _ hc q => pow_int_small hc.1 hc.2.1 hc.2.2 q
theorem op_shl : OpR X (binaryOp .LShift) (rI CPow fun i j => .int (i * 2 ^ j.toNat)) := opI fun _ _ _ _ _ _ _ hc q => lshift_int_small hc.1 hc.2.1 hc.2.2 q
theorem op_shr : OpR X (binaryOp .RShift) (rI (fun _ j => 0 ≤ j) fun i j => .int (i / 2 ^ j.toNat)) := opI fun i j _ _ _ _ _ hc q =>
  rshift_int hc (by rw [Int.fdiv_eq_ediv_of_nonneg i (two_pow_nn _)]; exact q)
theorem op_and : OpR X (binaryOp .BitAnd) (rI0 fun i j => .int (Builtin.bitAnd i j)) := opI0 fun _ _ _ _ _ _ _ q => and_int q
theorem op_or : OpR X (binaryOp .BitOr) (rI0 fun i j => .int (Builtin.bitOr i j)) := opI0 fun _ _ _ _ _ _ _ q => or_int q
theorem op_xor : OpR X (binaryOp .BitXor) (rI0 fun i j => .int (Builtin.bitXor i j)) := opI0 fun _ _ _ _ _ _ _ q => xor_int q

theorem iop_add : OpR X (inplaceOp .Add) (rI0 fun i j => .int (i + j)) := opI0 fun _ _ _ _ _ _ _ q => iadd_int q
theorem iop_sub : OpR X (inplaceOp .Sub) (rI0 fun i j => .int (i - j)) := opI0 fun _ _ _ _ _ _ _ q => isub_int q
theorem iop_mul : OpR X (inplaceOp .Mult) (rI CMul fun i j => .int (i * j)) := opI fun _ _ _ _ _ _ _ hc q => imul_int q hc.ok
theorem iop_fdiv : OpR X (inplaceOp .FloorDiv) (rI CDiv fun i j => .int (i / j)) := opI fun i j _ _ _ _ _ hc q => by
  have h1 : (0 : Int) < j := hc.1
  have h2 : j < 1073741824 := hc.2
  exact ifloordiv_int (by omega) (by rw [Int.fdiv_eq_ediv_of_nonneg i (by omega)]; exact q) (.inl (PyProof.noPylong_small (by omega)))
theorem iop_mod : OpR X (inplaceOp .Mod) (rI (fun _ j => 0 < j) fun i j => .int (i % j)) := opI fun i j _ _ _ _ _ hc q => by
  have h1 : (0 : Int) < j := hc
  exact imod_int (by omega) (by rw [Int.fmod_eq_emod_of_nonneg i (by omega)]; exact q)
theorem iop_shl : OpR X (inplaceOp .LShift) (rI CPow fun i j => .int (i * 2 ^ j.toNat)) := opI fun _ _ _ _ _ _ _ hc q => ilshift_int_small hc.1 hc.2.1 hc.2.2 q
theorem iop_shr : OpR X (inplaceOp .RShift) (rI (fun _ j => 0 ≤ j) fun i j => .int (i / 2 ^ j.toNat)) := opI fun i j _ _ _ _ _ hc q =>
  irshift_int hc (by rw [Int.fdiv_eq_ediv_of_nonneg i (two_pow_nn _)]; exact q)
theorem iop_and : OpR X (inplaceOp .BitAnd) (rI0 fun i j => .int (Builtin.bitAnd i j)) := opI0 fun _ _ _ _ _ _ _ q => iand_int q
theorem iop_or : OpR X (inplaceOp .BitOr) (rI0 fun i j => .int (Builtin.bitOr i j)) := opI0 fun _ _ _ _ _ _ _ q => ior_int q
theorem iop_xor : OpR X (inplaceOp .BitXor) (rI0 fun i j => .int (Builtin.bitXor i j)) := opI0 fun _ _ _ _ _ _ _ q => ixor_int q

theorem unI {f : Value → Sem Value} {g : Int → Int}
    (rule : ∀ (i : Int) (t : Tok) (s : Shared) (Q : Value → Shared → Prop) (E : Value → Shared → Prop), Q (.int (g i) s.toks) { s with toks := s.toks + 1 } → wpAny (model X.prog X.w) X.A (f (.int i t)) Q E s) :
    UnR X f (rU fun i => .int (g i)) := by
  intro pins s σ H x v Q I rx h
  obtain ⟨i, rfl, q⟩ := h
  obtain ⟨t, rfl⟩ := rx
  exact rule i t s _ _ ⟨.int (g i), H, I.tok _, ⟨_, rfl⟩, q⟩
theorem un_neg : UnR X (unaryOp .USub) (rU fun i => .int (-i)) := unI fun _ _ _ _ _ q => neg_int q
theorem un_inv : UnR X (unaryOp .Invert) (rU fun i => .int (Builtin.bitNot i)) := unI fun _ _ _ _ _ q => invert_int q

/-! ### bools among ints: n += (a < b) -/
theorem op_add_ib : OpR X (binaryOp .Add) (fun x y H Q => ∃ i k, x = .int i ∧ y = .bl k ∧ Q (.int (i + b2i k)) H) := by
  intro pins s σ H x y v u Q I rx ry h
  obtain ⟨i, k, rfl, rfl, q⟩ := h
  obtain ⟨t, rfl⟩ := rx
  cases ry
  exact add_int_bool ⟨.int (i + b2i k), H, I.tok _, ⟨_, rfl⟩, q⟩
end

/-! ### comparisons -/
/-- the scalars that == tells apart as data does -/
def scal : V → V → Bool
  | .non, .non => true | .non, .int _ => true | .int _, .non => true | .non, .bl _ => true | .bl _, .non => true | .non, .str _ => true | .str _, .non => true
  | .int _, .int _ => true | .bl _, .bl _ => true | .str _, .str _ => true | .byt _, .byt _ => true
  | .int _, .str _ => true | .str _, .int _ => true | .bl _, .str _ => true | .str _, .bl _ => true
  | _, _ => false
def rEq : R2 := fun x y H Q => scal x y = true ∧ Q (.bl (decide (x = y))) H
def rNe : R2 := fun x y H Q => scal x y = true ∧ Q (.bl (!decide (x = y))) H

theorem dec_int {i j : Int} : decide (V.int i = V.int j) = (i == j) := by
  rw [Bool.eq_iff_iff]
  simp
theorem dec_bl {i j : Bool} : decide (V.bl i = V.bl j) = (i == j) := by
  rw [Bool.eq_iff_iff]
  simp
theorem dec_str {i j : Str} : decide (V.str i = V.str j) = (i == j) := by
  rw [Bool.eq_iff_iff]
  simp
theorem dec_byt {i j : Array UInt8} : decide (V.byt i = V.byt j) = (i.toList == j.toList) := by
  rw [Bool.eq_iff_iff]
  cases i
  cases j
  simp

section
variable {X : Cx} {a b c : Expr} {ta tb tc : TE} {pos : Pos}
theorem fin_bl {pins : List (Addr × Obj)} {σ : St} {H : Hp} {s : Shared} {Q : VK} {k k' : Bool} (I : Inv X pins σ H s) (q : Q (.bl k) H) (e : k = k') : EP X pins σ Q (.bool k') s := by
  subst e
  exact ⟨.bl k, H, I, rfl, q⟩
theorem op_eq : OpR X (compareOp .Eq) rEq := by
  intro pins s σ H x y v u Q I rx ry h
  obtain ⟨hs, q⟩ := h
  cases x with
  | non =>
    cases rx
    cases y with
    | non => cases ry; exact PySem.EqNone.eq_none_none (fin_bl I q (by simp))
    | bl j => cases ry; exact PySem.EqNone.eq_none_bool (fin_bl I q (by simp))
    | int j => obtain ⟨t', rfl⟩ := ry; exact PySem.EqNone.eq_none_int (fin_bl I q (by simp))
    | str j => obtain ⟨t', rfl⟩ := ry; exact PySem.EqNone.eq_none_str (fin_bl I q (by simp))
    | _ => exact absurd (show false = true from hs) Bool.false_ne_true
  | bl i =>
    cases rx
    cases y with
    | non => cases ry; exact PySem.EqNone.eq_bool_none (fin_bl I q (by simp))
    | bl j => cases ry; exact eq_bool (fin_bl I q dec_bl)
    | str j => obtain ⟨t', rfl⟩ := ry; exact PySem.EqMixed.eq_bool_str (fin_bl I q (by simp))
    | _ => exact absurd (show false = true from hs) Bool.false_ne_true
  | int i =>
    obtain ⟨t, rfl⟩ := rx
    cases y with
    | non => cases ry; exact PySem.EqNone.eq_int_none (fin_bl I q (by simp))
    | int j => obtain ⟨t', rfl⟩ := ry; exact eq_int (fin_bl I q dec_int)
    | str j => obtain ⟨t', rfl⟩ := ry; exact PySem.EqMixed.eq_int_str (fin_bl I q (by simp))
    | _ => exact absurd (show false = true from hs) Bool.false_ne_true
  | str i =>
    obtain ⟨t, rfl⟩ := rx
    cases y with
    | non => cases ry; exact PySem.EqNone.eq_str_none (fin_bl I q (by simp))
    | bl j => cases ry; exact PySem.EqMixed.eq_str_bool (fin_bl I q (by simp))
    | int j => obtain ⟨t', rfl⟩ := ry; exact PySem.EqMixed.eq_str_int (fin_bl I q (by simp))
    | str j => obtain ⟨t', rfl⟩ := ry; exact eq_str (fin_bl I q dec_str)
    | _ => exact absurd (show false = true from hs) Bool.false_ne_true
  | byt i =>
    obtain ⟨t, rfl⟩ := rx
    cases y with
    | byt j => obtain ⟨t', rfl⟩ := ry; exact PySem.W.eq_bytes (fin_bl I q dec_byt)
    | _ => exact absurd (show false = true from hs) Bool.false_ne_true
  | _ => cases y <;> exact absurd (show false = true from hs) Bool.false_ne_true
theorem op_ne : OpR X (compareOp .NotEq) rNe := by
  intro pins s σ H x y v u Q I rx ry h
  obtain ⟨hs, q⟩ := h
  cases x with
  | non =>
    cases rx
    cases y with
    | non => cases ry; exact PySem.EqNone.ne_none_none (fin_bl I q (by simp))
    | bl j => cases ry; exact PySem.EqNone.ne_none_bool (fin_bl I q (by simp))
    | int j => obtain ⟨t', rfl⟩ := ry; exact PySem.EqNone.ne_none_int (fin_bl I q (by simp))
    | str j => obtain ⟨t', rfl⟩ := ry; exact PySem.EqNone.ne_none_str (fin_bl I q (by simp))
    | _ => exact absurd (show false = true from hs) Bool.false_ne_true
  | bl i =>
    cases rx
    cases y with
    | non => cases ry; exact PySem.EqNone.ne_bool_none (fin_bl I q (by simp))
    | bl j => cases ry; exact ne_bool (fin_bl I q (congrArg not dec_bl))
    | str j => obtain ⟨t', rfl⟩ := ry; exact PySem.EqMixed.ne_bool_str (fin_bl I q (by simp))
    | _ => exact absurd (show false = true from hs) Bool.false_ne_true
  | int i =>
    obtain ⟨t, rfl⟩ := rx
    cases y with
    | non => cases ry; exact PySem.EqNone.ne_int_none (fin_bl I q (by simp))
    | int j => obtain ⟨t', rfl⟩ := ry; exact ne_int (fin_bl I q (congrArg not dec_int))
    | str j => obtain ⟨t', rfl⟩ := ry; exact PySem.EqMixed.ne_int_str (fin_bl I q (by simp))
    | _ => exact absurd (show false = true from hs) Bool.false_ne_true
  | str i =>
    obtain ⟨t, rfl⟩ := rx
    cases y with
    | non => cases ry; exact PySem.EqNone.ne_str_none (fin_bl I q (by simp))
    | bl j => cases ry; exact PySem.EqMixed.ne_str_bool (fin_bl I q (by simp))
    | int j => obtain ⟨t', rfl⟩ := ry; exact PySem.EqMixed.ne_str_int (fin_bl I q (by simp))
    | str j => obtain ⟨t', rfl⟩ := ry; exact ne_str (fin_bl I q (congrArg not dec_str))
    | _ => exact absurd (show false = true from hs) Bool.false_ne_true
  | byt i =>
    obtain ⟨t, rfl⟩ := rx
    cases y with
    | byt j => obtain ⟨t', rfl⟩ := ry; exact PySem.W.ne_bytes (fin_bl I q (congrArg not dec_byt))
    | _ => exact absurd (show false = true from hs) Bool.false_ne_true
  | _ => cases y <;> exact absurd (show false = true from hs) Bool.false_ne_true

theorem op_lt : OpR X (compareOp .Lt) (rI0 fun i j => .bl (decide (i < j))) := opB0 fun _ _ _ _ _ _ _ q => lt_int q
theorem op_le : OpR X (compareOp .LtE) (rI0 fun i j => .bl (decide (i ≤ j))) := opB0 fun _ _ _ _ _ _ _ q => le_int q
theorem op_gt : OpR X (compareOp .Gt) (rI0 fun i j => .bl (decide (j < i))) := opB0 fun _ _ _ _ _ _ _ q => gt_int q
theorem op_ge : OpR X (compareOp .GtE) (rI0 fun i j => .bl (decide (j ≤ i))) := opB0 fun _ _ _ _ _ _ _ q => ge_int q
theorem op_lt_str : OpR X (compareOp .Lt) (fun x y H Q => ∃ i j, x = .str i ∧ y = .str j ∧ Q (.bl (decide (i.cps.toList < j.cps.toList))) H) := by
  intro pins s σ H x y v u Q I rx ry h
  obtain ⟨i, j, rfl, rfl, q⟩ := h
  obtain ⟨t, rfl⟩ := rx
  obtain ⟨t', rfl⟩ := ry
  exact lt_str (fin_bl I q rfl)
/-- the one string within the other -/
theorem op_in_str : OpR X (compareOp .In) (fun x y H Q => ∃ i j, x = .str i ∧ y = .str j ∧ Q (.bl (!(Builtin.Str.occurrences j i 0 j.length 1).isEmpty)) H) := by
  intro pins s σ H x y v u Q I rx ry h
  obtain ⟨i, j, rfl, rfl, q⟩ := h
  obtain ⟨t, rfl⟩ := rx
  obtain ⟨t', rfl⟩ := ry
  exact in_str (fin_bl I q rfl)

/-- is None, is not None: the right side a value none -/
theorem op_isN : OpR X (compareOp .Is) (fun x y H Q => y = .non ∧ Q (.bl (decide (x = .non))) H) := by
  intro pins s σ H x y v u Q I rx ry h
  obtain ⟨rfl, q⟩ := h
  cases ry
  refine is_none_gen (fin_bl I q ?_)
  cases x <;> first
    | (cases rx; rfl)
    | (obtain ⟨t, rfl⟩ := rx; rfl)
theorem op_notN : OpR X (compareOp .IsNot) (fun x y H Q => y = .non ∧ Q (.bl (!decide (x = .non))) H) := by
  intro pins s σ H x y v u Q I rx ry h
  obtain ⟨rfl, q⟩ := h
  cases ry
  refine isnot_none_gen (fin_bl I q ?_)
  cases x <;> first
    | (cases rx; rfl)
    | (obtain ⟨t, rfl⟩ := rx; rfl)

theorem op_notin_str : OpR X (compareOp .NotIn) (fun x y H Q => ∃ i j, x = .str i ∧ y = .str j ∧ Q (.bl (!(!(Builtin.Str.occurrences j i 0 j.length 1).isEmpty))) H) := by
  intro pins s σ H x y v u Q I rx ry h
  obtain ⟨i, j, rfl, rfl, q⟩ := h
  obtain ⟨t, rfl⟩ := rx
  obtain ⟨t', rfl⟩ := ry
  exact notIn_str (fin_bl I q rfl)
/-- is, is not of two objects that are tracked lists or instances -/
def isObj : HO → Bool
  | .lst _ => true
  | .ins _ _ _ => true
  | _ => false
theorem obj_there {pins : List (Addr × Obj)} {s : Shared} {σ : St} {H : Hp} {a : Addr} {o : HO} (I : Inv X pins σ H s) (h : H a = some o) (p : isObj o = true) : ∃ ob, s.heap.get? a = some ob ∧ ob.cls ≠ .type "tuple" := by
  cases o with
  | lst xs =>
    obtain ⟨_, its, n, _, e⟩ : xs.length ≤ sizeLine ∧ ∃ (its : List Value) (n : Nat), Vals xs its ∧ s.heap.get? a = some { cls := .type "list", data := .seq its.toArray n } := I.hok a _ h
    exact ⟨_, e, (by show Value.type "list" ≠ .type "tuple"; decide +kernel)⟩
  | ins C dx fs =>
    have x := I.hok a _ h
    obtain ⟨_, _, _, e, _⟩ := x
    exact ⟨_, e, (by show Value.ref C ≠ .type "tuple"; exact fun z => by cases z)⟩
  | _ => exact absurd (show false = true from p) Bool.false_ne_true
theorem op_is_ref : OpR X (compareOp .Is) (fun x y H Q => ∃ a b oa ob, x = .ref a ∧ y = .ref b ∧ H a = some oa ∧ isObj oa = true ∧ H b = some ob ∧ isObj ob = true ∧ Q (.bl (decide (a = b))) H) := by
  intro pins s σ H x y v u Q I rx ry h
  obtain ⟨a, b, oa, ob, rfl, rfl, ha, pa, hb, pb, q⟩ := h
  cases rx
  cases ry
  obtain ⟨o1, e1, n1⟩ := obj_there I ha pa
  obtain ⟨o2, e2, _⟩ := obj_there I hb pb
  by_cases z : a = b
  · subst z
    exact wpAny_is_ref_self (fin_bl I q (by simp))
  · exact wpAny_is_ref_other z e1 e2 n1 (fin_bl I q (by simp [z]))
theorem op_isnot_ref : OpR X (compareOp .IsNot) (fun x y H Q => ∃ a b oa ob, x = .ref a ∧ y = .ref b ∧ H a = some oa ∧ isObj oa = true ∧ H b = some ob ∧ isObj ob = true ∧ Q (.bl (!decide (a = b))) H) := by
  intro pins s σ H x y v u Q I rx ry h
  obtain ⟨a, b, oa, ob, rfl, rfl, ha, pa, hb, pb, q⟩ := h
  cases rx
  cases ry
  obtain ⟨o1, e1, n1⟩ := obj_there I ha pa
  obtain ⟨o2, e2, _⟩ := obj_there I hb pb
  by_cases z : a = b
  · subst z
    exact wpAny_isNot_ref_self (fin_bl I q (by simp))
  · exact wpAny_isNot_ref_other z e1 e2 n1 (fin_bl I q (by simp [z]))

/-- two rules for one operation: by cases -/
theorem OpR.or {f : Value → Value → Sem Value} {r r' : R2} (h : OpR X f r) (h' : OpR X f r') : OpR X f (fun x y H Q => r x y H Q ∨ r' x y H Q) := by
  intro pins s σ H x y v u Q I rx ry q
  rcases q with q | q
  · exact h pins s σ H x y v u Q I rx ry q
  · exact h' pins s σ H x y v u Q I rx ry q

theorem nomark (b : Expr) {op : CmpOp} (h : op ≠ .In := by decide) (h2 : op ≠ .NotIn := by decide) : behindInMarks op b = false := by
  have e1 : (op == CmpOp.In) = false := by cases op <;> first | rfl | exact absurd rfl h
  have e2 : (op == CmpOp.NotIn) = false := by cases op <;> first | rfl | exact absurd rfl h2
  cases b <;> simp [behindInMarks, e1, e2]
/-- a comparison as a value; hm: nomark b, or (for in, not in) by with_unfolding_all rfl -/
theorem pe_cmpR {op : CmpOp} {r : R2} (ho : OpR X (compareOp op) r) (ha : PE X a ta) (hb : PE X b tb) (hm : behindInMarks op b = false) : PE X (.Compare a [op] [b] pos) (tOp r ta tb) := by
  intro pins s σ H Q I h
  exact wpAny_Compare1 (binT ha hb I h fun v u s2 x y H2 I2 rx ry q => ho pins s2 σ H2 x y v u Q I2 rx ry q) hm
/-- a reading of a value as a test -/
def tTest (t : TE) : TT := fun σ H Q => t σ H fun x H' => ∃ k, x = .bl k ∧ Q k H'
theorem pt_cmpR {op : CmpOp} {r : R2} (ho : OpR X (compareOp op) r) (ha : PE X a ta) (hb : PE X b tb) (hm : behindInMarks op b = false) : PT X (.Compare a [op] [b] pos) (tTest (tOp r ta tb)) := by
  intro pins s σ H Q I h
  refine wpAny_isTrue_Compare1 (thn (ha pins s σ H _ I h) fun v s1 ⟨x, H1, I1, r1, q1⟩ => thn (hb pins s1 σ H1 _ I1 q1) fun u s2 ⟨y, H2, I2, r2, q2⟩ =>
    thn (ho pins s2 σ H2 x y v u _ I2 r1 r2 q2) fun c s3 ⟨z, H3, I3, r3, k, e, q3⟩ => ?_) hm
  subst e
  cases r3
  exact wpAny_truthy_bool ⟨H3, I3, q3⟩
/-- a op1 b op2 c -/
def tChain (r r' : R2) (ta tb tc : TE) : TE := fun σ H Q => ta σ H fun x H1 => tb σ H1 fun y H2 => r x y H2 fun z H3 => ∃ k, z = .bl k ∧
  (if k = true then tc σ H3 fun w' H4 => r' y w' H4 Q else Q (.bl false) H3)
theorem pe_chain {op op' : CmpOp} {r r' : R2} (ho : OpR X (compareOp op) r) (ho' : OpR X (compareOp op') r') (ha : PE X a ta) (hb : PE X b tb) (hc : PE X c tc)
    (hm : lastMarks [op, op'] [b, c] = false := by with_unfolding_all rfl) : PE X (.Compare a [op, op'] [b, c] pos) (tChain r r' ta tb tc) := by
  intro pins s σ H Q I h
  refine Compare_chain (thn (ha pins s σ H _ I h) fun v s1 ⟨x, H1, I1, r1, q1⟩ => chain_link (thn (hb pins s1 σ H1 _ I1 q1) fun u s2 ⟨y, H2, I2, r2, q2⟩ =>
    thn (ho pins s2 σ H2 x y v u _ I2 r1 r2 q2) fun d s3 ⟨z, H3, I3, r3, k, e, q3⟩ => ?_)) hm
  subst e
  cases r3
  refine wpAny_truthy_bool ?_
  cases k with
  | false => exact ite_ff ⟨.bl false, H3, I3, rfl, q3⟩
  | true => exact ite_tt (chain_last (thn (hc pins s3 σ H3 _ I3 q3) fun w' s4 ⟨z', H4, I4, r4, q4⟩ => ho' pins s4 σ H4 y z' u w' Q I4 r2 r4 q4))
theorem pt_chain {op op' : CmpOp} {r r' : R2} (ho : OpR X (compareOp op) r) (ho' : OpR X (compareOp op') r') (ha : PE X a ta) (hb : PE X b tb) (hc : PE X c tc)
    (hm : lastMarks [op, op'] [b, c] = false := by with_unfolding_all rfl) : PT X (.Compare a [op, op'] [b, c] pos) (tTest (tChain r r' ta tb tc)) := by
  intro pins s σ H Q I h
  refine isTrue_chain (thn (ha pins s σ H _ I h) fun v s1 ⟨x, H1, I1, r1, q1⟩ => test_link (thn (hb pins s1 σ H1 _ I1 q1) fun u s2 ⟨y, H2, I2, r2, q2⟩ =>
    thn (ho pins s2 σ H2 x y v u _ I2 r1 r2 q2) fun d s3 ⟨z, H3, I3, r3, k, e, q3⟩ => ?_)) hm
  subst e
  cases r3
  refine wpAny_truthy_bool ?_
  cases k with
  | false =>
    obtain ⟨k', e', q'⟩ := q3
    cases e'
    exact ite_ff ⟨H3, I3, q'⟩
  | true =>
    refine ite_tt (test_last (thn (hc pins s3 σ H3 _ I3 q3) fun w' s4 ⟨z', H4, I4, r4, q4⟩ => thn (ho' pins s4 σ H4 y z' u w' _ I4 r2 r4 q4) fun d' s5 ⟨z2, H5, I5, r5, k2, e2, q5⟩ => ?_))
    subst e2
    cases r5
    exact wpAny_truthy_bool ⟨H5, I5, q5⟩

/-! ### truth -/
/-- a value's truth by the abstract heap -/
def TruV (K : PySem.W.Frag) (x : V) (H : Hp) (k : Bool) : Prop :=
  match x with
  | .non => k = false
  | .bl b => k = b
  | .int i => k = (i != 0)
  | .str y => y.length ≤ sizeLine ∧ k = ((y.length : Int) != 0)
  | .byt y => y.size ≤ sizeLine ∧ k = ((y.size : Int) != 0)
  | .ref p => (∃ xs, SqL K H p xs ∧ k = !xs.isEmpty) ∨ (∃ xs, SqT K H p xs ∧ k = !xs.isEmpty) ∨ ∃ kvs, H p = some (.dK kvs) ∧ k = !kvs.isEmpty
  | _ => False
theorem isEmpty_kv {κ : Type} {kvs : List (κ × V)} {vs : List (κ × Value)} (r : KV kvs vs) : (!vs.isEmpty) = !kvs.isEmpty := by
  cases r <;> rfl
theorem isEmpty_of {xs : List V} {its : List Value} (r : Vals xs its) : (!its.toArray.isEmpty) = !xs.isEmpty := by
  cases r <;> simp
theorem line63 : (sizeLine : Nat) < 2 ^ 63 := by rw [sizeLine_eq]; decide
theorem tru_ok : TruR X (fun x H Q => ∃ k, TruV X.K x H k ∧ Q k H) := by
  intro pins s σ H x v Q I rx h
  obtain ⟨k, e, q⟩ := h
  have hl := line63
  have hs : sizeLine = 16777216 := sizeLine_eq
  cases x with
  | non =>
    cases rx
    have e' : k = false := e
    subst e'
    exact truthy_none ⟨H, I, q⟩
  | bl b =>
    cases rx
    have e' : k = b := e
    subst e'
    exact wpAny_truthy_bool ⟨H, I, q⟩
  | int i =>
    obtain ⟨t, rfl⟩ := rx
    have e' : k = (i != 0) := e
    subst e'
    exact PySem.P.truthy_int ⟨H, I, q⟩
  | str y =>
    obtain ⟨t, rfl⟩ := rx
    obtain ⟨hy, e'⟩ : y.length ≤ sizeLine ∧ k = ((y.length : Int) != 0) := e
    subst e'
    exact PySem.P.truthy_str (by omega) ⟨H, I.tok _, q⟩
  | byt y =>
    obtain ⟨t, rfl⟩ := rx
    obtain ⟨hy, e'⟩ : y.size ≤ sizeLine ∧ k = ((y.size : Int) != 0) := e
    subst e'
    exact PySem.W.truthy_bytes (by omega) ⟨H, I.tok _, q⟩
  | ref p =>
    cases rx
    have e' : (∃ xs, SqL X.K H p xs ∧ k = !xs.isEmpty) ∨ (∃ xs, SqT X.K H p xs ∧ k = !xs.isEmpty) ∨ ∃ kvs, H p = some (.dK kvs) ∧ k = !kvs.isEmpty := e
    rcases e' with ⟨xs, hx, e'⟩ | ⟨xs, hx, e'⟩ | ⟨kvs, hx, e'⟩
    · subst e'
      obtain ⟨its, r, pl, hz⟩ := I.list hx
      have hlen := r.length
      exact wpAny_truthy_list pl.isList (by simp only [List.size_toArray]; omega) ⟨H, I.tok _, by rw [isEmpty_of r]; exact q⟩
    · subst e'
      obtain ⟨its, r, pl, hz⟩ := I.tuple hx
      have hlen := r.length
      exact truthy_tuple pl (by simp only [List.size_toArray]; omega) ⟨H, I.tok _, by rw [isEmpty_of r]; exact q⟩
    · subst e'
      obtain ⟨hz, hS, vs, r, m⟩ : kvs.length ≤ sizeLine ∧ (p == sysModules) = false ∧ ∃ vs, KV kvs vs ∧ s.heap.DictOf (mixKind X.prog X.w) p vs := I.hok p _ hx
      have hlen : kvs.length = vs.length := Paired.length r
      exact wpAny_truthy_dict hS m (by omega) ⟨H, I.tok _, by rw [isEmpty_kv r]; exact q⟩
  | _ => exact (show False from e).elim
/-- any expression whose test is its value's truth (a name, a call, a subscript, a field ..: he by fun _ => rfl) -/
theorem pt_truth (ha : PE X a ta) (he : ∀ whole, isTrue a X.env whole = (do let v ← whole; standAt a.pos; holding [v] (truthy v))) :
    PT X a (fun σ H Q => ta σ H fun x H' => ∃ k, TruV X.K x H' k ∧ Q k H') := by
  intro pins s σ H Q I h
  exact isTrue_plain (thn (ha pins s σ H _ I h) fun v s1 ⟨x, H1, I1, r1, q1⟩ => tru_ok pins s1 σ H1 x v Q I1 r1 q1) (he _)

/-! ### strs and bytes -/
theorem pe_byt {x : List UInt8} {k : Nat} : PE X (.Constant (.bytes x) k pos) (fun _ H Q => Q (.byt x.toArray) H) := fun _ _ _ H _ I h => PySem.W.Constant_bytes ⟨.byt x.toArray, H, I.tok _, ⟨_, rfl⟩, h⟩
theorem op_add_str : OpR X (binaryOp .Add) (fun x y H Q => ∃ i j, x = .str i ∧ y = .str j ∧ i.length + j.length ≤ sizeLine ∧ Q (.str (i ++ j)) H) := by
  intro pins s σ H x y v u Q I rx ry h
  obtain ⟨i, j, rfl, rfl, hz, q⟩ := h
  obtain ⟨t, rfl⟩ := rx
  obtain ⟨t', rfl⟩ := ry
  exact add_str (fun t' tk => ⟨.str (i ++ j), H, I.tok _, ⟨_, rfl⟩, q⟩) hz
theorem iop_add_str : OpR X (inplaceOp .Add) (fun x y H Q => ∃ i j, x = .str i ∧ y = .str j ∧ i.length + j.length ≤ sizeLine ∧ Q (.str (i ++ j)) H) := by
  intro pins s σ H x y v u Q I rx ry h
  obtain ⟨i, j, rfl, rfl, hz, q⟩ := h
  obtain ⟨t, rfl⟩ := rx
  obtain ⟨t', rfl⟩ := ry
  exact iadd_str (fun t' tk => ⟨.str (i ++ j), H, I.tok _, ⟨_, rfl⟩, q⟩) hz
theorem op_add_byt : OpR X (binaryOp .Add) (fun x y H Q => ∃ i j, x = .byt i ∧ y = .byt j ∧ i.size + j.size ≤ 16777216 ∧ Q (.byt (i ++ j)) H) := by
  intro pins s σ H x y v u Q I rx ry h
  obtain ⟨i, j, rfl, rfl, hz, q⟩ := h
  obtain ⟨t, rfl⟩ := rx
  obtain ⟨t', rfl⟩ := ry
  exact PySem.W.KBy.add_bytes hz (fun t' tk => ⟨.byt (i ++ j), H, I.tok _, ⟨_, rfl⟩, q⟩)

def PlainIxT (b : Expr) : Prop := ∀ o i, subscripted b false o i = operate [o, i] (getItem o i)
/-- s[i], 0 ≤ i < len -/
theorem pe_item_str (ha : PE X a ta) (hb : PE X b tb) (hs : PlainIxT b) :
    PE X (.Subscript a b pos) (tOp (fun x y H Q => ∃ z i c, x = .str z ∧ y = .int i ∧ 0 ≤ i ∧ i < 2 ^ 63 ∧ i < z.length ∧ z.cps[i.toNat]? = some c ∧ Q (.str ⟨#[c]⟩) H) ta tb) := by
  intro pins s σ H Q I h
  refine Subscript_ (binT ha hb I h fun v u s2 x y H2 I2 rx ry q => ?_)
  obtain ⟨z, i, c, rfl, rfl, h0, h63, h1, hc, q⟩ := q
  obtain ⟨t, rfl⟩ := rx
  obtain ⟨t', rfl⟩ := ry
  have e : seqIndex? i z.length = some i.toNat := PySem.StrLaws.seqIndex_nonneg h0 h1
  exact tail_any (typeIs_str s2 z t) slot_str_getitem.lookup (getItem_str (c := c) (by
    have e1 : decide (i < -(2 ^ 63 : Int)) = false := decide_eq_false (by omega)
    have e2 : decide (i ≥ 2 ^ 63) = false := decide_eq_false (by omega)
    rw [e1, e2] <;> rfl) (by rw [e]; exact hc) ⟨.str ⟨#[c]⟩, H2, I2.tok _, ⟨_, rfl⟩, q⟩) (hs _ _)
/-- b[i], 0 ≤ i < len -/
theorem pe_item_byt (ha : PE X a ta) (hb : PE X b tb) (hs : PlainIxT b) :
    PE X (.Subscript a b pos) (tOp (fun x y H Q => ∃ (z : List UInt8) (i : Int), x = .byt z.toArray ∧ y = .int i ∧ z.length ≤ sizeLine ∧ 0 ≤ i ∧ i < z.length ∧ Q (.int ((z.getD i.toNat 0).toNat : Nat)) H) ta tb) := by
  intro pins s σ H Q I h
  refine Subscript_ (binT ha hb I h fun v u s2 x y H2 I2 rx ry q => ?_)
  obtain ⟨z, i, rfl, rfl, hz, h0, h1, q⟩ := q
  obtain ⟨t, rfl⟩ := rx
  obtain ⟨t', rfl⟩ := ry
  have hl : sizeLine = 16777216 := sizeLine_eq
  exact tail_any (PySem.W.typeIs_bytes s2 z.toArray t) PySem.W.FB.slot_bytes_getitem.lookup (PySem.W.getItem_bytes (by omega) h0 h1 ⟨.int ((z.getD i.toNat 0).toNat : Nat), H2, I2.tok _, ⟨_, rfl⟩, q⟩) (hs _ _)

/-! ### scalar builtins, by CallR -/
theorem vals1 {x : V} {us : List Value} (r : Vals [x] us) : ∃ u, us = [u] ∧ RelV x u := by
  cases r with
  | cons r1 r2 => cases r2; exact ⟨_, rfl, r1⟩
theorem vals2 {x y : V} {us : List Value} (r : Vals [x, y] us) : ∃ u w', us = [u, w'] ∧ RelV x u ∧ RelV y w' := by
  cases r with
  | cons r1 r2 =>
    cases r2 with
    | cons r3 r4 => cases r4; exact ⟨_, _, rfl, r1, r3⟩
theorem call_abs : CallR X (.builtin "abs") (fun xs H Q => ∃ i, xs = [.int i] ∧ Q (.int (if i < 0 then -i else i)) H) := by
  intro pins s σ H xs us Q I r h
  obtain ⟨i, rfl, q⟩ := h
  obtain ⟨u, rfl, t, rfl⟩ := vals1 r
  exact call_abs_int fun u tk => ⟨.int (if i < 0 then -i else i), H, I.tok _, ⟨_, rfl⟩, q⟩
theorem call_max2 (hc : X.calm = true) : CallR X (.builtin "max") (fun xs H Q => ∃ i j, xs = [.int i, .int j] ∧ Q (.int (if j > i then j else i)) H) := by
  intro pins s σ H xs us Q I r h
  obtain ⟨i, j, rfl, q⟩ := h
  obtain ⟨u, w', rfl, ⟨t, rfl⟩, ⟨t', rfl⟩⟩ := vals2 r
  refine max_two_ints (I.ok.hd hc) fun h' tk k => ⟨_, H, I.kept k, ?_, q⟩
  by_cases hj : j > i
  · rw [if_pos hj, if_pos hj]; exact ⟨_, rfl⟩
  · rw [if_neg hj, if_neg hj]; exact ⟨_, rfl⟩
theorem call_min2 (hc : X.calm = true) : CallR X (.builtin "min") (fun xs H Q => ∃ i j, xs = [.int i, .int j] ∧ Q (.int (if j < i then j else i)) H) := by
  intro pins s σ H xs us Q I r h
  obtain ⟨i, j, rfl, q⟩ := h
  obtain ⟨u, w', rfl, ⟨t, rfl⟩, ⟨t', rfl⟩⟩ := vals2 r
  refine min_two_ints (I.ok.hd hc) fun h' tk k => ⟨_, H, I.kept k, ?_, q⟩
  by_cases hj : j < i
  · rw [if_pos hj, if_pos hj]; exact ⟨_, rfl⟩
  · rw [if_neg hj, if_neg hj]; exact ⟨_, rfl⟩
theorem call_int1 : CallR X (.type "int") (fun xs H Q => (∃ i, xs = [.int i] ∧ Q (.int i) H) ∨ ∃ k, xs = [.bl k] ∧ Q (.int (if k then 1 else 0)) H) := by
  intro pins s σ H xs us Q I r h
  rcases h with ⟨i, rfl, q⟩ | ⟨k, rfl, q⟩
  · obtain ⟨u, rfl, t, rfl⟩ := vals1 r
    exact call_int_int ⟨.int i, H, I, ⟨_, rfl⟩, q⟩
  · obtain ⟨u, rfl, r1⟩ := vals1 r
    cases r1
    exact call_int_bool ⟨.int (if k then 1 else 0), H, I.tok _, ⟨_, rfl⟩, q⟩
theorem call_bool1 : CallR X (.type "bool") (fun xs H Q => (∃ i, xs = [.int i] ∧ Q (.bl (i != 0)) H) ∨ ∃ k, xs = [.bl k] ∧ Q (.bl k) H) := by
  intro pins s σ H xs us Q I r h
  rcases h with ⟨i, rfl, q⟩ | ⟨k, rfl, q⟩
  · obtain ⟨u, rfl, t, rfl⟩ := vals1 r
    exact call_bool_int ⟨.bl (i != 0), H, I, rfl, q⟩
  · obtain ⟨u, rfl, r1⟩ := vals1 r
    cases r1
    exact call_bool_bool ⟨.bl k, H, I, rfl, q⟩
theorem call_str_int : CallR X (.type "str") (fun xs H Q => ∃ i, xs = [.int i] ∧ i.natAbs.log2 < 1920 ∧ Q (.str (toString i)) H) := by
  intro pins s σ H xs us Q I r h
  obtain ⟨i, rfl, hz, q⟩ := h
  obtain ⟨u, rfl, t, rfl⟩ := vals1 r
  exact PySem.P.str_of_int hz ⟨.str _, H, I.tok _, ⟨_, rfl⟩, q⟩
theorem call_ord : CallR X (.builtin "ord") (fun xs H Q => ∃ x, xs = [.str x] ∧ x.length = 1 ∧ Q (.int (x.cps.getD 0 0 : Nat)) H) := by
  intro pins s σ H xs us Q I r h
  obtain ⟨x, rfl, hz, q⟩ := h
  obtain ⟨u, rfl, t, rfl⟩ := vals1 r
  exact ord_of_one hz ⟨.int _, H, I.tok _, ⟨_, rfl⟩, q⟩
theorem call_chr : CallR X (.builtin "chr") (fun xs H Q => ∃ i, xs = [.int i] ∧ 0 ≤ i ∧ i ≤ 1114111 ∧ Q (.str ⟨#[i.toNat]⟩) H) := by
  intro pins s σ H xs us Q I r h
  obtain ⟨i, rfl, h0, h1, q⟩ := h
  obtain ⟨u, rfl, t, rfl⟩ := vals1 r
  exact chr_of_range h0 h1 ⟨.str _, H, I.tok _, ⟨_, rfl⟩, q⟩
/-- len of a str, a bytes, a list, a tuple -/
def LenV (K : PySem.W.Frag) (x : V) (H : Hp) (n : Nat) : Prop :=
  match x with
  | .str y => y.length ≤ sizeLine ∧ n = y.length
  | .byt y => y.size ≤ sizeLine ∧ n = y.size
  | .ref p => (∃ xs, SqL K H p xs ∧ n = xs.length) ∨ ∃ xs, SqT K H p xs ∧ n = xs.length
  | _ => False
theorem call_len : CallR X (.builtin "len") (fun xs H Q => ∃ x n, xs = [x] ∧ LenV X.K x H n ∧ Q (.int n) H) := by
  intro pins s σ H xs us Q I r h
  obtain ⟨x, n, rfl, e, q⟩ := h
  obtain ⟨u, rfl, rx⟩ := vals1 r
  have hl := line63
  have hs : sizeLine = 16777216 := sizeLine_eq
  cases x with
  | str y =>
    obtain ⟨t, rfl⟩ := rx
    obtain ⟨hy, e'⟩ : y.length ≤ sizeLine ∧ n = y.length := e
    subst e'
    exact len_str (by omega) ⟨.int _, H, I.tok _, ⟨_, rfl⟩, q⟩
  | byt y =>
    obtain ⟨t, rfl⟩ := rx
    obtain ⟨hy, e'⟩ : y.size ≤ sizeLine ∧ n = y.size := e
    subst e'
    exact PySem.W.len_bytes (by omega) ⟨.int _, H, I.tok _, ⟨_, rfl⟩, q⟩
  | ref p =>
    cases rx
    have e' : (∃ xs, SqL X.K H p xs ∧ n = xs.length) ∨ ∃ xs, SqT X.K H p xs ∧ n = xs.length := e
    rcases e' with ⟨xs, hx, e'⟩ | ⟨xs, hx, e'⟩
    · subst e'
      obtain ⟨its, r', pl, hz⟩ := I.list hx
      have hlen := r'.length
      exact Calls.call_len_list pl.isList (by simp only [List.size_toArray]; omega) ⟨.int xs.length, H, I.tok _, ⟨_, by simp only [List.size_toArray]; rw [hlen]⟩, q⟩
    · subst e'
      obtain ⟨its, r', pl, hz⟩ := I.tuple hx
      have hlen := r'.length
      exact len_tuple pl (by simp only [List.size_toArray]; omega) ⟨.int xs.length, H, I.tok _, ⟨_, by simp only [List.size_toArray]; rw [hlen]⟩, q⟩
  | _ => exact (show False from e).elim
/-- divmod: a new tuple -/
theorem call_divmod : CallR X (.builtin "divmod") (fun xs H Q => ∃ i j, xs = [.int i, .int j] ∧ CDiv i j ∧ ∀ p, H p = none → Q (.ref p) (upd H p (.tup [.int (i / j), .int (i % j)]))) := by
  intro pins s σ H xs us Q I r h
  obtain ⟨i, j, rfl, ⟨h1, h2⟩, q⟩ := h
  obtain ⟨u, w', rfl, ⟨t, rfl⟩, ⟨t', rfl⟩⟩ := vals2 r
  refine divmod_int (by omega) ?_ (.inl (PyProof.noPylong_small (by omega)))
  rw [Int.fdiv_eq_ediv_of_nonneg i (by omega), Int.fmod_eq_emod_of_nonneg i (by omega)]
  have hn : H s.heap.objs.size = none := I.hok.fresh (Nat.le_refl _)
  refine ⟨.ref s.heap.objs.size, _, ?_, rfl, q _ hn⟩
  refine I.laid (fun b o e => Heap.get?_push_of_some _ e) (Nat.le_refl _) ⟨by simp only [List.length_cons, List.length_nil]; rw [sizeLine_eq]; decide, [.int (i / j) s.toks, .int (i % j) (s.toks + 1)], .cons ⟨_, rfl⟩ (.cons ⟨_, rfl⟩ .nil), ?_⟩
  exact ⟨_, Heap.get?_push_size s.heap rfl, rfl, 0, rfl⟩
end
end L2

namespace L2
open PySem PySem.Spec PyProof.Rows

/-! ### an instance, its attributes a map -/
structure ObjM (h : Heap) (x dx C : Addr) (mA : Str → Option Value) : Prop where
  obj : h.get? x = some (PySem.W.instObj C dx)
  ns : h.Ns1 dx mA
  ne : dx ≠ x

theorem lookIn_ns {h : Heap} {dx : Addr} {mA : Str → Option Value} (n : h.Ns1 dx mA) : ∃ od, h.get? dx = some od ∧ ∀ name, PySem.W.lookIn name od = some (mA name) := by
  obtain ⟨o, es, ep, ho, hd, hk, _, hm⟩ := n
  refine ⟨o, ho, fun name => ?_⟩
  have e := hm name
  unfold nsFind findBy at e
  rw [← Array.find?_toList] at e
  unfold PySem.W.lookIn
  rw [hd]
  dsimp only
  split
  · rename_i y q
    rw [q] at e
    exact congrArg some e
  · rename_i q
    rw [q] at e
    have a : es.toList.any (·.refKey) = false := by
      rw [List.any_eq_false]
      intro y hy
      obtain ⟨z, t, hkey⟩ := hk y (Array.mem_toList_iff.mp hy)
      simp [DictEntry.refKey, hkey]
    have a' : ¬ es.toList.any (·.refKey) = true := by rw [a]; exact Bool.false_ne_true
    rw [if_neg a']
    exact congrArg some e

theorem ObjM.look {h : Heap} {x dx C : Addr} {mA : Str → Option Value} (I : ObjM h x dx C mA) : ∃ od, PySem.W.InstAt h x (PySem.W.instObj C dx) C (some od) ∧ ∀ name, PySem.W.lookIn name od = some (mA name) :=
  let ⟨od, ho, hl⟩ := lookIn_ns I.ns
  ⟨od, ⟨I.obj, rfl, rfl, ho⟩, hl⟩

section
variable {prog : Program} {w : World} {A : Around} {E : Value → Shared → Prop} {s : Shared} {K : PySem.W.Frag} {x dx C f : Addr} {mA : Str → Option Value} {name : Str} {v : Value}

theorem get_map {expr : Bool} {Q : Value → Shared → Prop} (X : K.In s.heap) (I : ObjM s.heap x dx C mA) (hg : PySem.W.plainGet K C name = true) (hh : PySem.W.hasDictIn K C = true)
    (ha : PySem.W.findIn K (.ref C) name = some none) (hv : mA name = some v) (hv' : PySem.W.handedIn v = true) (h : Q v { s with toks := s.toks + 1 }) :
    wpAny (model prog w) A (getAttr (.ref x) name expr) Q E s := by
  obtain ⟨od, J, hl⟩ := I.look
  exact PySem.W.get_value X J (PySem.W.plainGet_of hg).1 (PySem.W.findObj_own hh ha rfl (by rw [hl, hv])) hv' h

theorem get_const {expr : Bool} {a : Value} {Q : Value → Shared → Prop} (X : K.In s.heap) (I : ObjM s.heap x dx C mA) (hg : PySem.W.plainGet K C name = true) (hh : PySem.W.hasDictIn K C = true)
    (ha : PySem.W.findIn K (.ref C) name = some (some a)) (hn : PySem.W.specialIn K a "__get__" = some none) (hc : PySem.W.copiedNames.contains name = false) (hv : mA name = none) (hv' : PySem.W.handedIn a = true)
    (h : Q a { s with toks := s.toks + 1 }) : wpAny (model prog w) A (getAttr (.ref x) name expr) Q E s := by
  obtain ⟨od, J, hl⟩ := I.look
  exact PySem.W.get_value X J (PySem.W.plainGet_of hg).1 (PySem.W.findObj_cls hh ha hn hv' hc (by rw [hl, hv])) hv' h

theorem get_meth {pl : Sem Bool} {Q : Value × List Value → Shared → Prop} (X : K.In s.heap) (I : ObjM s.heap x dx C mA) (hg : PySem.W.plainGet K C name = true)
    (hf : PySem.W.findIn K (.ref C) name = some (some (.ref f))) (ht : PySem.W.isFn K (.ref f) = true) (hv : mA name = none) (h : Q (.ref f, [.ref x]) s) :
    wpAny (model prog w) A (getMethod (.ref x) name pl) Q E s := by
  obtain ⟨od, J, hl⟩ := I.look
  exact PySem.W.method_fn X J (PySem.W.plainGet_of hg).1 (PySem.W.plainGet_of hg).2 hf (beq_iff_eq.mp ht) (by show (PySem.W.lookIn name od).map (·.isSome) = some false; rw [hl, hv]; rfl) h

theorem set_map {ns : List Str} {Q : Unit → Shared → Prop} (X : K.In s.heap) (I : ObjM s.heap x dx C mA)
    (hs : PySem.W.findIn K (.ref C) "__setattr__" = some (some (.builtin "object.__setattr__"))) (hp : PySem.W.plainOver K C = true) (ht : PySem.W.takerIn K C name = some none) (hh : PySem.W.hasDictIn K C = true)
    (hw : PySem.Within mA ns) (hsz : ns.length ≤ sizeLine)
    (h : ∀ h', ObjM h' x dx C (fun y => if y = name then some v else mA y) → Heap.SameBut dx s.heap h' → Q () { s with heap := h', toks := s.toks + 2 }) :
    wpAny (model prog w) A (setAttr (.ref x) name v) Q E s := by
  obtain ⟨od, J, hl⟩ := I.look
  refine PySem.W.set_plain X J hs (PySem.W.osa_open (s := { s with toks := s.toks + 1 }) (r := none) X J hp ht fun b => ?_)
  obtain ⟨cd, hc, hd'⟩ := PySem.W.any_some hh
  have hx : s.heap.get? x = some ⟨.ref C, some dx, .plain, #[]⟩ := I.obj
  refine wpAny_bind (wpAny_pure (wpAny_bind (wpAny_bind (wpAny_loadPart hx (wpAny_bind (PySem.W.Looks.here (s := { s with toks := s.toks + 1 }) (PySem.W.looks_clsIn X hc) ?_))))))
  rw [hd']
  refine wpAny_pure (a := some dx) (wpAny_bind (wpAny_pure (wpAny_bind ?_)))
  refine wpAny_nsSet1 (s := { s with toks := s.toks + 1 }) I.ns fun h' hn2 hs2 => ?_
  obtain ⟨oD, esD, epD, hoD, hdD, hcD⟩ := hn2.count (PySem.Within.cons name v hw)
  refine wpAny_bind (wpAny_lookBehind hoD (by rw [hdD]; exact pastItsLine_dict (Nat.le_trans hcD (by rw [List.length_cons]; omega))) ?_)
  exact wpAny_pure (h _ ⟨(hs2.2 _ (Ne.symm I.ne)).trans I.obj, hn2, I.ne⟩ hs2)

/-- C(..): the dict at the heap's end, the instance behind it; then its __init__ -/
theorem make_map {R : Result → Shared → Prop} {vs : List Value} {kw : List (Str × Value)} (X : K.In s.heap) (hm : PySem.W.makesIn K C = true)
    (hi : PySem.W.findIn K (.ref C) "__init__" = some (some (.ref f))) (hf : PySem.W.typeIn K (.ref f) = some (.type "function"))
    (h : codeAny (model prog w) (A.under (.builtin "type.__call__" ⟨.ref C :: vs, kw⟩)) (.call (.ref f) ⟨.ref (s.heap.objs.size + 1) :: vs, kw⟩) (PySem.W.InitBack (s.heap.objs.size + 1) R)
      { s with heap := (s.heap.push PySem.W.emptyDict).push (PySem.W.instObj C s.heap.objs.size) }) :
    codeAny (model prog w) A (.call (.ref C) ⟨vs, kw⟩) R s := by
  obtain ⟨hh, g, d, t, os⟩ := s
  exact PySem.W.make_core (PySem.W.makes_of X hm) (PySem.W.looks_findIn X hi) (fun self => PySem.W.bind_fn X self hf) (.inl rfl) h
/-- C() where there is no __init__ but object's -/
theorem make_map0 {R : Result → Shared → Prop} (X : K.In s.heap) (hm : PySem.W.makesIn K C = true)
    (hi : PySem.W.findIn K (.ref C) "__init__" = some (some (.builtin "object.__init__")))
    (hb : ∀ self, PySem.W.Looks (model prog w) s.heap (bindSpecial (.builtin "object.__init__") self) (.builtin "object.__init__", [self]))
    (h : codeAny (model prog w) (A.under (.builtin "type.__call__" ⟨[.ref C], []⟩)) (.call (.builtin "object.__init__") ⟨[.ref (s.heap.objs.size + 1)], []⟩) (PySem.W.InitBack (s.heap.objs.size + 1) R)
      { s with heap := (s.heap.push PySem.W.emptyDict).push (PySem.W.instObj C s.heap.objs.size) }) :
    codeAny (model prog w) A (.call (.ref C) ⟨[], []⟩) R s := by
  obtain ⟨hh, g, d, t, os⟩ := s
  exact PySem.W.make_core (PySem.W.makes_of X hm) (PySem.W.looks_findIn X hi) hb (.inr ⟨rfl, rfl⟩) h
end

/-! ### the attributes as a list of pairs -/
def putF (f : Str) (v : V) : List (Str × V) → List (Str × V)
  | [] => [(f, v)]
  | (g, x) :: r => if g = f then (g, v) :: r else (g, x) :: putF f v r
theorem lookup_putF (f g : Str) (v : V) : ∀ fs : List (Str × V), (putF f v fs).lookup g = if g = f then some v else fs.lookup g
  | [] => by
    show List.lookup g [(f, v)] = _
    by_cases h : g = f
    · have hb : (g == f) = true := beq_iff_eq.mpr h
      simp only [List.lookup, hb, if_pos h]
    · have hb : (g == f) = false := beq_eq_false_iff_ne.mpr h
      simp only [List.lookup, hb, if_neg h]
  | (k, x) :: r => by
    have ih := lookup_putF f g v r
    rw [show putF f v ((k, x) :: r) = (if k = f then (k, v) :: r else (k, x) :: putF f v r) from rfl]
    by_cases hk : k = f
    · rw [if_pos hk]
      by_cases h : g = k
      · have hb : (g == k) = true := beq_iff_eq.mpr h
        simp only [List.lookup, hb, if_pos (h.trans hk)]
      · have hb : (g == k) = false := beq_eq_false_iff_ne.mpr h
        simp only [List.lookup, hb, if_neg (fun e : g = f => h (e.trans hk.symm))]
    · rw [if_neg hk]
      by_cases h : g = k
      · have hb : (g == k) = true := beq_iff_eq.mpr h
        simp only [List.lookup, hb, if_neg (fun e : g = f => hk (h.symm.trans e))]
      · have hb : (g == k) = false := beq_eq_false_iff_ne.mpr h
        simp only [List.lookup, hb]
        exact ih
theorem keys_putF (f : Str) (v : V) : ∀ fs : List (Str × V), f ∈ (putF f v fs).map (·.1) ∧ ∀ g, g ∈ fs.map (·.1) → g ∈ (putF f v fs).map (·.1)
  | [] => ⟨by simp [putF], fun g h => by simp at h⟩
  | (k, x) :: r => by
    obtain ⟨i1, i2⟩ := keys_putF f v r
    rw [show putF f v ((k, x) :: r) = (if k = f then (k, v) :: r else (k, x) :: putF f v r) from rfl]
    by_cases hk : k = f
    · rw [if_pos hk]
      subst hk
      exact ⟨by simp, fun g h => by simpa using h⟩
    · rw [if_neg hk]
      refine ⟨?_, fun g h => ?_⟩
      · rw [List.map_cons]
        exact List.mem_cons_of_mem _ i1
      · rw [List.map_cons] at h ⊢
        rcases List.mem_cons.mp h with e | e
        · exact List.mem_cons.mpr (.inl e)
        · exact List.mem_cons_of_mem _ (i2 g e)
theorem length_putF (f : Str) (v : V) : ∀ fs : List (Str × V), (putF f v fs).length ≤ fs.length + 1
  | [] => by simp [putF]
  | (k, x) :: r => by
    have ih := length_putF f v r
    rw [show putF f v ((k, x) :: r) = (if k = f then (k, v) :: r else (k, x) :: putF f v r) from rfl]
    by_cases hk : k = f
    · rw [if_pos hk, List.length_cons, List.length_cons]; omega
    · rw [if_neg hk, List.length_cons, List.length_cons]; omega

theorem RelO.some_of {v : V} {o : Option Value} (r : RelO (some v) o) : ∃ u, o = some u ∧ RelV v u := by
  cases o with
  | none => exact (show False from r).elim
  | some u => exact ⟨u, rfl, r⟩
theorem RelO.none_of {o : Option Value} (r : RelO none o) : o = none := by
  cases o with
  | none => rfl
  | some u => exact (show False from r).elim
theorem handed_of {v : V} {u : Value} (r : RelV v u) : PySem.W.handedIn u = true := by
  cases v with
  | non => cases (show u = Value.none from r); rfl
  | bl b => cases (show u = Value.bool b from r); rfl
  | int i => obtain ⟨t, e⟩ := (show ∃ t, u = Value.int i t from r); cases e; rfl
  | str x => obtain ⟨t, e⟩ := (show ∃ t, u = Value.str x t from r); cases e; rfl
  | byt b => obtain ⟨t, e⟩ := (show ∃ t, u = Value.bytes b t from r); cases e; rfl
  | flt b => obtain ⟨t, e⟩ := (show ∃ t, u = Value.float b t from r); cases e; rfl
  | ref a => cases (show u = Value.ref a from r); rfl
  | ty n => cases (show u = Value.type n from r); rfl

section
variable {P : Program} {w : World} {H H' : Hp} {h h' : Heap} {a C dx : Addr} {fs fs' : List (Str × V)}
theorem ins_get (hok : HOk P w H h) (e : H a = some (.ins C dx fs)) : ∃ mA, ObjM h a dx C mA ∧ (∀ f, RelO (fs.lookup f) (mA f)) ∧ PySem.Within mA (fs.map (·.1)) ∧ fs.length ≤ 1000 ∧ H dx = some (.own a) := by
  obtain ⟨d, z, ne, ob, mA, n, r, q⟩ := (show ObjOk P w H h a (.ins C dx fs) from hok a _ e)
  exact ⟨mA, ⟨ob, n, ne⟩, r, q, z, d⟩
end

/-! ### what of the text a class must have -/
structure Cls (K : PySem.W.Frag) (C : Addr) : Prop where
  pg : PySem.W.plainGet K C Str.empty = true
  hd : PySem.W.hasDictIn K C = true
  po : PySem.W.plainOver K C = true
  sa : PySem.W.findIn K (.ref C) "__setattr__" = some (some (.builtin "object.__setattr__"))
theorem Cls.get {K : PySem.W.Frag} {C : Addr} (c : Cls K C) (f : Str) : PySem.W.plainGet K C f = true := c.pg
/-- no class of it has the name -/
def NoAttr (K : PySem.W.Frag) (C : Addr) (f : Str) : Prop := PySem.W.findIn K (.ref C) f = some none
theorem NoAttr.taker {K : PySem.W.Frag} {C : Addr} {f : Str} (n : NoAttr K C f) : PySem.W.takerIn K C f = some none := by
  unfold PySem.W.takerIn
  rw [show PySem.W.findIn K (.ref C) f = some none from n]
  rfl
/-- a constant of the class -/
structure Con (K : PySem.W.Frag) (C : Addr) (f : Str) (v : V) (u : Value) : Prop where
  at_ : PySem.W.findIn K (.ref C) f = some (some u)
  rel : RelV v u
  get : PySem.W.specialIn K u "__get__" = some none
  cp : PySem.W.copiedNames.contains f = false
/-- a method: a plain def of the class or of one above it -/
structure Meth (K : PySem.W.Frag) (C : Addr) (m : Str) (f : Addr) : Prop where
  at_ : PySem.W.findIn K (.ref C) m = some (some (.ref f))
  fn : PySem.W.isFn K (.ref f) = true
  kp : PySem.W.keepIn K (.ref f) = true

section
variable {X : Cx} {pins : List (Addr × Obj)} {σ : St} {H : Hp} {s : Shared} {a C dx : Addr} {fs : List (Str × V)} {f : Str} {v : V} {A : Around} {E : Value → Shared → Prop}

theorem getattr_ok {b : Bool} {Q : Value → Shared → Prop} (I : Inv X pins σ H s) (e : H a = some (.ins C dx fs)) (c : Cls X.K C) (n : NoAttr X.K C f) (l : fs.lookup f = some v)
    (h : ∀ u s', Inv X pins σ H s' → RelV v u → Q u s') : wpAny (model X.prog X.w) A (getAttr (.ref a) f b) Q E s := by
  obtain ⟨mA, O, r, _, _, _⟩ := ins_get I.hok e
  obtain ⟨u, hu, ru⟩ := RelO.some_of (v := v) (o := mA f) (by rw [← l]; exact r f)
  exact get_map I.kIn O (c.get f) c.hd n hu (handed_of ru) (h u _ (I.tok _) ru)

theorem getcon_ok {b : Bool} {u : Value} {Q : Value → Shared → Prop} (I : Inv X pins σ H s) (e : H a = some (.ins C dx fs)) (c : Cls X.K C) (k : Con X.K C f v u) (l : fs.lookup f = none)
    (h : ∀ s', Inv X pins σ H s' → Q u s') : wpAny (model X.prog X.w) A (getAttr (.ref a) f b) Q E s := by
  obtain ⟨mA, O, r, _, _, _⟩ := ins_get I.hok e
  have hn : mA f = none := RelO.none_of (by rw [← l]; exact r f)
  exact get_const I.kIn O (c.get f) c.hd k.at_ k.get k.cp hn (handed_of k.rel) (h _ (I.tok _))

theorem getmeth_ok {m : Str} {g : Addr} {pl : Sem Bool} {Q : Value × List Value → Shared → Prop} (I : Inv X pins σ H s) (e : H a = some (.ins C dx fs)) (c : Cls X.K C) (k : Meth X.K C m g) (l : fs.lookup m = none)
    (h : Q (.ref g, [.ref a]) s) : wpAny (model X.prog X.w) A (getMethod (.ref a) m pl) Q E s := by
  obtain ⟨mA, O, r, _, _, _⟩ := ins_get I.hok e
  have hn : mA m = none := RelO.none_of (by rw [← l]; exact r m)
  exact get_meth I.kIn O (c.get m) k.at_ k.fn hn h

theorem setattr_ok {y : V} {u : Value} {Q : Unit → Shared → Prop} (I : Inv X pins σ H s) (e : H a = some (.ins C dx fs)) (c : Cls X.K C) (n : NoAttr X.K C f) (hl : fs.length < 1000) (ry : RelV y u)
    (h : ∀ s', Inv X pins σ (upd H a (.ins C dx (putF f y fs))) s' → Q () s') : wpAny (model X.prog X.w) A (setAttr (.ref a) f u) Q E s := by
  obtain ⟨mA, O, r, wi, _, ho⟩ := ins_get I.hok e
  have hz : (fs.map (·.1)).length ≤ sizeLine := by rw [List.length_map, sizeLine_eq]; omega
  refine set_map I.kIn O c.sa c.po n.taker c.hd wi hz fun h' O' sb => h _ ?_
  have hd : ∃ o, h'.get? dx = some o := let ⟨o, _, _, e', _⟩ := O'.ns; ⟨o, e'⟩
  refine I.write (x := a) (e := dx) (by rw [e]; exact True.intro) (.inr ho) (fun b q hb z => (sb.2 b hb).trans z) hd ?_
  refine ⟨by rw [upd_ne O.ne]; exact ho, ?_, O.ne, O'.obj, _, O'.ns, fun g => ?_, fun g hg => ?_⟩
  · have := length_putF f y fs; omega
  · show RelO ((putF f y fs).lookup g) (if g = f then some u else mA g)
    rw [lookup_putF]
    by_cases q : g = f
    · rw [if_pos q, if_pos q]; exact ry
    · rw [if_neg q, if_neg q]; exact r g
  · by_cases q : g = f
    · rw [q]; exact (keys_putF f y fs).1
    · refine (keys_putF f y fs).2 g (wi g fun z => hg ?_)
      show (if g = f then some u else mA g) = none
      rw [if_neg q]; exact z

/-- a new instance, tracked, without attributes -/
theorem Inv.made (I : Inv X pins σ H s) : Inv X pins σ (upd (upd H s.heap.objs.size (.own (s.heap.objs.size + 1))) (s.heap.objs.size + 1) (.ins C s.heap.objs.size []))
    { s with heap := (s.heap.push PySem.W.emptyDict).push (PySem.W.instObj C s.heap.objs.size) } := by
  have e1 : (s.heap.push PySem.W.emptyDict).get? s.heap.objs.size = some PySem.W.emptyDict := Heap.get?_push_size s.heap rfl
  have e2 : ((s.heap.push PySem.W.emptyDict).push (PySem.W.instObj C s.heap.objs.size)).get? (s.heap.objs.size + 1) = some (PySem.W.instObj C s.heap.objs.size) := by
    have := Heap.get?_push_size (s.heap.push PySem.W.emptyDict) (o := PySem.W.instObj C s.heap.objs.size) rfl
    rwa [Heap.size_push] at this
  have e3 : (s.heap.push PySem.W.emptyDict).Ns s.heap.objs.size (fun _ => none) := ⟨PySem.W.emptyDict, #[], _, e1, rfl, (fun e he => absurd he (by simp)), fun _ => rfl⟩
  have I1 := I.laid (a := s.heap.objs.size) (o := .own (s.heap.objs.size + 1)) (h' := s.heap.push PySem.W.emptyDict) (t' := s.toks) (fun b u q => Heap.get?_push_of_some _ q) (Nat.le_refl _) ⟨_, e1⟩
  refine I1.laid (a := s.heap.objs.size + 1) (o := .ins C s.heap.objs.size []) (t' := s.toks) (fun b u q => Heap.get?_push_of_some _ q) (Nat.le_of_eq (Heap.size_push _ _)) ?_
  have ne : s.heap.objs.size ≠ s.heap.objs.size + 1 := Nat.ne_of_lt (Nat.lt_succ_self _)
  refine ⟨by rw [upd_ne ne, upd_same], Nat.zero_le _, ne, e2, fun _ => none, (Heap.Ns1.of_empty e3).at fun o q => Heap.get?_push_of_some _ q, fun _ => True.intro, fun y hy => absurd rfl hy⟩

/-- e.f where nothing but the object is asked: through attributeBase (super) and the last hold -/
theorem attr_of {prog : Program} {w : World} {env : Env} {e : Expr} {f : Str} {pos : Pos} {s : Shared} {Q : Value → Shared → Prop} (hb : attributeBase e f env (eval e env) = eval e env)
    (h : wpAny (model prog w) A (eval e env) (fun o s₁ => wpAny (model prog w) A (getAttr o f true) Q E s₁) E s) : wpAny (model prog w) A (eval (.Attribute e f pos) env) Q E s :=
  Attribute_any_ h (by rw [arm_eval_Attribute, hb])
end

/-! ### readings and rules -/
/-- e.f, an attribute of the instance -/
def tFld (K : PySem.W.Frag) (ta : TE) (f : Str) : TE := fun σ H Q => ta σ H fun x H1 => ∃ a C dx fs v, x = .ref a ∧ H1 a = some (.ins C dx fs) ∧ Cls K C ∧ NoAttr K C f ∧ fs.lookup f = some v ∧ Q v H1
/-- e.f, a constant of the class -/
def tCon (K : PySem.W.Frag) (ta : TE) (f : Str) : TE := fun σ H Q => ta σ H fun x H1 => ∃ a C dx fs v u, x = .ref a ∧ H1 a = some (.ins C dx fs) ∧ Cls K C ∧ Con K C f v u ∧ fs.lookup f = none ∧ Q v H1
/-- e.f = value -/
def sFld (K : PySem.W.Frag) (ta tv : TE) (f : Str) : TS := fun D σ H => tv σ H fun y H1 => ta σ H1 fun x H2 => ∃ a C dx fs, x = .ref a ∧ H2 a = some (.ins C dx fs) ∧ Cls K C ∧ NoAttr K C f ∧ fs.length < 1000 ∧
  D.nx σ (upd H2 a (.ins C dx (putF f y fs)))
/-- an augmented operator on two values -/
def InOp (X : Cx) (op : Operator) (rd : V → V → Hp → VK → Prop) : Prop :=
  ∀ (pins : List (Addr × Obj)) (s : Shared) (σ : St) (H : Hp) (x y : V) (u v : Value) (Q : VK), Inv X pins σ H s → RelV x u → RelV y v → rd x y H Q → wpAny (model X.prog X.w) X.A (inplaceOp op u v) (EP X pins σ Q) X.xe s
/-- e.f op= value -/
def sFldAug (K : PySem.W.Frag) (ta tv : TE) (rd : V → V → Hp → VK → Prop) (f : Str) : TS := fun D σ H => ta σ H fun x H1 => ∃ a C dx fs v, x = .ref a ∧ H1 a = some (.ins C dx fs) ∧ Cls K C ∧ NoAttr K C f ∧ fs.lookup f = some v ∧
  tv σ H1 fun y H2 => rd v y H2 fun z H3 => ∃ dx' fs', H3 a = some (.ins C dx' fs') ∧ fs'.length < 1000 ∧ D.nx σ (upd H3 a (.ins C dx' (putF f z fs')))

section
variable {X : Cx} {o e value : Expr} {f : Str} {pos pos' tpos : Pos} {ta tv : TE}
theorem pe_fld (he : PE X e ta) (hb : attributeBase e f X.env (eval e X.env) = eval e X.env) : PE X (.Attribute e f pos) (tFld X.K ta f) := by
  intro pins s σ H Q I h
  refine attr_of hb (thn (he pins s σ H _ I h) fun u s1 ⟨x, H1, I1, rx, a, C, dx, fs, v, ex, ea, c, n, l, q⟩ => ?_)
  subst ex
  obtain rfl : u = Value.ref a := rx
  exact getattr_ok I1 ea c n l fun u' s2 I2 ru => ⟨v, H1, I2, ru, q⟩
theorem pe_con (he : PE X e ta) (hb : attributeBase e f X.env (eval e X.env) = eval e X.env) : PE X (.Attribute e f pos) (tCon X.K ta f) := by
  intro pins s σ H Q I h
  refine attr_of hb (thn (he pins s σ H _ I h) fun u s1 ⟨x, H1, I1, rx, a, C, dx, fs, v, u0, ex, ea, c, k, l, q⟩ => ?_)
  subst ex
  obtain rfl : u = Value.ref a := rx
  exact getcon_ok I1 ea c k l fun s2 I2 => ⟨v, H1, I2, k.rel, q⟩
theorem ps_fld (ha : PE X o ta) (hv : PE X value tv) (hs : swapsWith value (some (.Attribute o f pos')) pos.line X.env = pure false) : PS X (.Assign [.Attribute o f pos'] value pos) (sFld X.K ta tv f) := by
  intro pins s σ H D I h
  refine plainObj_wpAny_Assign_Attribute (thn (hv pins s σ H _ I h) fun u s1 ⟨y, H1, I1, ry, q⟩ => thn (ha pins s1 σ H1 _ I1 q) fun ov s2 ⟨x, H2, I2, rx, a, C, dx, fs, ex, ea, c, n, l, q2⟩ => ?_) hs
  subst ex
  obtain rfl : ov = Value.ref a := rx
  exact setattr_ok I2 ea c n l ry fun s3 I3 => ⟨σ, _, I3, q2⟩
theorem ps_fldaug {op : Operator} {rd : V → V → Hp → VK → Prop} (ha : PE X o ta) (hv : PE X value tv) (hop : InOp X op rd) : PS X (.AugAssign (.Attribute o f tpos) op value pos) (sFldAug X.K ta tv rd f) := by
  intro pins s σ H D I h
  refine wpAny_AugAssign_AttributeAny (thn (ha pins s σ H _ I h) fun ov s1 ⟨x, H1, I1, rx, a, C, dx, fs, v, ex, ea, c, n, l, q⟩ => ?_)
  subst ex
  obtain rfl : ov = Value.ref a := rx
  refine getattr_ok I1 ea c n l fun u s2 I2 ru => thn (hv pins s2 σ H1 _ I2 q) fun w3 s3 ⟨y, H2, I3, ry, q3⟩ => thn (hop pins s3 σ H2 v y u w3 _ I3 ru ry q3) fun w4 s4 ⟨z, H3, I4, rz, dx', fs', ea', l', q4⟩ => ?_
  exact setattr_ok I4 ea' c n l' rz fun s5 I5 => ⟨σ, _, I5, q4⟩
def rAdd : V → V → Hp → VK → Prop := fun x y H Q => ∃ i j, x = .int i ∧ y = .int j ∧ Q (.int (i + j)) H
def rSub : V → V → Hp → VK → Prop := fun x y H Q => ∃ i j, x = .int i ∧ y = .int j ∧ Q (.int (i - j)) H
theorem in_add : InOp X .Add rAdd := by
  rintro pins s σ H x y u v Q I rx ry ⟨i, j, rfl, rfl, q⟩
  obtain ⟨t, rfl⟩ := (show ∃ t, u = Value.int i t from rx)
  obtain ⟨t', rfl⟩ := (show ∃ t', v = Value.int j t' from ry)
  exact PyProof.Rows.iadd_int ⟨.int (i + j), H, I.tok _, ⟨_, rfl⟩, q⟩
theorem in_sub : InOp X .Sub rSub := by
  rintro pins s σ H x y u v Q I rx ry ⟨i, j, rfl, rfl, q⟩
  obtain ⟨t, rfl⟩ := (show ∃ t, u = Value.int i t from rx)
  obtain ⟨t', rfl⟩ := (show ∃ t', v = Value.int j t' from ry)
  exact PyProof.Rows.isub_int ⟨.int (i - j), H, I.tok _, ⟨_, rfl⟩, q⟩

/-- what is between an instance and its method: the tree of a method call -/
theorem methcall_of {pl : Sem Bool} {m : Str} {apos : Pos} {args : List Expr} {pins : List (Addr × Obj)} {s : Shared} {σ : St} {H : Hp} {Q : Value → Shared → Prop} {te : TE} (he : PE X e te) (I : Inv X pins σ H s)
    (h : te σ H fun x H1 => ∃ a C dx fs g, x = .ref a ∧ H1 a = some (.ins C dx fs) ∧ Cls X.K C ∧ Meth X.K C m g ∧ fs.lookup m = none ∧
      ∀ s1, Inv X pins σ H1 s1 → wpAny (model X.prog X.w) X.A (callWith pos (.ref g) [.ref a] (backTo pos (starEach args X.env)) (backToKw pos (keywordEach [] X.env))) Q X.xe s1)
    (ht : eval (.Call (.Attribute e m apos) args [] pos) X.env = (do
      let ov ← eval e X.env
      standAt apos.atName
      let (f, first) ← holding [ov] (getMethod ov m pl)
      callWith pos f first (backTo pos (starEach args X.env)) (backToKw pos (keywordEach [] X.env)))) :
    wpAny (model X.prog X.w) X.A (eval (.Call (.Attribute e m apos) args [] pos) X.env) Q X.xe s := by
  refine PySem.W.methodCall_KW (pl := pl) (thn (he pins s σ H _ I h) fun u s1 ⟨x, H1, I1, rx, a, C, dx, fs, g, ex, ea, c, k, l, q⟩ => ?_) ht
  subst ex
  obtain rfl : u = Value.ref a := rx
  exact getmeth_ok I1 ea c k l (q s1 I1)
end

/-! ### isinstance -/
section
variable {X : Cx} {pins : List (Addr × Obj)} {σ : St} {H : Hp} {s : Shared} {A : Around} {E : Value → Shared → Prop} {Q : Value → Shared → Prop} {c : Value} {b : Bool}
/-- the type of a value, as the fragment's deciders take it; for an instance its class -/
inductive TyOf (K : PySem.W.Frag) (H : Hp) : V → Value → Prop where
  | non : TyOf K H .non (.type "NoneType")
  | bl (x : Bool) : TyOf K H (.bl x) (.type "bool")
  | int (i : Int) : TyOf K H (.int i) (.type "int")
  | str (x : Str) : TyOf K H (.str x) (.type "str")
  | flt (x : UInt64) : TyOf K H (.flt x) (.type "float")
  | lst {a : Addr} {xs : List V} (e : H a = some (.lst xs)) : TyOf K H (.ref a) (.type "list")
  | frz {a : Addr} {o : Obj} {xs : List V} (e : H a = some (.frz o (.lst xs))) : TyOf K H (.ref a) (.type "list")
  | tup {a : Addr} {xs : List V} (e : H a = some (.tup xs)) : TyOf K H (.ref a) (.type "tuple")
  | dK {a : Addr} {kvs : List (Key × V)} (e : H a = some (.dK kvs)) : TyOf K H (.ref a) (.type "dict")
  | dT {a : Addr} {kvs : List (List Key × V)} (e : H a = some (.dT kvs)) : TyOf K H (.ref a) (.type "dict")
  | ins {a C dx : Addr} {fs : List (Str × V)} (e : H a = some (.ins C dx fs)) (cl : Cls K C) (ha : PySem.W.findIn K (.ref C) "__class__" = some (some (.builtin "object.__class__")))
      (hn : PySem.W.specialIn K (.builtin "object.__class__") "__get__" = some (some (.builtin "getset_descriptor.__get__"))) (htk : PySem.W.takesIn K (.builtin "object.__class__") = some true)
      (hm : PySem.W.mroIn K C (.type "object") = some true) : TyOf K H (.ref a) (.ref C)
/-- isinstance(x, c) for one class c, a built-in or an own one: kitOne's answer -/
theorem isinst_ok {x : V} {u t : Value} (I : Inv X pins σ H s) (rx : RelV x u) (ty : TyOf X.K H x t) (e : PySem.W.kitOne X.K t c = some b) (h : ∀ tk, Q (.bool b) { s with toks := tk }) :
    wpAny (model X.prog X.w) A (call (.builtin "isinstance") [u, c]) Q E s := by
  cases ty with
  | non => cases (show u = Value.none from rx); exact PySem.W.kia_one PySem.W.kitx_none I.kIn True.intro e (fun z => nomatch z) h
  | bl y => cases (show u = Value.bool y from rx); exact PySem.W.kia_one PySem.W.kitx_bool I.kIn True.intro e (fun z => nomatch z) h
  | int i => obtain ⟨t, q⟩ := (show ∃ t, u = Value.int i t from rx); cases q; exact PySem.W.kia_one PySem.W.kitx_int I.kIn True.intro e (fun z => nomatch z) h
  | str y => obtain ⟨t, q⟩ := (show ∃ t, u = Value.str y t from rx); cases q; exact PySem.W.kia_one PySem.W.kitx_str I.kIn True.intro e (fun z => nomatch z) h
  | flt y => obtain ⟨t, q⟩ := (show ∃ t, u = Value.float y t from rx); cases q; exact PySem.W.kia_one PySem.W.kitx_float I.kIn True.intro e (fun z => nomatch z) h
  | @lst a xs ea =>
    cases (show u = Value.ref a from rx)
    obtain ⟨_, _, n, _, h1⟩ := (show ObjOk X.prog X.w H s.heap a (.lst xs) from I.hok a _ ea)
    exact PySem.W.kia_one PySem.W.kitx_list I.kIn ⟨_, h1, rfl⟩ e (fun z => nomatch z) h
  | @frz a ob xs ea =>
    cases (show u = Value.ref a from rx)
    obtain ⟨_, _, _, n, _, h1⟩ := (show ObjOk X.prog X.w H s.heap a (.frz ob (.lst xs)) from I.hok a _ ea)
    exact PySem.W.kia_one PySem.W.kitx_list I.kIn ⟨_, h1, rfl⟩ e (fun z => nomatch z) h
  | @tup a xs ea =>
    cases (show u = Value.ref a from rx)
    obtain ⟨_, _, _, p⟩ := (show ObjOk X.prog X.w H s.heap a (.tup xs) from I.hok a _ ea)
    obtain ⟨o, h1, h2, _⟩ := p
    exact PySem.W.kia_one PySem.W.kitx_tuple I.kIn ⟨o, h1, h2⟩ e (fun z => nomatch z) h
  | @dK a kvs ea =>
    cases (show u = Value.ref a from rx)
    obtain ⟨_, _, vs, _, p⟩ := (show ObjOk X.prog X.w H s.heap a (.dK kvs) from I.hok a _ ea)
    obtain ⟨o, es, ep, h1, h2, _⟩ := p
    exact PySem.W.kia_one PySem.W.kitx_dict I.kIn ⟨o, h1, h2.1⟩ e (fun z => nomatch z) h
  | @dT a kvs ea =>
    cases (show u = Value.ref a from rx)
    obtain ⟨_, _, xs, _, o, es, ep, h1, h2, _⟩ := (show ObjOk X.prog X.w H s.heap a (.dT kvs) from I.hok a _ ea)
    exact PySem.W.kia_one PySem.W.kitx_dict I.kIn ⟨o, h1, h2.1⟩ e (fun z => nomatch z) h
  | @ins a C dx fs ea cl ha hn htk hm =>
    cases (show u = Value.ref a from rx)
    obtain ⟨mA, O, _⟩ := ins_get I.hok ea
    obtain ⟨od, J, _⟩ := O.look
    exact PySem.W.kia_one (PySem.W.kitx_own (cl.get _) cl.hd ha hn htk hm) I.kIn J e (fun z => nomatch z) h
end
end L2

namespace L2
open PySem PySem.Spec PyProof.Rows

/-! ### room -/
structure Room (k : Nat) (A : Around) : Prop where
  hd : A.handled = none
  dp : A.depth + 3 * k + 5 < recursionLimit
  un : A.units + 16 * k + 200 < cLine
theorem Room.mono {j k : Nat} {A : Around} (r : Room k A) (h : j ≤ k) : Room j A := ⟨r.hd, by have := r.dp; omega, by have := r.un; omega⟩
theorem Room.deeper {k : Nat} {A : Around} (r : Room (k + 1) A) (env : Env) : Room k (A.deeper env) :=
  ⟨r.hd, by have := r.dp; show A.depth + 1 + 3 * k + 5 < _; omega, by have := r.un; show A.units + 3 + 16 * k + 200 < _; omega⟩
theorem Room.in1 {k : Nat} {A : Around} (r : Room (k + 1) A) : Room k A.in1 :=
  ⟨r.hd, by have := r.dp; show A.depth + 3 * k + 5 < _; omega, by have := r.un; show A.units + 1 + 16 * k + 200 < _; omega⟩
theorem make_depth {A : Around} {C : Addr} {us : List Value} {kw : List (Str × Value)} : (A.under (.builtin "type.__call__" ⟨.ref C :: us, kw⟩)).depth = A.depth + 1 := by
  first | rfl | simp [Around.under, Code.weight, Code.isCreation, Code.isGuard, Code.isCaller, Code.frames, Code.isFrame, guardIds]
theorem make_units {A : Around} {C : Addr} {us : List Value} {kw : List (Str × Value)} : (A.under (.builtin "type.__call__" ⟨.ref C :: us, kw⟩)).units = A.units + 1 := by
  first | rfl | simp [Around.under, Code.cUnits, Code.frames, Code.isFrame]
theorem Room.make {k : Nat} {A : Around} (r : Room (k + 1) A) (C : Addr) (us : List Value) (kw : List (Str × Value)) : Room k (A.under (.builtin "type.__call__" ⟨.ref C :: us, kw⟩)) :=
  ⟨r.hd, by have := r.dp; rw [make_depth]; omega, by have := r.un; rw [make_units]; omega⟩
theorem Room.depth {k : Nat} {A : Around} (r : Room k A) : A.depth < recursionLimit := by have := r.dp; omega
theorem Room.units {k : Nat} {A : Around} (r : Room k A) : A.units + 64 < cLine := by have := r.un; omega
theorem Room.units0 {k : Nat} {A : Around} (r : Room k A) : A.units < cLine := by have := r.un; omega

/-! ### argument lists and displays -/
def tNil : TA := fun _ H Q => Q [] H
def tCons (ta : TE) (tr : TA) : TA := fun σ H Q => ta σ H fun x H1 => tr σ H1 fun xs H2 => Q (x :: xs) H2
section
variable {X : Cx} {e : Expr} {es : List Expr} {te : TE} {t : TA} {pos : Pos}
theorem pa_nil : PA X [] tNil := fun _ _ _ _ H Q I h => Calls.spliced_nil ⟨[], H, I, .nil, h⟩
theorem pa_cons (ha : PE X e te) (hr : PA X es t) (hs : starEach (e :: es) X.env = (false, eval e X.env) :: starEach es X.env := by rfl) : PA X (e :: es) (tCons te t) := by
  intro pos pins s σ H Q I h
  rw [hs]
  show wpAny _ _ (spliced ((false, eval e X.env) :: backTo pos (starEach es X.env))) _ _ s
  refine Calls.spliced_cons (thn (ha pins s σ H _ I h) fun u s1 ⟨x, H1, I1, r1, q1⟩ => ?_)
  exact thn (hr pos pins s1 σ H1 _ I1 q1) fun us s2 ⟨xs, H2, I2, r2, q2⟩ => ⟨x :: xs, H2, I2, .cons r1 r2, q2⟩

/-- a tuple, a list of written items -/
def tTup (t : TA) : TE := fun σ H Q => t σ H fun xs H1 => xs.length ≤ sizeLine ∧ ∀ p, H1 p = none → Q (.ref p) (upd H1 p (.tup xs))
def tLst (t : TA) : TE := fun σ H Q => t σ H fun xs H1 => xs.length ≤ sizeLine ∧ ∀ p, H1 p = none → Q (.ref p) (upd H1 p (.lst xs))
theorem pe_tup {x1} (h : PA X es t) : PE X (.Tuple es x1 pos) (tTup t) := by
  intro pins s σ H Q I hq
  refine wpAny_Tuple_spliced (thn (h pos pins s σ H _ I hq) fun us s1 ⟨xs, H1, I1, r, z, q⟩ => ⟨by rw [← r.length]; exact z, ?_⟩)
  have hf : H1 s1.heap.objs.size = none := I1.hok.fresh (Nat.le_refl _)
  refine ⟨.ref s1.heap.objs.size, upd H1 s1.heap.objs.size (.tup xs), I1.laid (t' := s1.toks) (fun b u e => Heap.get?_push_of_some _ e) (Nat.le_refl _) ?_, rfl, q _ hf⟩
  exact ⟨z, us, r, ⟨_, Heap.get?_push_size _ rfl, rfl, _, rfl⟩⟩
theorem pe_lst (h : PA X es t) : PE X (.List es pos) (tLst t) := by
  intro pins s σ H Q I hq
  refine wpAny_List_spliced (thn (h pos pins s σ H _ I hq) fun us s1 ⟨xs, H1, I1, r, z, q⟩ => ⟨by rw [← r.length]; exact z, ?_⟩)
  have hf : H1 s1.heap.objs.size = none := I1.hok.fresh (Nat.le_refl _)
  refine ⟨.ref s1.heap.objs.size, upd H1 s1.heap.objs.size (.lst xs), I1.laid (t' := s1.toks) (fun b u e => Heap.get?_push_of_some _ e) (Nat.le_refl _) ?_, rfl, q _ hf⟩
  exact ⟨z, us, 0, r, Heap.get?_push_size _ rfl⟩
end

/-! ### what a def promises -/
/-- a def's promise: the bound arguments in the parameters' order, the heap, the wanted end, the wanted exception -/
abbrev Sp := List V → Hp → VK → XK → Prop
/-- how an exception lies behind a call (file 08 gives it): the callers' frames, abstract heap and state ahead of the call, the wish, the exception, the state -/
abbrev CXT := List Env → Hp → Shared → XK → Value → Shared → Prop

/-- the state at a call -/
structure Env0 (P : Program) (w : World) (K : PySem.W.Frag) (mg : Str → Option Value) (base : Heap) (A : Around) (outer : List Env) (s : Shared) (H : Hp) : Prop where
  frames : A.frames = some outer
  mod : Mod K mg base
  bs : ∀ b o, base.get? b = some o → s.heap.get? b = some o ∧ H b = none
  bsz : base.objs.size ≤ s.heap.objs.size
  funs : s.heap.FunFrames base outer
  frf : ∀ b ∈ frs outer, H b = none
  hok : HOk P w H s.heap
  bare : AllBare s.gens
/-- a call's end -/
def CE (outer : List Env) (P : Program) (w : World) (H : Hp) (s : Shared) (Q : VK) (u : Value) (s' : Shared) : Prop :=
  ∃ v H', s'.os = s.os ∧ AllBare s'.gens ∧ Un (frs outer) [] H H' s.heap s'.heap ∧ HOk P w H' s'.heap ∧ RelV v u ∧ Q v H'
def CR (CX : CXT) (outer : List Env) (P : Program) (w : World) (H : Hp) (s : Shared) (Q : VK) (E : XK) (r : Result) (s' : Shared) : Prop :=
  match r with
  | .ok (.ret u) => CE outer P w H s Q u s'
  | .ok _ => False
  | .error e => CX outer H s E e s'
structure FnOk (P : Program) (w : World) (K : PySem.W.Frag) (mg : Str → Option Value) (base : Heap) (CX : CXT) (k : Nat) (f : Addr) (fd : FuncData) (ps : List Str) (sp : Sp) : Prop where
  len : ∀ vs H Q E, sp vs H Q E → vs.length = ps.length
  run : ∀ (A : Around) (outer : List Env) (s : Shared) (H : Hp) (args : Args) (us : List Value) (vs : List V) (Q : VK) (E : XK), Room k A → Env0 P w K mg base A outer s H → BindsTo s fd args (ps.zip us) → Vals vs us → sp vs H Q E →
    codeAny (model P w) A (.call (.ref f) args) (CR CX outer P w H s Q E) s
theorem FnOk.mono {P : Program} {w : World} {K : PySem.W.Frag} {mg : Str → Option Value} {base : Heap} {CX : CXT} {j k : Nat} {f : Addr} {fd : FuncData} {ps : List Str} {sp : Sp} (F : FnOk P w K mg base CX j f fd ps sp) (h : j ≤ k) :
    FnOk P w K mg base CX k f fd ps sp := ⟨F.len, fun A outer s H args us vs Q E hr => F.run A outer s H args us vs Q E (hr.mono h)⟩
/-- a weaker promise -/
theorem FnOk.imp {P : Program} {w : World} {K : PySem.W.Frag} {mg : Str → Option Value} {base : Heap} {CX : CXT} {k : Nat} {f : Addr} {fd : FuncData} {ps : List Str} {sp sp' : Sp} (F : FnOk P w K mg base CX k f fd ps sp)
    (h : ∀ vs H Q E, sp' vs H Q E → sp vs H Q E) : FnOk P w K mg base CX k f fd ps sp' :=
  ⟨fun vs H Q E q => F.len vs H Q E (h _ _ _ _ q), fun A outer s H args us vs Q E hr he hb hv hs => F.run A outer s H args us vs Q E hr he hb hv (h _ _ _ _ hs)⟩

theorem Env0.make {P : Program} {w : World} {K : PySem.W.Frag} {mg : Str → Option Value} {base : Heap} {A : Around} {outer : List Env} {s : Shared} {H : Hp} (e : Env0 P w K mg base A outer s H) (C : Addr) (us : List Value) (kw : List (Str × Value)) :
    Env0 P w K mg base (A.under (.builtin "type.__call__" ⟨.ref C :: us, kw⟩)) outer s H := ⟨by first | exact e.frames | (simpa [Around.under, Code.envs, Code.isFrame, pushEnvs] using e.frames), e.mod, e.bs, e.bsz, e.funs, e.frf, e.hok, e.bare⟩
theorem Env0.in1 {P : Program} {w : World} {K : PySem.W.Frag} {mg : Str → Option Value} {base : Heap} {A : Around} {outer : List Env} {s : Shared} {H : Hp} (e : Env0 P w K mg base A outer s H) :
    Env0 P w K mg base A.in1 outer s H := ⟨e.frames, e.mod, e.bs, e.bsz, e.funs, e.frf, e.hok, e.bare⟩

section
variable {X : Cx} {pins : List (Addr × Obj)} {σ : St} {H : Hp} {s s' : Shared}
/-- from a body: what a callee wants -/
theorem Inv.env0 (I : Inv X pins σ H s) : Env0 X.prog X.w X.K X.mg X.base X.A X.stack s H :=
  ⟨I.ok.frames, I.ok.mod, I.bs, Nat.le_trans I.ok.bsz I.sz, I.stack, I.stkFree, I.hok, I.bare⟩
/-- behind a call -/
theorem Inv.after {Q : VK} {u : Value} (I : Inv X pins σ H s) (h : CE X.stack X.prog X.w H s Q u s') : EP X pins σ Q u s' := by
  obtain ⟨v, H', os, bare, un, hok, r, q⟩ := h
  obtain ⟨hh, g, d, t, os'⟩ := s'
  obtain rfl : os' = s.os := os
  exact ⟨v, H', I.call (h' := hh) (g' := g) (d' := d) (t' := t) (ch := []) un hok bare (fun b z => absurd z (by simp)), r, q⟩
end

/-! ### calls -/
/-- f(..): the written arguments, then the defaults dvs; E: what is wanted of an exception -/
def tCall (sp : Sp) (dvs : List V) (E : XK) (t : TA) : TE := fun σ H Q => t σ H fun vs H1 => sp (vs ++ dvs) H1 Q E
/-- o.m(..) of an instance of the class at C -/
def tMeth (C : Addr) (m : Str) (sp : Sp) (dvs : List V) (E : XK) (ta : TE) (t : TA) : TE := fun σ H Q => ta σ H fun x H1 => ∃ a dx fs, x = .ref a ∧ H1 a = some (.ins C dx fs) ∧ fs.lookup m = none ∧
  t σ H1 fun vs H2 => sp (x :: (vs ++ dvs)) H2 Q E
/-- C(..): a new instance and its dict, then __init__ -/
def tMake (C : Addr) (sp : Sp) (dvs : List V) (E : XK) (t : TA) : TE := fun σ H Q => t σ H fun vs H1 => ∀ x dx, H1 x = none → H1 dx = none → dx ≠ x →
  sp (.ref x :: (vs ++ dvs)) (upd (upd H1 dx (.own x)) x (.ins C dx [])) (fun v H2 => v = .non ∧ Q (.ref x) H2) E

/-- how the parameters are bound: us the positional arguments, kw the keywords' values by name, ds the defaults that fill up -/
def Binds (K : PySem.W.Frag) (fd : FuncData) (ps : List Str) (ds : List Value) : Prop :=
  ∀ (s : Shared) (us : List Value), K.In s.heap → (us ++ ds).length = ps.length → BindsTo s fd ⟨us, []⟩ (ps.zip (us ++ ds))
/-- every parameter is given -/
theorem Binds.all {K : PySem.W.Frag} {fd : FuncData} {ps : List Str} (h : ∀ us : List Value, us.length = ps.length → bindArgs fd ⟨us, []⟩ = pure (ps.zip us)) : Binds K fd ps [] := fun s us _ hl => by
  rw [List.append_nil] at hl ⊢
  exact .of_eq (h us hl)

/-- an exception of a callee reaches what this body wants of exceptions -/
def Passes (CX : CXT) (X : Cx) (E : XK) : Prop := ∀ (pins : List (Addr × Obj)) (σ : St) (H : Hp) (s : Shared) (e : Value) (s' : Shared), Inv X pins σ H s → CX X.stack H s E e s' → X.xe e s'

section
variable {X : Cx} {CX : CXT} {k : Nat} {f C : Addr} {fd : FuncData} {ps : List Str} {sp : Sp} {dvs : List V} {ds : List Value} {E : XK} {x m : Str} {p pos apos : Pos} {e o : Expr} {es : List Expr} {ta : TE} {t : TA}

/-- the callee runs -/
theorem run_fn {pins : List (Addr × Obj)} {σ : St} {H : Hp} {s : Shared} {Q : VK} {us : List Value} {vs : List V} (F : FnOk X.prog X.w X.K X.mg X.base CX k f fd ps sp) (hr : Room k X.A) (hb : Binds X.K fd ps ds) (hd : Vals dvs ds) (hx : Passes CX X E)
    (I : Inv X pins σ H s) (r : Vals vs us) (h : sp (vs ++ dvs) H Q E) : wpAny (model X.prog X.w) X.A (call (.ref f) us) (EP X pins σ Q) X.xe s := by
  have r2 : Vals (vs ++ dvs) (us ++ ds) := r.append hd
  have hl : (us ++ ds).length = ps.length := by rw [← r2.length]; exact F.len _ _ _ _ h
  refine wpAny_call (codeAny_mono (F.run X.A X.stack s H ⟨us, []⟩ (us ++ ds) (vs ++ dvs) Q E hr I.env0 (hb s us I.kIn hl) r2 h) fun r s' hq => ?_)
  cases r with
  | error e => exact hx pins σ H s e s' I hq
  | ok fl =>
    cases fl with
    | ret u => exact I.after hq
    | next => exact False.elim hq
    | brk => exact False.elim hq
    | cont => exact False.elim hq

theorem pe_call (F : FnOk X.prog X.w X.K X.mg X.base CX k f fd ps sp) (hr : Room k X.A) (hg : Gl X x) (hm : X.mg x = some (.ref f)) (hk : PySem.W.keepIn X.K (.ref f) = true) (hb : Binds X.K fd ps ds) (hd : Vals dvs ds) (hx : Passes CX X E)
    (ha : PA X (e :: es) t) (hdb : (x == ("__debug__" : Str)) = false := by decide) (he : starEach (e :: es) X.env = (false, eval e X.env) :: starEach es X.env := by rfl) (hpl : (backTo pos (starEach es X.env)).any (·.1) = false := by rfl) :
    PE X (.Call (.Name x p) (e :: es) [] pos) (tCall sp dvs E t) := by
  intro pins s σ H Q I h
  refine wpAny_Call_Name_kw (ld_glob I hg hm ?_ hdb)
  refine PySem.W.callWith_K (h₀ := X.base) I.ok.mod.kin hk (thn (ha pos pins s σ H _ I h) fun us s1 ⟨vs, H1, I1, r, q⟩ => ⟨I1.kIn, ?_⟩) he hpl
  exact run_fn F hr hb hd hx I1 r q
theorem pe_call0 (F : FnOk X.prog X.w X.K X.mg X.base CX k f fd ps sp) (hr : Room k X.A) (hg : Gl X x) (hm : X.mg x = some (.ref f)) (hk : PySem.W.keepIn X.K (.ref f) = true) (hb : Binds X.K fd ps ds) (hd : Vals dvs ds) (hx : Passes CX X E)
    (hdb : (x == ("__debug__" : Str)) = false := by decide) : PE X (.Call (.Name x p) [] [] pos) (tCall sp dvs E tNil) := by
  intro pins s σ H Q I h
  refine wpAny_Call_Name_kw (ld_glob I hg hm ?_ hdb)
  exact PySem.W.callWith_K0 I.kIn hk (run_fn (us := []) F hr hb hd hx I .nil h)

/-- o.m(e, ..) -/
theorem pe_meth {pl : Sem Bool} (he : PE X o ta) (c : Cls X.K C) (hm : Meth X.K C m f) (F : FnOk X.prog X.w X.K X.mg X.base CX k f fd ps sp) (hr : Room k X.A) (hb : Binds X.K fd ps ds) (hd : Vals dvs ds) (hx : Passes CX X E) (ha : PA X (e :: es) t)
    (hst : starEach (e :: es) X.env = (false, eval e X.env) :: starEach es X.env := by rfl) (hpl : (backTo pos (starEach es X.env)).any (·.1) = false := by rfl)
    (ht : eval (.Call (.Attribute o m apos) (e :: es) [] pos) X.env = (do
      let ov ← eval o X.env
      standAt apos.atName
      let (f, first) ← holding [ov] (getMethod ov m pl)
      callWith pos f first (backTo pos (starEach (e :: es) X.env)) (backToKw pos (keywordEach [] X.env))) := by rfl) :
    PE X (.Call (.Attribute o m apos) (e :: es) [] pos) (tMeth C m sp dvs E ta t) := by
  intro pins s σ H Q I h
  refine PySem.W.methodCall_KW (pl := pl) (thn (he pins s σ H _ I h) fun u s1 ⟨x, H1, I1, rx, a, dx, fs, ex, ea, l, q⟩ => ?_) ht
  subst ex
  obtain rfl : u = Value.ref a := rx
  refine getmeth_ok I1 ea c hm l ?_
  refine PySem.W.callWith_K (first := [.ref a]) (h₀ := X.base) I.ok.mod.kin hm.kp (thn (ha pos pins s1 σ H1 _ I1 q) fun us s2 ⟨vs, H2, I2, r, q2⟩ => ⟨I2.kIn, ?_⟩) hst hpl
  exact run_fn (us := .ref a :: us) (vs := .ref a :: vs) F hr hb hd hx I2 (.cons rfl r) q2
/-- o.m() -/
theorem pe_meth0 {pl : Sem Bool} (he : PE X o ta) (c : Cls X.K C) (hm : Meth X.K C m f) (F : FnOk X.prog X.w X.K X.mg X.base CX k f fd ps sp) (hr : Room k X.A) (hb : Binds X.K fd ps ds) (hd : Vals dvs ds) (hx : Passes CX X E)
    (ht : eval (.Call (.Attribute o m apos) [] [] pos) X.env = (do
      let ov ← eval o X.env
      standAt apos.atName
      let (f, first) ← holding [ov] (getMethod ov m pl)
      callWith pos f first (backTo pos (starEach [] X.env)) (backToKw pos (keywordEach [] X.env))) := by rfl) :
    PE X (.Call (.Attribute o m apos) [] [] pos) (tMeth C m sp dvs E ta tNil) := by
  intro pins s σ H Q I h
  refine PySem.W.methodCall_KW (pl := pl) (thn (he pins s σ H _ I h) fun u s1 ⟨x, H1, I1, rx, a, dx, fs, ex, ea, l, q⟩ => ?_) ht
  subst ex
  obtain rfl : u = Value.ref a := rx
  refine getmeth_ok I1 ea c hm l ?_
  exact PySem.W.callWith_K0 (first := [.ref a]) I1.kIn hm.kp (run_fn (us := [.ref a]) (vs := [.ref a]) F hr hb hd hx I1 (.cons rfl .nil) q)

/-- what a class must have to be made -/
structure Mk (K : PySem.W.Frag) (C f : Addr) : Prop where
  makes : PySem.W.makesIn K C = true
  init : PySem.W.findIn K (.ref C) "__init__" = some (some (.ref f))
  fn : PySem.W.isFn K (.ref f) = true
  kp : PySem.W.keepIn K (.ref C) = true

theorem run_make {pins : List (Addr × Obj)} {σ : St} {H : Hp} {s : Shared} {Q : VK} {us : List Value} {vs : List V} (M : Mk X.K C f) (F : FnOk X.prog X.w X.K X.mg X.base CX k f fd ps sp) (hr : Room (k + 1) X.A) (hb : Binds X.K fd ps ds) (hd : Vals dvs ds)
    (hx : Passes CX X E) (I : Inv X pins σ H s) (r : Vals vs us)
    (h : ∀ x dx, H x = none → H dx = none → dx ≠ x → sp (.ref x :: (vs ++ dvs)) (upd (upd H dx (.own x)) x (.ins C dx [])) (fun v H2 => v = .non ∧ Q (.ref x) H2) E) :
    wpAny (model X.prog X.w) X.A (call (.ref C) us) (EP X pins σ Q) X.xe s := by
  have hq := h (s.heap.objs.size + 1) s.heap.objs.size (I.hok.fresh (Nat.le_succ _)) (I.hok.fresh (Nat.le_refl _)) (Nat.ne_of_lt (Nat.lt_succ_self _))
  have I2 := Inv.made (C := C) I
  have r2 : Vals (V.ref (s.heap.objs.size + 1) :: (vs ++ dvs)) (Value.ref (s.heap.objs.size + 1) :: (us ++ ds)) := .cons rfl (r.append hd)
  have hl : (Value.ref (s.heap.objs.size + 1) :: us ++ ds).length = ps.length := by
    have e := r2.length
    rw [F.len _ _ _ _ hq] at e
    exact e.symm
  refine wpAny_call (make_map (f := f) I.kIn M.makes M.init (beq_iff_eq.mp M.fn) (codeAny_mono (F.run _ X.stack _ _ ⟨Value.ref (s.heap.objs.size + 1) :: us, []⟩ (Value.ref (s.heap.objs.size + 1) :: (us ++ ds)) _ _ E (hr.make C us [])
    (I2.env0.make C us []) (hb _ (Value.ref (s.heap.objs.size + 1) :: us) I2.kIn hl) r2 hq) fun r s' hq' => ?_))
  cases r with
  | error e => exact hx pins σ _ _ e s' I2 hq'
  | ok fl =>
    cases fl with
    | ret u =>
      obtain ⟨v, H', I3, rv, ev, q3⟩ := I2.after hq'
      subst ev
      exact ⟨rv, ⟨V.ref (s.heap.objs.size + 1), H', I3, rfl, q3⟩⟩
    | next => exact False.elim hq'
    | brk => exact False.elim hq'
    | cont => exact False.elim hq'
theorem pe_make (M : Mk X.K C f) (F : FnOk X.prog X.w X.K X.mg X.base CX k f fd ps sp) (hr : Room (k + 1) X.A) (hg : Gl X x) (hm : X.mg x = some (.ref C)) (hb : Binds X.K fd ps ds) (hd : Vals dvs ds) (hx : Passes CX X E)
    (ha : PA X (e :: es) t) (hdb : (x == ("__debug__" : Str)) = false := by decide) (he : starEach (e :: es) X.env = (false, eval e X.env) :: starEach es X.env := by rfl) (hpl : (backTo pos (starEach es X.env)).any (·.1) = false := by rfl) :
    PE X (.Call (.Name x p) (e :: es) [] pos) (tMake C sp dvs E t) := by
  intro pins s σ H Q I h
  refine wpAny_Call_Name_kw (ld_glob I hg hm ?_ hdb)
  refine PySem.W.callWith_K (h₀ := X.base) I.ok.mod.kin M.kp (thn (ha pos pins s σ H _ I h) fun us s1 ⟨vs, H1, I1, r, q⟩ => ⟨I1.kIn, ?_⟩) he hpl
  exact run_make M F hr hb hd hx I1 r q
theorem pe_make0 (M : Mk X.K C f) (F : FnOk X.prog X.w X.K X.mg X.base CX k f fd ps sp) (hr : Room (k + 1) X.A) (hg : Gl X x) (hm : X.mg x = some (.ref C)) (hb : Binds X.K fd ps ds) (hd : Vals dvs ds) (hx : Passes CX X E)
    (hdb : (x == ("__debug__" : Str)) = false := by decide) : PE X (.Call (.Name x p) [] [] pos) (tMake C sp dvs E tNil) := by
  intro pins s σ H Q I h
  refine wpAny_Call_Name_kw (ld_glob I hg hm ?_ hdb)
  exact PySem.W.callWith_K0 I.kIn M.kp (run_make (us := []) M F hr hb hd hx I .nil h)
end

/-! ### keywords -/
/-- the values of the keywords, from the left -/
def PK (X : Cx) (kws : List Keyword) (t : TA) : Prop :=
  ∀ (pos : Pos) (pins : List (Addr × Obj)) (s : Shared) (σ : St) (H : Hp) (Q : List V → Hp → Prop), Inv X pins σ H s → t σ H Q → wpAny (model X.prog X.w) X.A (evalAll ((backToKw pos (keywordEach kws X.env)).map (·.2))) (AP X pins σ Q) X.xe s
section
variable {X : Cx} {CX : CXT} {k : Nat} {f C : Addr} {fd : FuncData} {ps ks : List Str} {sp : Sp} {E : XK} {x m : Str} {p pos apos kpos : Pos} {e o : Expr} {es : List Expr} {kws : List Keyword} {te ta : TE} {t tk : TA} {nm : Option Str}
theorem pk_nil : PK X [] tNil := fun _ _ _ _ H Q I h => wpAny_evalAll_nil ⟨[], H, I, .nil, h⟩
theorem pk_cons (ha : PE X e te) (hr : PK X kws t) : PK X (⟨nm, e, kpos⟩ :: kws) (tCons te t) := by
  intro pos pins s σ H Q I h
  show wpAny _ _ (evalAll ((do let v ← eval e X.env; standAt pos; pure v) :: (backToKw pos (keywordEach kws X.env)).map (·.2))) _ _ s
  refine wpAny_evalAll_cons (wpAny_bind (thn (ha pins s σ H _ I h) fun u s1 ⟨x, H1, I1, r1, q1⟩ => wpAny_bind (wpAny_standAt (wpAny_pure ?_))))
  exact thn (hr pos pins s1 σ H1 _ I1 q1) fun us s2 ⟨xs, H2, I2, r2, q2⟩ => ⟨x :: xs, H2, I2, .cons r1 r2, q2⟩

/-- how a call with keywords binds: g puts the positional values us and the keywords' values ws (names ks) in the parameters' order, defaults among them -/
structure KBinds (K : PySem.W.Frag) (fd : FuncData) (ps ks : List Str) (g : List Value → List Value → List Value) (gV : List V → List V → List V) : Prop where
  to : ∀ (s : Shared) (us ws : List Value), K.In s.heap → (g us ws).length = ps.length → BindsTo s fd ⟨us, ks.zip ws⟩ (ps.zip (g us ws))
  rel : ∀ {vs : List V} {us : List Value} {zs : List V} {ws : List Value}, Vals vs us → Vals zs ws → Vals (gV vs zs) (g us ws)
def tCallK (sp : Sp) (gV : List V → List V → List V) (E : XK) (t tk : TA) : TE := fun σ H Q => t σ H fun vs H1 => tk σ H1 fun zs H2 => sp (gV vs zs) H2 Q E
variable {g : List Value → List Value → List Value} {gV : List V → List V → List V}
theorem run_fnk {pins : List (Addr × Obj)} {σ : St} {H : Hp} {s : Shared} {Q : VK} {us ws : List Value} {vs zs : List V} (F : FnOk X.prog X.w X.K X.mg X.base CX k f fd ps sp) (hr : Room k X.A) (hb : KBinds X.K fd ps ks g gV) (hx : Passes CX X E)
    (I : Inv X pins σ H s) (r : Vals vs us) (rz : Vals zs ws) (h : sp (gV vs zs) H Q E) : wpAny (model X.prog X.w) X.A (call (.ref f) us (ks.zip ws)) (EP X pins σ Q) X.xe s := by
  have r2 := hb.rel r rz
  have hl : (g us ws).length = ps.length := by rw [← r2.length]; exact F.len _ _ _ _ h
  refine wpAny_call (codeAny_mono (F.run X.A X.stack s H ⟨us, ks.zip ws⟩ (g us ws) (gV vs zs) Q E hr I.env0 (hb.to s us ws I.kIn hl) r2 h) fun r s' hq => ?_)
  cases r with
  | error e => exact hx pins σ H s e s' I hq
  | ok fl =>
    cases fl with
    | ret u => exact I.after hq
    | next => exact False.elim hq
    | brk => exact False.elim hq
    | cont => exact False.elim hq
/-- f(e, .., k = v, ..) -/
theorem pe_callK (F : FnOk X.prog X.w X.K X.mg X.base CX k f fd ps sp) (hr : Room k X.A) (hg : Gl X x) (hm : X.mg x = some (.ref f)) (hk : PySem.W.keepIn X.K (.ref f) = true) (hb : KBinds X.K fd ps ks g gV) (hx : Passes CX X E)
    (ha : PA X (e :: es) t) (hkw : PK X kws tk) (hall : (backToKw pos (keywordEach kws X.env)).all (·.1.isSome) = true := by rfl) (hks : (backToKw pos (keywordEach kws X.env)).filterMap (·.1) = ks := by rfl)
    (hdb : (x == ("__debug__" : Str)) = false := by decide) (he : starEach (e :: es) X.env = (false, eval e X.env) :: starEach es X.env := by rfl)
    (hpl : ((backTo pos (starEach (e :: es) X.env)).any (·.1) || (backToKw pos (keywordEach kws X.env)).any (·.1.isNone)) = false := by rfl) :
    PE X (.Call (.Name x p) (e :: es) kws pos) (tCallK sp gV E t tk) := by
  intro pins s σ H Q I h
  refine wpAny_Call_Name_kw (ld_glob I hg hm ?_ hdb)
  refine PySem.W.callWith_KW (h₀ := X.base) I.ok.mod.kin hk hall (thn (ha pos pins s σ H _ I h) fun us s1 ⟨vs, H1, I1, r, q⟩ => ?_) hpl he
  refine thn (hkw pos pins s1 σ H1 _ I1 q) fun ws s2 ⟨zs, H2, I2, rz, q2⟩ => ⟨I2.kIn, ?_⟩
  rw [hks]
  exact run_fnk F hr hb hx I2 r rz q2
end

/-! ### a def's body keeps its promise -/
/-- names: the parameters first -/
structure FnScope (N P : List Str) (sc : Scope) : Prop where
  kind : sc.kind = .function
  co : sc.isCoroutine = false
  gen : sc.isGenerator = false
  nd : N.Nodup
  pre : N.take P.length = P
  par : ∀ x ∈ P, sc.names.lookup x = some .local ∨ sc.names.lookup x = some .cell
  nofree : ∀ y ∈ sc.names, y.2 ≠ .free

theorem bindL_out {kindOf : Str → Option NameKind} {x : Str} : ∀ {binds : List (Str × Value)} {m : Str → Option Value}, (∀ v, (x, v) ∉ binds) → bindL kindOf binds m x = m x
  | [], _, _ => rfl
  | (n, v) :: r, m, h => by
    unfold bindL
    rw [bindL_out fun w hw => h w (List.mem_cons_of_mem _ hw)]
    split
    · have : x ≠ n := by rintro rfl; exact h v List.mem_cons_self
      simp [this]
    · rfl
theorem bindC_out {kindOf : Str → Option NameKind} {x : Str} : ∀ {binds : List (Str × Value)} {m : Str → Option Value}, (∀ v, (x, v) ∉ binds) → bindC kindOf binds m x = m x
  | [], _, _ => rfl
  | (n, v) :: r, m, h => by
    unfold bindC
    rw [bindC_out fun w hw => h w (List.mem_cons_of_mem _ hw)]
    split
    · rfl
    · have : x ≠ n := by rintro rfl; exact h v List.mem_cons_self
      simp [this]
theorem bindL_get {kindOf : Str → Option NameKind} {x : Str} {v : Value} : ∀ {P : List Str} {vs : List Value} {i : Nat} {m : Str → Option Value}, P.Nodup → P[i]? = some x → vs[i]? = some v → kindOf x = some .local →
    bindL kindOf (P.zip vs) m x = some v
  | [], _, _, _, _, h, _, _ => by simp at h
  | _ :: _, [], _, _, _, _, h, _ => by simp at h
  | p :: P, w :: vs, 0, m, nd, h1, h2, hk => by
    simp at h1 h2; subst h1; subst h2
    show bindL kindOf ((p, w) :: P.zip vs) m p = _
    unfold bindL
    rw [bindL_out fun v hv => (List.nodup_cons.mp nd).1 (List.of_mem_zip hv).1, if_pos hk]
    simp
  | p :: P, w :: vs, i + 1, m, nd, h1, h2, hk => by
    show bindL kindOf ((p, w) :: P.zip vs) m x = _
    unfold bindL
    exact bindL_get (i := i) (List.nodup_cons.mp nd).2 (by simpa using h1) (by simpa using h2) hk
theorem bindC_get {kindOf : Str → Option NameKind} {x : Str} {v : Value} : ∀ {P : List Str} {vs : List Value} {i : Nat} {m : Str → Option Value}, P.Nodup → P[i]? = some x → vs[i]? = some v → kindOf x ≠ some .local →
    bindC kindOf (P.zip vs) m x = some v
  | [], _, _, _, _, h, _, _ => by simp at h
  | _ :: _, [], _, _, _, _, h, _ => by simp at h
  | p :: P, w :: vs, 0, m, nd, h1, h2, hk => by
    simp at h1 h2; subst h1; subst h2
    show bindC kindOf ((p, w) :: P.zip vs) m p = _
    unfold bindC
    rw [bindC_out fun v hv => (List.nodup_cons.mp nd).1 (List.of_mem_zip hv).1, if_neg hk]
    simp
  | p :: P, w :: vs, i + 1, m, nd, h1, h2, hk => by
    show bindC kindOf ((p, w) :: P.zip vs) m x = _
    unfold bindC
    exact bindC_get (i := i) (List.nodup_cons.mp nd).2 (by simpa using h1) (by simpa using h2) hk

/-- the names' values at the entry -/
def start (N : List Str) (vs : List V) : St := vs.map some ++ List.replicate (N.length - vs.length) none

/-- the context of a def's body, at its entry; an exception leaves the frame, then lies as CX says -/
def cxOf (CX : CXT) (P : Program) (w : World) (K : PySem.W.Frag) (mg : Str → Option Value) (base : Heap) (N : List Str) (qual : Str) (scope : Scope) (f : Addr) (cd : Value) (A : Around) (outer : List Env) (s : Shared) (H : Hp) (E : XK) : Cx where
  prog := P
  w := w
  K := K
  mg := mg
  base := base
  A := A.deeper (envOfC qual scope s.heap.objs.size f cd)
  N := N
  s₀ := s
  H₀ := H
  env := envOfC qual scope s.heap.objs.size f cd
  outer := outer
  stack := envOfC qual scope s.heap.objs.size f cd :: outer
  ex := []
  calm := true
  fn := fun _ => true
  pn := []
  xe := fun e s' => wpAny (model P w) (A.deeper (envOfC qual scope s.heap.objs.size f cd)) (leaving (envOfC qual scope s.heap.objs.size f cd) e) (fun _ s'' => CX outer H s E e s'') (fun e' s'' => CX outer H s E e' s'') s'

theorem cell_has {sc : Scope} {n : Nat} {x : Str} (h : sc.names.lookup x = some .cell) : ∃ c, (cellsFrom n sc.names []).lookup x = some c := by
  have q := PySem.W.cellsFrom_some sc.names n [] (.inl h)
  exact Option.isSome_iff_exists.mp q

theorem inv_start {CX : CXT} {P : Program} {w : World} {K : PySem.W.Frag} {mg : Str → Option Value} {base : Heap} {N ps : List Str} {qual : Str} {scope : Scope} {f : Addr} {cd : Value} {A : Around} {outer : List Env} {s s1 : Shared} {H : Hp} {E : XK} {us : List Value} {vs : List V}
    (S : FnScope N ps scope) (hd : A.handled = none) (e0 : Env0 P w K mg base A outer s H) (hl : vs.length = ps.length) (r : Vals vs us)
    (x : InCallC s s.heap.objs.size (bindL (envOfC qual scope s.heap.objs.size f cd).kindOf (ps.zip us) fun _ => none) (cellsFrom (s.heap.objs.size + 1) scope.names []) (bindC (envOfC qual scope s.heap.objs.size f cd).kindOf (ps.zip us) fun _ => none) s1) :
    Inv (cxOf CX P w K mg base N qual scope f cd A outer s H E) [] (start N vs) H s1 := by
  have hpl : ps.length ≤ N.length := by have := congrArg List.length S.pre; rw [List.length_take] at this; omega
  obtain ⟨h1, tk, rfl, hk⟩ := x.done
  have noA : ∀ b : Addr, b ∉ (cxOf CX P w K mg base N qual scope f cd A outer s H E).ex := fun b z => absurd (show b ∈ ([] : List Addr) from z) (by simp)
  refine ⟨⟨e0.mod, S.kind, rfl, rfl, Nat.le_refl _, fun y z c h1 h2 => ?_, fun y hy => ?_, fun y c _ h => ?_, fun _ => hd, Around.frames_deeper e0.frames, .inr ⟨rfl, rfl⟩, fun b z => absurd z (noA b), e0.bs, e0.bsz, fun b _ _ => noA b, fun b z => absurd z (noA b), e0.funs, e0.frf⟩,
    rfl, e0.bare, Un.kept hk, ⟨_, x.toInCall.ns, fun i y v h1 h2 h3 => ?_⟩, fun y c h => ⟨_, x.cell y c h⟩, e0.hok.fresh (Nat.le_refl _), fun y c h => ?_, fun p hp => absurd (show p ∈ ([] : List (Addr × Obj)) from hp) (by simp), e0.hok.kept hk, ?_⟩
  · exact name_of_addr x.apart (PySem.mem_of_lookup h1) (PySem.mem_of_lookup h2)
  · have hy : scope.names.lookup y = some .cell ∨ scope.names.lookup y = some .free := hy
    rcases hy with hy | hy
    · exact cell_has hy
    · exact absurd rfl (S.nofree _ (PySem.mem_of_lookup hy))
  · exact Nat.le_of_lt (x.above y c (PySem.mem_of_lookup h))
  · have hi : i < vs.length := by
      unfold start at h2
      by_cases hi : i < vs.length
      · exact hi
      · rw [List.getElem?_append_right (by simpa using hi)] at h2
        rw [List.getElem?_replicate] at h2
        split at h2 <;> cases h2
    have ha : vs[i]? = some v := by
      unfold start at h2
      rw [List.getElem?_append_left (by simpa using hi), List.getElem?_map] at h2
      cases e : vs[i]? with
      | none => rw [e] at h2; cases h2
      | some a => rw [e] at h2; cases h2; rfl
    obtain ⟨u, hu, rv⟩ := r.get ha
    have hp : ps[i]? = some y := by
      rw [← S.pre, List.getElem?_take_of_lt (by omega)]; exact h1
    have ndP : ps.Nodup := by rw [← S.pre]; exact S.nd.sublist (List.take_sublist _ _)
    refine ⟨u, rv, ?_⟩
    rcases S.par y (List.mem_of_getElem? hp) with k | k
    · exact .inl ⟨k, bindL_get ndP hp hu k⟩
    · obtain ⟨c, e⟩ := cell_has (n := s.heap.objs.size + 1) k
      refine .inr ⟨.inl k, c, e, ?_⟩
      have q := x.cell y c e
      rw [bindC_get ndP hp hu (by show scope.names.lookup y ≠ _; rw [k]; decide)] at q
      exact q
  · exact e0.hok.fresh (Nat.le_of_lt (x.above y c (PySem.mem_of_lookup h)))
  · unfold start
    show _ = N.length
    rw [List.length_append, List.length_map, List.length_replicate]
    omega

/-- THE RULE: a def (or a method) of the text, by its body. The body's reading t is chosen for each entry; it is run at the parameters' values -/
theorem fn_of {CX : CXT} {P : Program} {w : World} {K : PySem.W.Frag} {mg : Str → Option Value} {base : Heap} {k : Nat} {f : Addr} {name qual : Str} {params : Arguments} {body : List Stmt} {scope : Scope} {dV kV doc pm cdv ct oc : Value} {an od : Option Addr}
    {osl : Array (Option Value)} {N ps : List Str} {sp : Sp} (lk : K.lookup f = some ⟨oc, od, .func (PySem.W.fnOf name qual params body scope dV kV doc pm an cdv ct), osl⟩) (hcd : PySem.W.codeIn K cdv qual = true) (S : FnScope N ps scope)
    (len : ∀ vs H Q E, sp vs H Q E → vs.length = ps.length)
    (hbody : ∀ (A : Around) (outer : List Env) (s : Shared) (H : Hp) (vs : List V) (Q : VK) (E : XK), Room k (A.deeper (envOfC qual scope s.heap.objs.size f cdv)) → sp vs H Q E →
      ∃ t, PSs (cxOf CX P w K mg base N qual scope f cdv A outer s H E) body t ∧ t { nx := fun _ H' => Q .non H', rt := Q } (start N vs) H) :
    FnOk P w K mg base CX (k + 1) f (PySem.W.fnOf name qual params body scope dV kV doc pm an cdv ct) ps sp := by
  refine ⟨len, fun A outer s H args us vs Q E hr e0 hb r hsp => ?_⟩
  have hl := len _ _ _ _ hsp
  have KX : K.In s.heap := e0.mod.kin.keeps fun b o e => (e0.bs b o e).1
  have lim : s.heap.NoLimit := e0.mod.nolimit.keeps fun b o e => (e0.bs b o e).1
  have hkind : ∀ y ∈ ps.zip us, scope.names.lookup y.1 = some .local ∨ (scope.names.lookup y.1 = some .cell ∧ ((cellsFrom (s.heap.objs.size + 1) scope.names []).lookup y.1).isSome = true) := fun ⟨n, v⟩ hy => by
    rcases S.par n (List.of_mem_zip hy).1 with q | q
    · exact .inl q
    · exact .inr ⟨q, PySem.W.cellsFrom_some _ _ _ (.inl q)⟩
  refine codeAny_call_function hr.depth (KX _ _ lk) rfl S.co S.gen rfl (PySem.W.codeRec_of KX hcd) (hb _ _ _ _ ?_)
  refine wpAny_newFunctionEnv_cells S.kind hkind fun env he s1 x => ?_
  subst he
  refine ⟨lim.keeps x.toInCall.keep, codeAny_func ?_⟩
  obtain ⟨t, ht, hq⟩ := hbody A outer s H vs Q E (hr.deeper _) hsp
  have I : Inv (cxOf CX P w K mg base N qual scope f cdv A outer s H E) [] (start N vs) H s1 := inv_start S hr.hd e0 hl r x
  refine wpAny_mono (ht [] s1 (start N vs) H _ I hq) (fun fl s' hs => ?_) fun e s' hs => hs
  have fin : ∀ {σ' : St} {H' : Hp} {v : V} {u : Value}, Inv (cxOf CX P w K mg base N qual scope f cdv A outer s H E) [] σ' H' s' → RelV v u → Q v H' → CE outer P w H s Q u s' :=
    fun {σ' H' v u} J rv q => ⟨v, H', J.os, J.bare, J.base, J.hok, rv, q⟩
  cases fl with
  | ret u =>
    obtain ⟨v, σ', H', J, rv, q⟩ := hs
    exact fin J rv q
  | next =>
    obtain ⟨σ', H', J, q⟩ := hs
    exact fin (v := V.non) (u := Value.none) J rfl q
  | brk =>
    obtain ⟨_, _, _, q⟩ := hs
    exact False.elim q
  | cont =>
    obtain ⟨_, _, _, q⟩ := hs
    exact False.elim q
end L2

namespace L2
open PySem PySem.Spec PyProof.Rows
section
variable {X : Cx} {x : Str} {p pos : Pos} {e : Expr} {es : List Expr} {t : TA} {id T : String} {r : List V → Hp → VK → Prop}

def tCB (r : List V → Hp → VK → Prop) (t : TA) : TE := fun σ H Q => t σ H fun vs H1 => r vs H1 Q
/-- f(e, ..), f a built-in function -/
theorem pe_callB (hc : CallR X (.builtin id) r) (hg : Gl X x) (hm : X.mg x = none) (hv : bootBuiltins x = some (.builtin id)) (ha : PA X (e :: es) t) (hn : x ≠ "__name__" := by decide) (hdb : (x == ("__debug__" : Str)) = false := by decide)
    (he : starEach (e :: es) X.env = (false, eval e X.env) :: starEach es X.env := by rfl) (hpl : (backTo pos (starEach es X.env)).any (·.1) = false := by rfl) : PE X (.Call (.Name x p) (e :: es) [] pos) (tCB r t) := by
  intro pins s σ H Q I h
  refine wpAny_Call_Name_kw (ld_blt I hg hm hv ?_ hn hdb)
  exact PyProof.Rows.callWith_builtin1 (thn (ha pos pins s σ H _ I h) fun us s1 ⟨vs, H1, I1, r1, q1⟩ => hc pins s1 σ H1 vs us Q I1 r1 q1) he hpl
/-- T(e, ..), T a built-in type -/
theorem pe_callTy (hc : CallR X (.type T) r) (hg : Gl X x) (hm : X.mg x = none) (hv : bootBuiltins x = some (.type T)) (ha : PA X (e :: es) t) (hn : x ≠ "__name__" := by decide) (hdb : (x == ("__debug__" : Str)) = false := by decide)
    (he : starEach (e :: es) X.env = (false, eval e X.env) :: starEach es X.env := by rfl) (hpl : (backTo pos (starEach es X.env)).any (·.1) = false := by rfl) : PE X (.Call (.Name x p) (e :: es) [] pos) (tCB r t) := by
  intro pins s σ H Q I h
  refine wpAny_Call_Name_kw (ld_blt I hg hm hv ?_ hn hdb)
  exact PyProof.Rows.callWith_type1 (thn (ha pos pins s σ H _ I h) fun us s1 ⟨vs, H1, I1, r1, q1⟩ => hc pins s1 σ H1 vs us Q I1 r1 q1) he hpl
/-- T() -/
theorem pe_callTy0 (hc : CallR X (.type T) r) (hg : Gl X x) (hm : X.mg x = none) (hv : bootBuiltins x = some (.type T)) (hn : x ≠ "__name__" := by decide) (hdb : (x == ("__debug__" : Str)) = false := by decide) :
    PE X (.Call (.Name x p) [] [] pos) (tCB r tNil) := by
  intro pins s σ H Q I h
  refine wpAny_Call_Name_kw (ld_blt I hg hm hv ?_ hn hdb)
  exact PyProof.Rows.callWith_type0 (hc pins s σ H [] [] Q I .nil h)
end
end L2

namespace HT
open PySem PyProof.Rows

/-- t < u of tuples of ints -/
def lexLt : List Int → List Int → Bool
  | [], [] => false
  | [], _ :: _ => true
  | _ :: _, [] => false
  | x :: xs, y :: ys => if x = y then lexLt xs ys else decide (x < y)
theorem lexLt_cons (x y : Int) (xs ys : List Int) : lexLt (x :: xs) (y :: ys) = if x = y then lexLt xs ys else decide (x < y) := rfl
theorem lexLt_nil_nil : lexLt [] [] = false := rfl
theorem lexLt_nil_cons (y : Int) (ys : List Int) : lexLt [] (y :: ys) = true := rfl
theorem lexLt_cons_nil (x : Int) (xs : List Int) : lexLt (x :: xs) [] = false := rfl

theorem eqAt_int (A : Around) (s : Shared) (a : Int) (t : Tok) (c : Int) (u : Tok) : ∃ e, SeqAt.EqAt A s (.int a t) (.int c u) e ∧ (e = true ↔ a = c) :=
  ⟨(a == c), SeqAt.EqAt.int_int a t c u, by simp⟩
theorem rcLt_int (A : Around) (s : Shared) (a : Int) (t : Tok) (c : Int) (u : Tok) (prog : Program) (w : World) (E : Value → Shared → Prop) (Q : Value → Shared → Prop) (h : Q (.bool (decide (a < c))) s) :
    wpAny (model prog w) A (richCompare .Lt (.int a t) (.int c u)) Q E s :=
  (PyProof.Rows.lt_int h : wpAny (model prog w) A (compareOp .Lt (.int a t) (.int c u)) Q E s)

section
open PySem.SeqAt
open PySem.AutoSeq1 (wpAny_loadPart')
open PySem.MeetsSeq PySem.MeetsSeq2 PySem.MeetsSeq3

theorem tuple_lt_ints (l b : Addr) (items items2 : Array Value) (n n2 : Nat) (dd dd2 : Option Addr) (sl sl2 : Array (Option Value)) (ns ms : List Int) (hi : IntsAre items.toList ns) (hj : IntsAre items2.toList ms) :
    Meets (Builtin.«tuple.__lt__» ⟨[.ref l, .ref b], []⟩)
      (fun _ R s => s.heap.get? l = some { cls := .type "tuple", dict := dd, data := .seq items n, slots := sl } ∧ s.heap.get? b = some { cls := .type "tuple", dict := dd2, data := .seq items2 n2, slots := sl2 } ∧
        R (.ok (.ret (.bool (lexLt ns ms)))) s) :=
  .of_wp fun prog w A R s h => by
    obtain ⟨hp, g, d, tk, os⟩ := s; obtain ⟨hl, hb, h⟩ := h
    have f2 := AutoSeq1.sub_tuple_tuple
    have z1 : items.size = ns.length := by rw [← hi.length]; simp
    have z2 : items2.size = ms.length := by rw [← hj.length]; simp
    wp_walk using wpAny_loadPart' hl, wpAny_loadPart' hb, wpAny_forIn_list _ (fun rest b s' => b.1 = none ∧ s' = ⟨hp, g, d, tk, os⟩ ∧ ∃ (vs ws : List Value) (ns' ms' : List Int), rest = vs.zip ws ∧
      IntsAre vs ns' ∧ IntsAre ws ms' ∧ ns'.length + items2.size = ms'.length + items.size ∧ R (.ok (.ret (.bool (lexLt ns' ms')))) ⟨hp, g, d, tk, os⟩) _
    case turn =>
      rintro ⟨y, x⟩ rest b s' ⟨hb', rfl, vs, ws, ns', ms', hz, hvi, hwi, hlen, hR⟩
      cases hvi with
      | nil => rw [List.zip_nil_left] at hz; cases hz
      | cons a t hvi' =>
        cases hwi with
        | nil => rw [List.zip_nil_right] at hz; cases hz
        | cons c u hwi' =>
          rw [List.zip_cons_cons] at hz
          injection hz with hyx hrest
          injection hyx with hy hx
          subst hy hx
          rw [lexLt_cons] at hR
          simp only [List.length_cons] at hlen
          obtain ⟨e, he, hiff⟩ := eqAt_int A.in1 ⟨hp, g, d, tk, os⟩ a t c u
          refine wpAny_bind (he prog w _ _ ?_)
          cases e with
          | true =>
            rw [if_pos (hiff.mp rfl)] at hR
            wp_walk
            exact ⟨rfl, rfl, _, _, _, _, hrest, hvi', hwi', by omega, hR⟩
          | false =>
            rw [if_neg (fun q => absurd (hiff.mpr q) Bool.false_ne_true)] at hR
            have hri := rcLt_int A.in1 ⟨hp, g, d, tk, os⟩ a t c u prog w
            wp_walk using hri
            exact ⟨_, rfl, by simpa using hR⟩
    case fin =>
      rintro ⟨b1, b2⟩ s' ⟨hb', rfl, vs, ws, ns', ms', hz, hvi, hwi, hlen, hR⟩
      simp only at hb'
      subst hb'
      have hv : lexLt ns' ms' = decide (items.size < items2.size) := by
        cases hvi with
        | nil =>
          cases hwi with
          | nil =>
            simp only [List.length_nil] at hlen
            rw [lexLt_nil_nil]
            exact (decide_eq_false (by omega)).symm
          | cons c u hw =>
            simp only [List.length_nil, List.length_cons] at hlen
            rw [lexLt_nil_cons]
            exact (decide_eq_true (by omega)).symm
        | cons a t hv =>
          cases hwi with
          | nil =>
            simp only [List.length_nil, List.length_cons] at hlen
            rw [lexLt_cons_nil]
            exact (decide_eq_false (by omega)).symm
          | cons c u hw =>
            rw [List.zip_cons_cons] at hz
            cases hz
      rw [hv] at hR
      wp_walk
      exact ⟨_, rfl, by simpa [Builtin.Tuple.tupleCompareSizes] using hR⟩
    case h =>
      exact ⟨rfl, rfl, items.toList, items2.toList, ns, ms, rfl, hi, hj, by omega, h⟩
end

section
variable {prog : Program} {w : World} {A : Around} {E : Value → Shared → Prop} {s : Shared}

theorem lt_tupInts {l b : Addr} {items items2 : Array Value} {ns ms : List Int} {Q : Value → Shared → Prop} (hl : IsTup s.heap l items) (hb : IsTup s.heap b items2) (hi : IntsAre items.toList ns) (hj : IntsAre items2.toList ms)
    (hu : A.units < cLine) (h : Q (.bool (lexLt ns ms)) s) : wpAny (model prog w) A (compareOp .Lt (.ref l) (.ref b)) Q E s := by
  obtain ⟨⟨cls, dd, data, sl⟩, ho, hc, n, hd⟩ := id hl
  obtain ⟨⟨cls2, dd2, data2, sl2⟩, ho2, hc2, n2, hd2⟩ := id hb
  simp only at hc hd hc2 hd2
  subst hc hd hc2 hd2
  exact richCompare_meets_room (op := .Lt) ⟨_, ho, rfl⟩ ⟨_, ho2, rfl⟩ PySem.F.slot_tuple_lt PySem.F.entry_tuple_lt (PySem.F.args_tuple_lt_2 _ _) (tuple_lt_ints l b items items2 n n2 dd dd2 sl sl2 ns ms hi hj)
    ⟨ho, ho2, show Value.bool (lexLt ns ms) ≠ Value.notImplemented ∧ Q (.bool (lexLt ns ms)) s from ⟨(fun x => nomatch x), h⟩⟩ hu

/-- t + u, t not empty -/
theorem cat_tup {t b : Addr} {vs ws : List Value} {Q : Value → Shared → Prop} (ht : IsTup s.heap t vs.toArray) (hb : IsTup s.heap b ws.toArray) (hv : vs ≠ [])
    (h1 : ws = [] → Q (.ref t) s) (h2 : ws ≠ [] → Q (.ref s.heap.objs.size) { s with heap := s.heap.push { cls := .type "tuple", data := .seq (vs ++ ws).toArray } })
    (hsz : vs.length + ws.length ≤ sizeLine) : wpAny (model prog w) A (binaryOp .Add (.ref t) (.ref b)) Q E s := by
  obtain ⟨⟨cls, dd, data, sl⟩, ho, hc, n, hd⟩ := id ht
  obtain ⟨⟨cls2, dd2, data2, sl2⟩, ho2, hc2, n2, hd2⟩ := id hb
  simp only at hc hd hc2 hd2
  subst hc hd hc2 hd2
  have e : vs.toArray ++ ws.toArray = (vs ++ ws).toArray := by simp
  by_cases hw : ws = []
  · exact concat_meets ⟨_, ho, rfl⟩ ⟨_, ho2, rfl⟩ noFill_tuple_add seq_tuple_add PySem.F.slot_tuple_add PySem.F.entry_tuple_add (PySem.F.args_tuple_add_2 _ _)
      (tuple_addW1 t b vs.toArray ws.toArray n n2 dd dd2 sl sl2 (by simpa using hv) (by simp [hw])) ⟨ho, ho2, h1 hw⟩
  · refine concat_meets ⟨_, ho, rfl⟩ ⟨_, ho2, rfl⟩ noFill_tuple_add seq_tuple_add PySem.F.slot_tuple_add PySem.F.entry_tuple_add (PySem.F.args_tuple_add_2 _ _)
      (tuple_addW2 t b vs.toArray ws.toArray n n2 dd dd2 sl sl2 (by simpa using hv) (by simpa using hw) (by rw [List.size_toArray, List.size_toArray]; exact hsz)) ⟨ho, ho2, ?_⟩
    rw [e]
    exact h2 hw

/-! ### t[a:b], not the whole -/
/-- a slice's bound as a place among n (d where it is left out) -/
def sIx (n d : Nat) : Option Int → Nat
  | none => d
  | some v => if v < 0 then (v + (n : Int)).toNat else min v.toNat n
theorem sIx_none (n d : Nat) : sIx n d none = d := rfl
theorem sIx_nat (n d k : Nat) : sIx n d (some (k : Int)) = min k n := by
  show (if (k : Int) < 0 then ((k : Int) + (n : Int)).toNat else min (k : Int).toNat n) = min k n
  rw [if_neg (by omega), Int.toNat_natCast]
theorem sIx_le (n d : Nat) (hd : d ≤ n) (o : Option Int) : sIx n d o ≤ n := by
  cases o with
  | none => exact hd
  | some v =>
    show (if v < 0 then (v + (n : Int)).toNat else min v.toNat n) ≤ n
    by_cases hv : v < 0
    · rw [if_pos hv]; omega
    · rw [if_neg hv]; exact Nat.min_le_right _ _
theorem clip_eq (v : Int) (n d : Nat) : (if v < 0 then max (v + (n : Int)) 0 else min v (n : Int)) = ((sIx n d (some v) : Nat) : Int) := by
  show (if v < 0 then max (v + (n : Int)) 0 else min v (n : Int)) = (((if v < 0 then (v + (n : Int)).toNat else min v.toNat n) : Nat) : Int)
  by_cases hv : v < 0
  · simp only [if_pos hv]; omega
  · simp only [if_neg hv]; omega
theorem adjust_gen (lo hi : Option Int) (n : Nat) : Builtin.Slice.sliceAdjust lo hi 1 (n : Int) = (((sIx n 0 lo : Nat) : Int), ((sIx n n hi : Nat) : Int)) := by
  have h1 : ¬ ((1 : Int) < 0) := by omega
  unfold Builtin.Slice.sliceAdjust
  simp only [h1, if_false]
  refine Prod.ext ?_ ?_
  · cases lo with
    | none => rfl
    | some v => exact clip_eq v n 0
  · cases hi with
    | none => rfl
    | some v => exact clip_eq v n n
theorem places_gen (i j : Nat) : Builtin.Slice.slicePlaces (i : Int) (j : Int) 1 = j - i := by
  unfold Builtin.Slice.slicePlaces
  have h1 : (1 : Int) > 0 := by omega
  simp only [h1, if_true, Int.ediv_one]
  split <;> omega
theorem slicePart_ {v : Value} {o : Option Int} {Q : Option Int → Shared → Prop} (p : IsPart v o) (h : Q o s) : wpAny (model prog w) A (Builtin.Slice.slicePartIndex v) Q E s := by
  cases p with
  | none => exact slicePart_none h
  | int i t => exact slicePart_int h
theorem sliceApplied_gen {sl : Addr} {vl vu : Value} {lo hi : Option Int} {n : Nat} {Q : Int × Int × Nat → Shared → Prop} (hs : s.heap.IsSliceOf sl vl vu .none) (pl : IsPart vl lo) (pu : IsPart vu hi)
    (h : Q (((sIx n 0 lo : Nat) : Int), 1, sIx n n hi - sIx n 0 lo) s) : wpAny (model prog w) A (Builtin.Slice.sliceApplied (.ref sl) (pure (n : Int))) Q E s := by
  obtain ⟨os, hos, hcs, hds⟩ := id hs
  unfold Builtin.Slice.sliceApplied Builtin.Slice.sliceFields
  refine wpAny_bind (wpAny_bind (wpAny_field hos hds (x := vl) rfl (wpAny_bind (wpAny_field hos hds (x := vu) rfl (wpAny_bind (wpAny_field hos hds (x := .none) rfl (wpAny_pure ?_)))))))
  refine wpAny_bind (slicePart_none ?_)
  show wpAny _ _ (if ((1 : Int) == 0) = true then _ else _) _ _ s
  rw [if_neg (by decide)]
  refine wpAny_bind (slicePart_ pl (wpAny_bind (slicePart_ pu (wpAny_bind (wpAny_pure ?_)))))
  show wpAny _ _ (match Builtin.Slice.sliceAdjust lo hi 1 (n : Int) with | (lo, hi) => pure (lo, (1 : Int), Builtin.Slice.slicePlaces lo hi 1)) _ _ s
  rw [adjust_gen lo hi n]
  show wpAny _ _ (pure (((sIx n 0 lo : Nat) : Int), (1 : Int), Builtin.Slice.slicePlaces ((sIx n 0 lo : Nat) : Int) ((sIx n n hi : Nat) : Int) 1)) _ _ s
  rw [places_gen]
  exact wpAny_pure h
theorem pick_gen (xs : Array Value) (i k : Nat) : ((List.range k).filterMap fun (m : Nat) => xs[((i : Int) + (m : Int) * 1).toNat]?).toArray = ((xs.toList.drop i).take k).toArray := by
  have e : (fun (m : Nat) => xs[((i : Int) + (m : Int) * 1).toNat]?) = fun m => xs[i + m]? := by
    funext m
    have : ((i : Int) + (m : Int) * 1).toNat = i + m := by omega
    rw [this]
  rw [e]
  have := pick_run xs i k
  rw [List.filterMap_map] at this
  have e2 : ((fun x => xs[x]?) ∘ fun x => i + x) = fun m => xs[i + m]? := rfl
  rw [e2] at this
  rw [this]

theorem getItem_tuple_cut {t sl : Addr} {items : Array Value} {vl vu : Value} {lo hi : Option Int} {Q : Value → Shared → Prop} (ht : IsTup s.heap t items) (hs : s.heap.IsSliceOf sl vl vu .none) (pl : IsPart vl lo) (pu : IsPart vu hi)
    (hw : ¬ (sIx items.size 0 lo = 0 ∧ sIx items.size items.size hi = items.size))
    (h : Q (.ref s.heap.objs.size) { s with heap := s.heap.push { cls := .type "tuple", data := .seq ((items.toList.drop (sIx items.size 0 lo)).take (sIx items.size items.size hi - sIx items.size 0 lo)).toArray } })
    (hsz : items.size ≤ sizeLine) : wpAny (model prog w) A (getItem (.ref t) (.ref sl)) Q E s := by
  have htake : sizeOk (.seq ((items.toList.drop (sIx items.size 0 lo)).take (sIx items.size items.size hi - sIx items.size 0 lo)).toArray) := by
    show ((items.toList.drop (sIx items.size 0 lo)).take (sIx items.size items.size hi - sIx items.size 0 lo)).toArray.size ≤ sizeLine
    rw [List.size_toArray, List.length_take, List.length_drop, Array.length_toList]
    omega
  have hj : sIx items.size items.size hi ≤ items.size := sIx_le _ _ (Nat.le_refl _) hi
  obtain ⟨os, hos, hcs, hds⟩ := id hs
  have hTs : s.TypeIs (.ref sl) "slice" := ⟨os, hos, hcs⟩
  unfold getItem
  try with_reducible refine wpAny_holding ?_
  first | refine wpAny_bind (wpAny_pure ?_) | skip
  refine wpAny_bind (wpAny_sequenceKey ht.typeIs (by decide) ?_)
  refine wpAny_bind (wpAny_callSpecial?_slot (name := Str.ofString "__getitem__") ht.typeIs PyProof.Rows.slot_tuple_getitem
    (wpAny_call_entry PyProof.Rows.slot_tuple_getitem ht.typeIs entry_tuple_getitem ?_ (args_tuple_getitem _ _)))
  show wpAny _ _ (Builtin.Tuple.tupleItemsOf (.ref t) >>= _) _ _ s
  refine wpAny_bind (tupleItemsOf_ ht ?_)
  refine wpAny_bind (wpAny_typeOf hTs ?_)
  rw [if_pos (by decide)]
  refine wpAny_bind (sliceApplied_gen hs pl pu ?_)
  have hno : ¬ ((((sIx items.size 0 lo : Nat) : Int) == 0 && (1 : Int) == 1 && (sIx items.size items.size hi - sIx items.size 0 lo) == items.size) = true) := by
    intro q
    rw [Bool.and_eq_true, Bool.and_eq_true] at q
    have q1 : ((sIx items.size 0 lo : Nat) : Int) = 0 := eq_of_beq q.1.1
    have q2 : sIx items.size items.size hi - sIx items.size 0 lo = items.size := eq_of_beq q.2
    exact hw ⟨by omega, by omega⟩
  show wpAny _ _ (if (((sIx items.size 0 lo : Nat) : Int) == 0 && (1 : Int) == 1 && (sIx items.size items.size hi - sIx items.size 0 lo) == items.size) = true then _ else _) _ _ s
  rw [if_neg hno, pick_gen]
  first
    | exact wpAny_bind (m := Builtin.Tuple.tupleExact _) (wpAny_newObj_type (wpAny_pure ⟨_, rfl, wpAny_pure h⟩) htake)
    | exact wpAny_bind (m := Builtin.Tuple.tupleExact _) (wpAny_newObj_type (wpAny_bind (wpAny_pure (wpAny_pure ⟨_, rfl, wpAny_pure h⟩))) htake)
    | exact wpAny_bind (wpAny_bind (m := Builtin.Tuple.tupleExact _) (wpAny_newObj_type (wpAny_pure (wpAny_pure ⟨_, rfl, wpAny_pure h⟩)) htake))
    | exact wpAny_bind (wpAny_bind (m := Builtin.Tuple.tupleExact _) (wpAny_newObj_type (wpAny_pure ⟨_, rfl, wpAny_pure h⟩) htake))
end
end HT

namespace L2
open PySem PySem.Spec PyProof.Rows

/-! ### the parts of a slice -/
abbrev TO := St → Hp → (Option Int → Hp → Prop) → Prop
/-- a slice's part (left out, or an int) -/
def PO (X : Cx) (e : Option Expr) (t : TO) : Prop :=
  ∀ (pins : List (Addr × Obj)) (s : Shared) (σ : St) (H : Hp) (Q : Option Int → Hp → Prop), Inv X pins σ H s → t σ H Q →
    wpAny (model X.prog X.w) X.A (evalPart e X.env) (fun u s' => ∃ o H', Inv X pins σ H' s' ∧ IsPart u o ∧ Q o H') X.xe s
def tNoPart : TO := fun _ H Q => Q none H
def tPart (t : TE) : TO := fun σ H Q => t σ H fun x H1 => ∃ i, x = .int i ∧ Q (some i) H1

theorem intsAre_of {ns : List Int} : ∀ {us : List Value}, Vals (ns.map V.int) us → IntsAre us ns := by
  induction ns with
  | nil => intro us r; rw [List.map_nil] at r; cases r; exact .nil
  | cons n ns ih =>
    intro us r
    rw [List.map_cons] at r
    cases r with
    | cons r1 r2 =>
      obtain ⟨t, e⟩ := r1
      subst e
      exact .cons n t (ih r2)

section
variable {X : Cx} {e : Expr} {te : TE} {lo hi : Option Expr} {tl th : TO} {pos p2 : Pos}

theorem po_none : PO X none tNoPart := by
  intro pins s σ H Q I h
  rw [evalPart_none]
  exact wpAny_pure ⟨none, H, I, .none, h⟩
theorem po_some (h : PE X e te) : PO X (some e) (tPart te) := by
  intro pins s σ H Q I hw
  rw [evalPart_some]
  refine thn (h pins s σ H _ I hw) fun u s1 ⟨x, H1, I1, r1, q1⟩ => ?_
  obtain ⟨i, rfl, q⟩ := q1
  obtain ⟨t, rfl⟩ := r1
  exact ⟨some i, H1, I1, .int i t, q⟩

/-- what a slice of a value is, by values: the slice object stands at sl -/
def SlR (X : Cx) (r : V → Option Int → Option Int → Hp → VK → Prop) : Prop :=
  ∀ (pins : List (Addr × Obj)) (s : Shared) (σ : St) (H : Hp) (x : V) (v vl vu : Value) (lo hi : Option Int) (sl : Addr) (Q : VK), Inv X pins σ H s → RelV x v → s.heap.IsSliceOf sl vl vu .none → IsPart vl lo → IsPart vu hi → r x lo hi H Q →
    ∃ T id, typeLookup (.type T) "__getitem__" = pure (some (.builtin id)) ∧ s.TypeIs v T ∧ wpAny (model X.prog X.w) X.A (getItem v (.ref sl)) (EP X pins σ Q) X.xe s
theorem SlR.or {r r' : V → Option Int → Option Int → Hp → VK → Prop} (h : SlR X r) (h' : SlR X r') : SlR X (fun x lo hi H Q => r x lo hi H Q ∨ r' x lo hi H Q) := by
  intro pins s σ H x v vl vu lo hi sl Q I rx hs pl pu q
  rcases q with q | q
  · exact h pins s σ H x v vl vu lo hi sl Q I rx hs pl pu q
  · exact h' pins s σ H x v vl vu lo hi sl Q I rx hs pl pu q
def tSl (r : V → Option Int → Option Int → Hp → VK → Prop) (te : TE) (tl th : TO) : TE := fun σ H Q => te σ H fun x H1 => tl σ H1 fun l H2 => th σ H2 fun u H3 => r x l u H3 Q
/-- a[lo:hi], any a -/
theorem pe_slice {r : V → Option Int → Option Int → Hp → VK → Prop} (hr : SlR X r) (he : PE X e te) (hl : PO X lo tl) (hu : PO X hi th) : PE X (.Subscript e (.Slice lo hi none p2) pos) (tSl r te tl th) := by
  intro pins s σ H Q I h
  refine Subscript_ (thn (he pins s σ H _ I h) fun v s1 ⟨x, H1, I1, r1, q1⟩ => ?_)
  refine wpAny_Slice (thn (hl pins s1 σ H1 _ I1 q1) fun vl s2 ⟨l, H2, I2, pl, q2⟩ => thn (hu pins s2 σ H2 _ I2 q2) fun vu s3 ⟨u, H3, I3, pu, q3⟩ => ?_)
  rw [evalPart_none]
  refine wpAny_pure ?_
  have I4 : Inv X pins σ H3 { s3 with heap := s3.heap.push { cls := .type "slice", data := .fields #[vl, vu, .none] } } := I3.kept (t' := s3.toks) fun b ob q => Heap.get?_push_of_some _ q
  obtain ⟨T, id, hT, ht, hg⟩ := hr pins { s3 with heap := s3.heap.push { cls := .type "slice", data := .fields #[vl, vu, .none] } } σ H3 x v vl vu l u s3.heap.objs.size Q I4 r1 (Heap.IsSliceOf.new ..) pl pu q3
  show wpAny (model X.prog X.w) X.A (subscriptTail e (.Slice lo hi none p2) v (.ref s3.heap.objs.size)) (EP X pins σ Q) X.xe { s3 with heap := s3.heap.push { cls := .type "slice", data := .fields #[vl, vu, .none] } }
  exact tail_any (ops := [.ref s3.heap.objs.size, v]) ht hT hg (by with_unfolding_all rfl)

/-- the items of xs[lo:hi] -/
def cutV (xs : List V) (lo hi : Option Int) : List V := (xs.drop (HT.sIx xs.length 0 lo)).take (HT.sIx xs.length xs.length hi - HT.sIx xs.length 0 lo)
theorem cutV_length (xs : List V) (lo hi : Option Int) : (cutV xs lo hi).length ≤ xs.length := by
  unfold cutV
  rw [List.length_take, List.length_drop]
  omega
/-- t[lo:hi], not the whole of it (the whole would be t itself) -/
def rSlT (K : PySem.W.Frag) : V → Option Int → Option Int → Hp → VK → Prop := fun x lo hi H Q => ∃ a xs, x = .ref a ∧ SqT K H a xs ∧
  ¬ (HT.sIx xs.length 0 lo = 0 ∧ HT.sIx xs.length xs.length hi = xs.length) ∧ ∀ p, H p = none → Q (.ref p) (upd H p (.tup (cutV xs lo hi)))
theorem sl_tup : SlR X (rSlT X.K) := by
  intro pins s σ H x v vl vu lo hi sl Q I rx hs pl pu h
  obtain ⟨a, xs, rfl, hx, hw, q⟩ := h
  cases rx
  obtain ⟨its, r, ht, hz⟩ := I.tuple hx
  have hlen : its.toArray.size = xs.length := by rw [List.size_toArray]; exact r.length.symm
  refine ⟨"tuple", _, PyProof.Rows.slot_tuple_getitem.lookup, ht.typeIs, ?_⟩
  refine HT.getItem_tuple_cut ht hs pl pu (by rw [hlen]; exact hw) ?_ (by rw [hlen]; exact hz)
  rw [hlen]
  refine ⟨.ref s.heap.objs.size, _, I.laid (t' := s.toks) (o := .tup (cutV xs lo hi)) (fun b ob q => Heap.get?_push_of_some _ q) (Nat.le_refl _) ?_, rfl, q _ (I.hok.fresh (Nat.le_refl _))⟩
  exact ⟨Nat.le_trans (cutV_length xs lo hi) hz, _, (r.drop (HT.sIx xs.length 0 lo)).take (HT.sIx xs.length xs.length hi - HT.sIx xs.length 0 lo), IsTup.new _ _⟩

/-! ### t < u, t + u -/
def rLtT (K : PySem.W.Frag) : R2 := fun x y H Q => ∃ a b ns ms, x = .ref a ∧ y = .ref b ∧ SqT K H a (ns.map V.int) ∧ SqT K H b (ms.map V.int) ∧ Q (.bl (HT.lexLt ns ms)) H
theorem op_ltT (hu : X.A.units < cLine) : OpR X (compareOp .Lt) (rLtT X.K) := by
  intro pins s σ H x y v u Q I rx ry h
  obtain ⟨a, b, ns, ms, rfl, rfl, ha, hb, q⟩ := h
  cases rx
  cases ry
  obtain ⟨its, r1, p1, _⟩ := I.tuple ha
  obtain ⟨its2, r2, p2, _⟩ := I.tuple hb
  have i1 : IntsAre its.toArray.toList ns := intsAre_of r1
  have i2 : IntsAre its2.toArray.toList ms := intsAre_of r2
  exact HT.lt_tupInts p1 p2 i1 i2 hu ⟨.bl (HT.lexLt ns ms), H, I, rfl, q⟩
/-- t + u, t not empty: u empty gives t itself -/
def rCatT (K : PySem.W.Frag) : R2 := fun x y H Q => ∃ a b xs ys, x = .ref a ∧ y = .ref b ∧ SqT K H a xs ∧ SqT K H b ys ∧ xs ≠ [] ∧ xs.length + ys.length ≤ sizeLine ∧
  (ys = [] → Q (.ref a) H) ∧ (ys ≠ [] → ∀ p, H p = none → Q (.ref p) (upd H p (.tup (xs ++ ys))))
theorem Vals.nil_iff {xs : List V} {us : List Value} (r : Vals xs us) : us = [] ↔ xs = [] := by
  cases r with
  | nil => simp
  | cons _ _ => simp
theorem op_catT : OpR X (binaryOp .Add) (rCatT X.K) := by
  intro pins s σ H x y v u Q I rx ry h
  obtain ⟨a, b, xs, ys, rfl, rfl, ha, hb, hx, hz, q1, q2⟩ := h
  cases rx
  cases ry
  obtain ⟨its, r1, p1, _⟩ := I.tuple ha
  obtain ⟨its2, r2, p2, _⟩ := I.tuple hb
  refine HT.cat_tup p1 p2 (fun z => hx (r1.nil_iff.mp z)) (fun z => ⟨.ref a, H, I, rfl, q1 (r2.nil_iff.mp z)⟩) (fun z => ?_) (by rw [← r1.length, ← r2.length]; exact hz)
  refine ⟨.ref s.heap.objs.size, _, I.laid (t' := s.toks) (o := .tup (xs ++ ys)) (fun b ob q => Heap.get?_push_of_some _ q) (Nat.le_refl _) ?_, rfl, q2 (fun w => z (r2.nil_iff.mpr w)) _ (I.hok.fresh (Nat.le_refl _))⟩
  exact ⟨by rw [List.length_append]; exact hz, _, r1.append r2, IsTup.new _ _⟩
/-- tuple(t) -/
theorem call_tupleT : CallR X (.type "tuple") (fun xs H Q => ∃ a ys, xs = [.ref a] ∧ SqT X.K H a ys ∧ Q (.ref a) H) := by
  intro pins s σ H xs us Q I r h
  obtain ⟨a, ys, rfl, ha, q⟩ := h
  obtain ⟨u, rfl, ru⟩ := vals1 r
  cases ru
  obtain ⟨its, _, p1, _⟩ := I.tuple ha
  exact call_tuple_same (items := its.toArray) p1 ⟨.ref a, H, I, rfl, q⟩
end
end L2

namespace L2
open PySem PySem.Spec PyProof.Rows

/-! ### places -/
/-- the place that an index of any sign means -/
def ixN (n : Nat) (i : Int) : Option Nat := if 0 ≤ i then (if i < n then some i.toNat else none) else if -(n : Int) ≤ i then some (i + n).toNat else none
def atI {α : Type} (xs : List α) (i : Int) : Option α := (ixN xs.length i).bind fun j => xs[j]?
theorem ixN_seq {n : Nat} {i : Int} {j : Nat} (h : ixN n i = some j) : seqIndex? i n = some j ∧ j < n ∧ -(n : Int) ≤ i ∧ i < n := by
  unfold ixN at h
  by_cases h0 : 0 ≤ i
  · rw [if_pos h0] at h
    by_cases h1 : i < n
    · rw [if_pos h1] at h
      have e : i.toNat = j := Option.some.inj h
      exact ⟨by rw [seqIndex_of h0 h1, e], by omega, by omega, h1⟩
    · rw [if_neg h1] at h; cases h
  · rw [if_neg h0] at h
    by_cases h1 : -(n : Int) ≤ i
    · rw [if_pos h1] at h
      have e : (i + n).toNat = j := Option.some.inj h
      exact ⟨by rw [seqIndex_neg (by omega) h1, e], by omega, h1, by omega⟩
    · rw [if_neg h1] at h; cases h
theorem atI_get {α : Type} {xs : List α} {i : Int} {v : α} (h : atI xs i = some v) : ∃ j, seqIndex? i xs.length = some j ∧ xs[j]? = some v ∧ j < xs.length ∧ -(xs.length : Int) ≤ i ∧ i < xs.length := by
  unfold atI at h
  cases e : ixN xs.length i with
  | none => rw [e] at h; cases h
  | some j =>
    rw [e] at h
    obtain ⟨h1, h2, h3, h4⟩ := ixN_seq e
    exact ⟨j, h1, h, h2, h3, h4⟩
theorem atI_nat {α : Type} {xs : List α} {j : Nat} {v : α} (h : xs[j]? = some v) : atI xs (j : Int) = some v := by
  have hj : j < xs.length := (List.getElem?_eq_some_iff.mp h).1
  have e : ixN xs.length (j : Int) = some j := by
    unfold ixN
    rw [if_pos (by omega), if_pos (by omega)]; simp
  unfold atI; rw [e]; exact h
theorem atI_last {α : Type} (xs : List α) (v : α) : atI (xs ++ [v]) (-1) = some v := by
  have hl : (xs ++ [v]).length = xs.length + 1 := by simp
  have e : ixN (xs ++ [v]).length (-1) = some xs.length := by
    unfold ixN
    rw [hl, if_neg (by decide), if_pos (by omega)]
    congr 1
    omega
  unfold atI
  rw [e]
  show (xs ++ [v])[xs.length]? = some v
  simp

/-! ### what may be subscripted -/
/-- what stands as an index of a plain subscript -/
def PlainIx (b : Expr) : Prop := ∀ o i, subscripted b false o i = operate [o, i] (getItem o i)
/-- a subscript by values -/
def IxR (X : Cx) (r : R2) : Prop :=
  ∀ (value slice : Expr) (pins : List (Addr × Obj)) (s : Shared) (σ : St) (H : Hp) (x y : V) (v u : Value) (Q : VK), Inv X pins σ H s → RelV x v → RelV y u → r x y H Q →
    subscripted slice false v u = operate [v, u] (getItem v u) → wpAny (model X.prog X.w) X.A (subscriptTail value slice v u) (EP X pins σ Q) X.xe s
/-- a call of a builtin's method by values: the receiver, the arguments -/
def MtR (X : Cx) (id : String) (r : V → List V → Hp → VK → Prop) : Prop :=
  ∀ (pins : List (Addr × Obj)) (s : Shared) (σ : St) (H : Hp) (x : V) (xs : List V) (v : Value) (us : List Value) (Q : VK), Inv X pins σ H s → RelV x v → Vals xs us → r x xs H Q →
    wpAny (model X.prog X.w) X.A (call (.builtin id) (v :: us)) (EP X pins σ Q) X.xe s
section
variable {X : Cx} {a b : Expr} {ta tb : TE} {pos : Pos}
theorem IxR.or {r r' : R2} (h : IxR X r) (h' : IxR X r') : IxR X (fun x y H Q => r x y H Q ∨ r' x y H Q) := by
  intro value slice pins s σ H x y v u Q I rx ry q hs
  rcases q with q | q
  · exact h value slice pins s σ H x y v u Q I rx ry q hs
  · exact h' value slice pins s σ H x y v u Q I rx ry q hs
theorem MtR.or {id : String} {r r' : V → List V → Hp → VK → Prop} (h : MtR X id r) (h' : MtR X id r') : MtR X id (fun x xs H Q => r x xs H Q ∨ r' x xs H Q) := by
  intro pins s σ H x xs v us Q I rx rs q
  rcases q with q | q
  · exact h pins s σ H x xs v us Q I rx rs q
  · exact h' pins s σ H x xs v us Q I rx rs q
/-- a[b] -/
theorem pe_ix {r : R2} (hr : IxR X r) (ha : PE X a ta) (hb : PE X b tb) (hs : PlainIx b) : PE X (.Subscript a b pos) (tOp r ta tb) := by
  intro pins s σ H Q I h
  exact Subscript_ (binT ha hb I h fun v u s2 x y H2 I2 rx ry q => hr a b pins s2 σ H2 x y v u Q I2 rx ry q (hs _ _))

def rIxL (K : PySem.W.Frag) : R2 := fun x y H Q => ∃ p xs i v, x = .ref p ∧ y = .int i ∧ SqL K H p xs ∧ atI xs i = some v ∧ Q v H
def rIxT (K : PySem.W.Frag) : R2 := fun x y H Q => ∃ p xs i v, x = .ref p ∧ y = .int i ∧ SqT K H p xs ∧ atI xs i = some v ∧ Q v H
def rIxS : R2 := fun x y H Q => ∃ z i c, x = .str z ∧ y = .int i ∧ z.length ≤ sizeLine ∧ atI z.cps.toList i = some c ∧ Q (.str ⟨#[c]⟩) H
theorem ix_list : IxR X (rIxL X.K) := by
  intro value slice pins s σ H x y v u Q I rx ry h hs
  obtain ⟨p, xs, i, z, rfl, rfl, hq, he, q⟩ := h
  cases rx
  obtain ⟨t, rfl⟩ := ry
  obtain ⟨its, r, pl, hz⟩ := I.list hq
  obtain ⟨j, h1, h2, h3, h4, h5⟩ := atI_get he
  obtain ⟨w, ew, rw'⟩ := r.get h2
  have hl := r.length
  have hn := line63
  have fin : EP X pins σ Q w s := ⟨z, H, I, rw', q⟩
  by_cases h0 : 0 ≤ i
  · have hj : i.toNat = j := by
      rw [seqIndex_of h0 h5] at h1
      exact Option.some.inj h1
    exact item_listR pl.isList h0 (by omega) (by rw [hj]; simpa using ew) fin hs
  · have hj : (i + (its.toArray.size : Int)).toNat = j := by
      rw [seqIndex_neg (by omega) h4] at h1
      rw [List.size_toArray, ← hl]
      exact Option.some.inj h1
    exact subscriptTail_builtinR (x := w) pl.isList.typeIs slot_list_getitem.lookup
      (wpAny_getItem_list_neg (Q := fun r s' => r = w ∧ EP X pins σ Q r s') pl.isList (by omega) (by rw [List.size_toArray] <;> omega) (by omega) (by rw [hj]; simpa using ew) ⟨rfl, fin⟩) hs
theorem ix_tup : IxR X (rIxT X.K) := by
  intro value slice pins s σ H x y v u Q I rx ry h hs
  obtain ⟨p, xs, i, z, rfl, rfl, hq, he, q⟩ := h
  cases rx
  obtain ⟨t, rfl⟩ := ry
  obtain ⟨its, r, pl, hz⟩ := I.tuple hq
  obtain ⟨j, h1, h2, h3, h4, h5⟩ := atI_get he
  obtain ⟨w, ew, rw'⟩ := r.get h2
  have hl := r.length
  have hn := line63
  have fin : EP X pins σ Q w s := ⟨z, H, I, rw', q⟩
  exact subscriptTail_builtinR (x := w) pl.typeIs slot_tuple_getitem.lookup
    (getItem_tuple (j := j) (Q := fun r s' => r = w ∧ EP X pins σ Q r s') pl (by omega) (by omega) (by rw [List.size_toArray, ← hl]; exact h1) (by simpa using ew) ⟨rfl, fin⟩) hs
theorem ix_str : IxR X rIxS := by
  intro value slice pins s σ H x y v u Q I rx ry h hs
  obtain ⟨z, i, c, rfl, rfl, hz, he, q⟩ := h
  obtain ⟨t, rfl⟩ := rx
  obtain ⟨t', rfl⟩ := ry
  obtain ⟨j, h1, h2, h3, h4, h5⟩ := atI_get he
  have hl : z.cps.toList.length = z.length := by simp [Str.length]
  rw [hl] at h1 h4 h5
  have hn := line63
  exact tail_any (typeIs_str s z t) slot_str_getitem.lookup (getItem_str (c := c) (by
    have e1 : decide (i < -(2 ^ 63 : Int)) = false := decide_eq_false (by omega)
    have e2 : decide (i ≥ 2 ^ 63) = false := decide_eq_false (by omega)
    rw [e1, e2, Bool.or_false]) (by rw [h1]; simpa using h2) ⟨.str ⟨#[c]⟩, H, I.tok _, ⟨_, rfl⟩, q⟩) hs
/-- list, tuple or str -/
def rIx (K : PySem.W.Frag) : R2 := fun x y H Q => rIxL K x y H Q ∨ rIxT K x y H Q ∨ rIxS x y H Q
theorem ix_seq : IxR X (rIx X.K) := ix_list.or (ix_tup.or ix_str)

/-! ### xs[i] = v, any sign -/
/-- the list's object behind a store -/
theorem mapSeq_set (its : List Value) (n j : Nat) (u : Value) : Obj.mapSeq (·.setIfInBounds j u) { cls := .type "list", data := .seq its.toArray n } = { cls := .type "list", data := .seq (its.set j u).toArray n } := by
  simp [Obj.mapSeq]
theorem Inv.lst {pins : List (Addr × Obj)} {σ : St} {H : Hp} {s : Shared} {p : Addr} {xs : List V} (I : Inv X pins σ H s) (h : H p = some (.lst xs)) :
    ∃ (its : List Value) (n : Nat), Vals xs its ∧ s.heap.get? p = some { cls := .type "list", data := .seq its.toArray n } ∧ xs.length ≤ sizeLine := by
  obtain ⟨z, its, n, r, e⟩ := I.hok p _ h
  exact ⟨its, n, r, e, z⟩
/-- the list at p is written by an update of its object -/
theorem Inv.lstUpd {pins : List (Addr × Obj)} {σ : St} {H : Hp} {s : Shared} {p : Addr} {xs ys : List V} {its its' : List Value} {n n' : Nat} {f : Obj → Obj} (I : Inv X pins σ H s) (h : H p = some (.lst xs))
    (ho : s.heap.get? p = some { cls := .type "list", data := .seq its.toArray n }) (hf : f { cls := .type "list", data := .seq its.toArray n } = { cls := .type "list", data := .seq its'.toArray n' }) (r : Vals ys its') (hz : ys.length ≤ sizeLine) (t : Nat) :
    Inv X pins σ (upd H p (.lst ys)) { s with heap := s.heap.update p f, toks := t } := by
  have e : (s.heap.update p f).get? p = some { cls := .type "list", data := .seq its'.toArray n' } := by
    rw [Heap.get?_update_self f ho (by rw [hf] <;> rfl), hf]
  refine I.write (x := p) (e := p) (by rw [h]; trivial) (.inl rfl) (fun b u hb q => (Heap.get?_update_other _ _ (Ne.symm hb)).trans q) ⟨_, e⟩ ?_
  exact ⟨hz, its', n', r, e⟩
def rSetL : V → V → V → Hp → (Hp → Prop) → Prop := fun o i v H Q => ∃ p xs k j, o = .ref p ∧ i = .int k ∧ H p = some (.lst xs) ∧ ixN xs.length k = some j ∧ Q (upd H p (.lst (xs.set j v)))
theorem set_list : PSet X rSetL := by
  intro pins s σ H o i v ov iv u Q I ro ri rv h
  obtain ⟨p, xs, k, j, rfl, rfl, hp, hj, q⟩ := h
  cases ro
  obtain ⟨t, rfl⟩ := ri
  obtain ⟨its, n, r, ho, hz⟩ := I.lst hp
  obtain ⟨h1, h2, h3, h4⟩ := ixN_seq hj
  have hl := r.length
  have hn := line63
  have I' : Inv X pins σ (upd H p (.lst (xs.set j v))) { s with heap := s.heap.update p (Obj.mapSeq (·.setIfInBounds j u)) } :=
    I.lstUpd hp ho (mapSeq_set its n j u) (r.set rv j) (by rw [List.length_set]; exact hz) s.toks
  by_cases h0 : 0 ≤ k
  · have hk : k.toNat = j := by
      rw [seqIndex_of h0 h4] at h1
      exact Option.some.inj h1
    exact PySem.W.ki_setAt ho h0 (by omega) (by rw [List.size_toArray, ← hl]; exact h4) (by rw [hk]; exact ⟨_, I', q⟩)
  · have hk : (k + (its.toArray.size : Int)).toNat = j := by
      rw [seqIndex_neg (by omega) h3] at h1
      rw [List.size_toArray, ← hl]
      exact Option.some.inj h1
    exact PySem.W.ki_setBack ho (by omega) (by rw [List.size_toArray, ← hl]; exact h3) (by omega) (by rw [hk]; exact ⟨_, I', q⟩)

/-! ### slices -/
theorem slice_bounds (lo hi : Option Int) (n : Nat) : (sliceBounds lo hi none n).1 = ((HT.sIx n 0 lo : Nat) : Int) ∧ (sliceBounds lo hi none n).2.1 = ((HT.sIx n n hi : Nat) : Int) ∧ (sliceBounds lo hi none n).2.2 = 1 := by
  refine ⟨?_, ?_, rfl⟩
  · cases lo with
    | none => simp [sliceBounds, HT.sIx]
    | some i =>
      simp only [sliceBounds, HT.sIx, Option.getD_none, show (1 : Int) > 0 by decide, if_true]
      by_cases h : i < 0
      · simp only [h, if_true] <;> omega
      · simp only [h, if_false] <;> omega
  · cases hi with
    | none => simp [sliceBounds, HT.sIx]
    | some i =>
      simp only [sliceBounds, HT.sIx, Option.getD_none, show (1 : Int) > 0 by decide, if_true]
      by_cases h : i < 0
      · simp only [h, if_true] <;> omega
      · simp only [h, if_false] <;> omega
theorem slicePick_cut (its : List Value) (lo hi : Option Int) : slicePick its.toArray lo hi none = ((its.drop (HT.sIx its.length 0 lo)).take (HT.sIx its.length its.length hi - HT.sIx its.length 0 lo)).toArray := by
  obtain ⟨h1, h2, h3⟩ := slice_bounds lo hi its.toArray.size
  unfold slicePick
  rw [h1, h2, h3]
  simp only [sliceRange_one, pick_run, List.size_toArray] <;> rfl
/-- xs[lo:hi] of a list: a new list -/
def rSlL (K : PySem.W.Frag) : V → Option Int → Option Int → Hp → VK → Prop := fun x lo hi H Q => ∃ a xs, x = .ref a ∧ SqL K H a xs ∧ ∀ p, H p = none → Q (.ref p) (upd H p (.lst (cutV xs lo hi)))
theorem sl_list : SlR X (rSlL X.K) := by
  intro pins s σ H x v vl vu lo hi sl Q I rx hs pl pu h
  obtain ⟨a, xs, rfl, hx, q⟩ := h
  cases rx
  obtain ⟨its, r, ht, hz⟩ := I.list hx
  have hlen := r.length
  refine ⟨"list", _, slot_list_getitem.lookup, ht.isList.typeIs, ?_⟩
  refine wpAny_getItem_list_slice ht.isList hs pl pu .none (by simp) ?_ (by rw [List.size_toArray] <;> omega)
  rw [slicePick_cut, ← hlen]
  refine ⟨.ref s.heap.objs.size, _, I.laid (t' := s.toks) (o := .lst (cutV xs lo hi)) (fun b ob q => Heap.get?_push_of_some _ q) (Nat.le_refl _) ?_, rfl, q _ (I.hok.fresh (Nat.le_refl _))⟩
  exact ⟨Nat.le_trans (cutV_length xs lo hi) hz, _, 0, (r.drop (HT.sIx xs.length 0 lo)).take (HT.sIx xs.length xs.length hi - HT.sIx xs.length 0 lo), Heap.get?_push_size _ rfl⟩

/-! ### in, not in: flat items -/
def flatV : V → Bool
  | .non => true
  | .bl _ => true
  | .int _ => true
  | .str _ => true
  | _ => false
/-- == of flat values -/
def eqV : V → V → Bool
  | .non, .non => true
  | .bl a, .bl b => a == b
  | .bl a, .int b => (if a then 1 else 0) == b
  | .int a, .bl b => a == (if b then 1 else 0)
  | .int a, .int b => a == b
  | .str a, .str b => a == b
  | _, _ => false
theorem eqAt_V {A : Around} {s : Shared} {y x : V} {u v : Value} (ry : RelV y u) (rx : RelV x v) (fy : flatV y = true) (fx : flatV x = true) : SeqAt.EqAt A s u v (eqV y x) := by
  cases y with
  | non =>
    cases ry
    cases x with
    | non => cases rx; exact SeqAt.EqAt.same _
    | bl b => cases rx; exact SeqAt.EqAt.none_bool b
    | int b => obtain ⟨t, rfl⟩ := rx; exact SeqAt.EqAt.none_int b t
    | str b => obtain ⟨t, rfl⟩ := rx; exact SeqAt.EqAt.none_str b t
    | _ => exact absurd (show false = true from fx) Bool.false_ne_true
  | bl a =>
    cases ry
    cases x with
    | non => cases rx; exact SeqAt.EqAt.bool_none a
    | bl b => cases rx; exact SeqAt.EqAt.bool_bool a b
    | int b => obtain ⟨t, rfl⟩ := rx; exact SeqAt.EqAt.bool_int a b t
    | str b => obtain ⟨t, rfl⟩ := rx; exact SeqAt.EqAt.bool_str a b t
    | _ => exact absurd (show false = true from fx) Bool.false_ne_true
  | int a =>
    obtain ⟨t', rfl⟩ := ry
    cases x with
    | non => cases rx; exact SeqAt.EqAt.int_none a t'
    | bl b => cases rx; exact SeqAt.EqAt.int_bool a t' b
    | int b => obtain ⟨t, rfl⟩ := rx; exact SeqAt.EqAt.int_int a t' b t
    | str b => obtain ⟨t, rfl⟩ := rx; exact SeqAt.EqAt.int_str a t' b t
    | _ => exact absurd (show false = true from fx) Bool.false_ne_true
  | str a =>
    obtain ⟨t', rfl⟩ := ry
    cases x with
    | non => cases rx; exact SeqAt.EqAt.str_none a t'
    | bl b => cases rx; exact SeqAt.EqAt.str_bool a t' b
    | int b => obtain ⟨t, rfl⟩ := rx; exact SeqAt.EqAt.str_int a t' b t
    | str b => obtain ⟨t, rfl⟩ := rx; exact SeqAt.EqAt.str_str a t' b t
    | _ => exact absurd (show false = true from fx) Bool.false_ne_true
  | _ => exact absurd (show false = true from fy) Bool.false_ne_true
/-- the items' answers, read off the values (a value's own answer does not lean on its token) -/
def eqU (x : V) (u : Value) : Bool := match u with
  | .none => eqV .non x
  | .bool b => eqV (.bl b) x
  | .int i _ => eqV (.int i) x
  | .str z _ => eqV (.str z) x
  | _ => false
theorem eqU_of {x y : V} {u : Value} (r : RelV y u) (f : flatV y = true) : eqU x u = eqV y x := by
  cases y with
  | non => cases r; rfl
  | bl b => cases r; rfl
  | int i => obtain ⟨t, rfl⟩ := r; rfl
  | str z => obtain ⟨t, rfl⟩ := r; rfl
  | _ => exact absurd (show false = true from f) Bool.false_ne_true
theorem any_eqU {x : V} : ∀ {xs : List V} {us : List Value}, Vals xs us → xs.all flatV = true → us.any (eqU x) = xs.any fun y => eqV y x
  | _, _, .nil, _ => rfl
  | y :: xs, u :: us, .cons r t, f => by
    rw [List.all_cons, Bool.and_eq_true] at f
    rw [List.any_cons, List.any_cons, eqU_of r f.1, any_eqU t f.2]
theorem mem_eqAt {A : Around} {s : Shared} {x : V} {v : Value} (rx : RelV x v) (fx : flatV x = true) : ∀ {xs : List V} {us : List Value}, Vals xs us → xs.all flatV = true → ∀ u ∈ us, SeqAt.EqAt A s u v (eqU x u)
  | _, _, .nil, _ => fun u hu => by cases hu
  | y :: xs, u :: us, .cons r t, f => fun u' hu => by
    rw [List.all_cons, Bool.and_eq_true] at f
    rcases List.mem_cons.mp hu with rfl | hu
    · rw [eqU_of r f.1]; exact eqAt_V r rx f.1 fx
    · exact mem_eqAt rx fx t f.2 u' hu
def inV (x : V) (xs : List V) : Bool := xs.any fun y => eqV y x
/-- x in a list or tuple of flat items -/
def rIn (K : PySem.W.Frag) (neg : Bool) : R2 := fun x y H Q => ∃ p xs, y = .ref p ∧ (SqL K H p xs ∨ SqT K H p xs) ∧ flatV x = true ∧ xs.all flatV = true ∧ Q (.bl (if neg then !inV x xs else inV x xs)) H
theorem op_in_seq : OpR X (compareOp .In) (rIn X.K false) := by
  intro pins s σ H x y v u Q I rx ry h
  obtain ⟨p, xs, rfl, hq, fx, fs, q⟩ := h
  cases ry
  rcases hq with hq | hq
  · obtain ⟨its, r, pl, hz⟩ := I.list hq
    refine SeqAt.in_listAt (eqU x) pl.isList (fun w hw => mem_eqAt rx fx r fs w (by simpa using hw)) ⟨.bl _, H, I, rfl, ?_⟩
    rw [show its.toArray.any (eqU x) = its.any (eqU x) by simp, any_eqU r fs]
    exact q
  · obtain ⟨its, r, pl, hz⟩ := I.tuple hq
    refine SeqAt.in_tupleAt (eqU x) pl (fun w hw => mem_eqAt rx fx r fs w (by simpa using hw)) ⟨.bl _, H, I, rfl, ?_⟩
    rw [show its.toArray.any (eqU x) = its.any (eqU x) by simp, any_eqU r fs]
    exact q
theorem op_notIn_seq : OpR X (compareOp .NotIn) (rIn X.K true) := by
  intro pins s σ H x y v u Q I rx ry h
  obtain ⟨p, xs, rfl, hq, fx, fs, q⟩ := h
  cases ry
  rcases hq with hq | hq
  · obtain ⟨its, r, pl, hz⟩ := I.list hq
    refine SeqAt.notIn_listAt (eqU x) pl.isList (fun w hw => mem_eqAt rx fx r fs w (by simpa using hw)) ⟨.bl _, H, I, rfl, ?_⟩
    rw [show its.toArray.any (eqU x) = its.any (eqU x) by simp, any_eqU r fs]
    exact q
  · obtain ⟨its, r, pl, hz⟩ := I.tuple hq
    refine SeqAt.notIn_tupleAt (eqU x) pl (fun w hw => mem_eqAt rx fx r fs w (by simpa using hw)) ⟨.bl _, H, I, rfl, ?_⟩
    rw [show its.toArray.any (eqU x) = its.any (eqU x) by simp, any_eqU r fs]
    exact q
theorem op_notIn_str : OpR X (compareOp .NotIn) (fun x y H Q => ∃ i j, x = .str i ∧ y = .str j ∧ Q (.bl (!(!(Builtin.Str.occurrences j i 0 j.length 1).isEmpty))) H) := by
  intro pins s σ H x y v u Q I rx ry h
  obtain ⟨i, j, rfl, rfl, q⟩ := h
  obtain ⟨t, rfl⟩ := rx
  obtain ⟨t', rfl⟩ := ry
  exact notIn_str ⟨.bl _, H, I, rfl, q⟩

/-! ### len, list(x), tuple(x) of any list or tuple that is read -/
theorem call_len_seq : CallR X (.builtin "len") (fun xs H Q => ∃ p ys, xs = [.ref p] ∧ (SqL X.K H p ys ∨ SqT X.K H p ys) ∧ Q (.int ys.length) H) := by
  intro pins s σ H xs us Q I r h
  obtain ⟨p, ys, rfl, hq, q⟩ := h
  obtain ⟨u, rfl, rx⟩ := vals1 r
  cases rx
  have hn := line63
  rcases hq with hq | hq
  · obtain ⟨its, r', pl, hz⟩ := I.list hq
    have hlen := r'.length
    exact Calls.call_len_list pl.isList (by simp only [List.size_toArray] <;> omega) ⟨.int ys.length, H, I.tok _, ⟨s.toks + 1, by rw [List.size_toArray, hlen]⟩, q⟩
  · obtain ⟨its, r', pl, hz⟩ := I.tuple hq
    have hlen := r'.length
    exact len_tuple pl (by simp only [List.size_toArray] <;> omega) ⟨.int ys.length, H, I.tok _, ⟨s.toks + 1, by rw [List.size_toArray, hlen]⟩, q⟩
theorem call_len_str : CallR X (.builtin "len") (fun xs H Q => ∃ z, xs = [.str z] ∧ z.length ≤ sizeLine ∧ Q (.int z.length) H) := by
  intro pins s σ H xs us Q I r h
  obtain ⟨z, rfl, hz, q⟩ := h
  obtain ⟨u, rfl, t, rfl⟩ := vals1 r
  have hn := line63
  exact len_str (by omega) ⟨.int z.length, H, I.tok _, ⟨_, rfl⟩, q⟩
theorem CallR.or {f : Value} {r r' : List V → Hp → VK → Prop} (h : CallR X f r) (h' : CallR X f r') : CallR X f (fun xs H Q => r xs H Q ∨ r' xs H Q) := by
  intro pins s σ H xs us Q I rs q
  rcases q with q | q
  · exact h pins s σ H xs us Q I rs q
  · exact h' pins s σ H xs us Q I rs q
theorem call_list_of : CallR X (.type "list") (fun xs H Q => ∃ p ys, xs = [.ref p] ∧ (SqL X.K H p ys ∨ SqT X.K H p ys) ∧ ∀ l, H l = none → Q (.ref l) (upd H l (.lst ys))) := by
  intro pins s σ H xs us Q I r h
  obtain ⟨p, ys, rfl, hq, q⟩ := h
  obtain ⟨u, rfl, rx⟩ := vals1 r
  cases rx
  have fin : ∀ (its : List Value), Vals ys its → ys.length ≤ sizeLine → ∀ (h' : Heap) (c' : Nat), (∀ b o', s.heap.get? b = some o' → h'.get? b = some o') →
      h'.get? s.heap.objs.size = some { cls := .type "list", dict := none, data := .seq its.toArray c', slots := #[] } → EP X pins σ Q (.ref s.heap.objs.size) { s with heap := h' } := fun its r' hz h' c' kp e =>
    ⟨.ref s.heap.objs.size, _, I.laid (t' := s.toks) kp (Nat.le_refl _) (show ObjOk X.prog X.w _ h' _ (.lst ys) from ⟨hz, its, c', r', e⟩), rfl, q _ (I.hok.fresh (Nat.le_refl _))⟩
  rcases hq with hq | hq
  · obtain ⟨its, r', pl, hz⟩ := I.list hq
    have hlen := r'.length
    obtain ⟨o, ho, hc, n, hd⟩ := pl.isList
    exact call_list_seq p (.inl rfl) ho hc hd (fun h' c' kp e => fin its r' hz h' c' kp e) (by simp only [List.size_toArray] <;> omega)
  · obtain ⟨its, r', pl, hz⟩ := I.tuple hq
    have hlen := r'.length
    obtain ⟨o, ho, hc, n, hd⟩ := pl
    exact call_list_seq p (.inr rfl) ho hc hd (fun h' c' kp e => fin its r' hz h' c' kp e) (by simp only [List.size_toArray] <;> omega)
theorem call_tuple_of : CallR X (.type "tuple") (fun xs H Q => ∃ p ys, xs = [.ref p] ∧ ((SqL X.K H p ys ∧ ∀ l, H l = none → Q (.ref l) (upd H l (.tup ys))) ∨ (SqT X.K H p ys ∧ Q (.ref p) H))) := by
  intro pins s σ H xs us Q I r h
  obtain ⟨p, ys, rfl, h⟩ := h
  obtain ⟨u, rfl, rx⟩ := vals1 r
  cases rx
  rcases h with ⟨hq, q⟩ | ⟨hq, q⟩
  · obtain ⟨its, r', pl, hz⟩ := I.list hq
    have hlen := r'.length
    refine call_tuple_list pl.isList (fun h' kp => ?_) (by simp only [List.size_toArray] <;> omega)
    have I1 : Inv X pins σ H { s with heap := h' } := I.kept (t' := s.toks) kp
    have I2 : Inv X pins σ (upd H h'.objs.size (.tup ys)) { s with heap := h'.push { cls := .type "tuple", data := .seq its.toArray } } :=
      I1.laid (t' := s.toks) (fun b o e => Heap.get?_push_of_some _ e) (Nat.le_refl _) (show ObjOk X.prog X.w _ _ _ (.tup ys) from ⟨hz, its, r', IsTup.new _ _⟩)
    exact ⟨.ref h'.objs.size, _, I2, rfl, q _ (I1.hok.fresh (Nat.le_refl _))⟩
  · obtain ⟨its, r', pl, hz⟩ := I.tuple hq
    exact call_tuple_same pl ⟨.ref p, H, I, rfl, q⟩

/-! ### the call of a builtin's method: o.m(..) -/
/-- the value is of that builtin type -/
def tyV (K : PySem.W.Frag) (T : String) (x : V) (H : Hp) : Prop := match x with
  | .str _ => T = "str"
  | .int _ => T = "int"
  | .ref p => (T = "list" ∧ ∃ xs, SqL K H p xs) ∨ (T = "tuple" ∧ ∃ o, K.lookup p = some o ∧ o.cls = .type "tuple" ∧ o.dict = none) ∨
      (T = "dict" ∧ ((∃ kvs, H p = some (.dK kvs)) ∨ ∃ kvs, H p = some (.dT kvs))) ∨ (T = "set" ∧ ∃ S n, H p = some (.set S n))
  | _ => False
theorem tyV_is {pins : List (Addr × Obj)} {σ : St} {H : Hp} {s : Shared} {T : String} {x : V} {v : Value} (I : Inv X pins σ H s) (r : RelV x v) (ty : tyV X.K T x H) :
    s.TypeIs v T ∧ ∀ a, v = .ref a → ∃ ob, s.heap.get? a = some ob ∧ ob.dict = none := by
  cases x with
  | str z =>
    obtain ⟨t, rfl⟩ := r
    cases (show T = "str" from ty)
    exact ⟨typeIs_str s z t, fun _ e => nomatch e⟩
  | int i =>
    obtain ⟨t, rfl⟩ := r
    cases (show T = "int" from ty)
    exact ⟨typeIs_int s i t, fun _ e => nomatch e⟩
  | ref p =>
    cases r
    rcases ty with ⟨rfl, xs, hq⟩ | ⟨rfl, o, hk, hc, hd⟩ | ⟨rfl, hk⟩ | ⟨rfl, S, n, hk⟩
    · obtain ⟨its, _, pl, _⟩ := I.list hq
      refine ⟨pl.isList.typeIs, fun a e => ?_⟩
      cases e
      obtain ⟨o, n, e, c, hd, _⟩ := pl
      exact ⟨o, e, hd⟩
    · refine ⟨⟨o, I.kIn p o hk, hc⟩, fun a e => ?_⟩
      cases e
      exact ⟨o, I.kIn _ o hk, hd⟩
    · have z : ∃ o, s.heap.get? p = some o ∧ o.ExactDict := by
        rcases hk with ⟨kvs, hk⟩ | ⟨kvs, hk⟩
        · obtain ⟨_, _, _, _, o, _, _, e, ex, _⟩ := I.hok p _ hk
          exact ⟨o, e, ex⟩
        · obtain ⟨_, _, _, _, o, _, _, e, ex, _⟩ := I.hok p _ hk
          exact ⟨o, e, ex⟩
      obtain ⟨o, e, ex⟩ := z
      refine ⟨⟨o, e, ex.1⟩, fun a e2 => ?_⟩
      cases e2
      exact ⟨o, e, ex.2.1⟩
    · obtain ⟨o, _, _, _, e, ex, _⟩ := I.hok p _ hk
      refine ⟨⟨o, e, ex.1⟩, fun a e2 => ?_⟩
      cases e2
      exact ⟨o, e, ex.2.1⟩
  | _ => exact False.elim ty
def tBM0 (K : PySem.W.Frag) (T : String) (r : V → List V → Hp → VK → Prop) (to : TE) : TE := fun σ H Q => to σ H fun x H1 => tyV K T x H1 ∧ r x [] H1 Q
def tBM (K : PySem.W.Frag) (T : String) (r : V → List V → Hp → VK → Prop) (to : TE) (t : TA) : TE := fun σ H Q => to σ H fun x H1 => tyV K T x H1 ∧ t σ H1 fun xs H2 => r x xs H2 Q
variable {o e : Expr} {es : List Expr} {to : TE} {t : TA} {name : Str} {apos cpos : Pos} {T id : String} {r : V → List V → Hp → VK → Prop}
theorem pe_bm0 (pa : PlainAttrs T) (slot : Slot T name id) (hty : typeOf (.builtin id) = pure (.type "method_descriptor")) (hm : MtR X id r) (ho : PE X o to)
    (hbase : attributeBase o name X.env (eval o X.env) = eval o X.env := by rfl) (hline : (apos.endLine == cpos.line) = true := by rfl) : PE X (.Call (.Attribute o name apos) [] [] cpos) (tBM0 X.K T r to) := by
  intro pins s σ H Q I h
  refine wpAny_Call_method0_late hbase hline (thn (ho pins s σ H _ I h) fun v s1 ⟨x, H1, I1, r1, ty, q1⟩ => ?_)
  obtain ⟨h1, h2⟩ := tyV_is I1 r1 ty
  exact ⟨T, id, pa, slot, hty, h1, h2, Calls.callWith_builtin rfl (PySem.evalArgs_none (hm pins s1 σ H1 x [] v [] Q I1 r1 .nil q1))⟩
theorem pe_bm (pa : PlainAttrs T) (slot : Slot T name id) (hty : typeOf (.builtin id) = pure (.type "method_descriptor")) (hm : MtR X id r) (ho : PE X o to) (ha : PA X (e :: es) t)
    (hbase : attributeBase o name X.env (eval o X.env) = eval o X.env := by rfl)
    (hfew : ((backTo cpos (starEach (e :: es) X.env)).all (fun x => !x.1) && (backToKw cpos (keywordEach [] X.env)).all (fun x => x.1.isSome)
      && decide ((e :: es).length + ([] : List Keyword).length + (if ([] : List Keyword).isEmpty then 0 else 1) < 30)) = true := by rfl)
    (hline : (apos.endLine == cpos.line) = true := by rfl) (hs : starEach (e :: es) X.env = (false, eval e X.env) :: starEach es X.env := by rfl) (hplain : (backTo cpos (starEach es X.env)).any (·.1) = false := by rfl) :
    PE X (.Call (.Attribute o name apos) (e :: es) [] cpos) (tBM X.K T r to t) := by
  intro pins s σ H Q I h
  refine wpAny_Call_method_late hbase hfew hline rfl (thn (ho pins s σ H _ I h) fun v s1 ⟨x, H1, I1, r1, ty, q1⟩ => ?_)
  obtain ⟨h1, h2⟩ := tyV_is I1 r1 ty
  refine ⟨T, id, pa, slot, hty, h1, h2, ?_⟩
  have hA := ha cpos pins s1 σ H1 _ I1 q1
  rw [hs] at hA ⊢
  refine Calls.callWith_builtin (by show (false || (backTo cpos (starEach es X.env)).any (·.1)) = false; rw [hplain] <;> rfl) (Calls.evalArgs_plain ?_)
  exact thn hA fun us s2 ⟨vs, H2, I2, r2, q2⟩ => hm pins s2 σ H2 x vs v us Q I2 r1 r2 q2
/- xs.append(e), list.index on a module's tuple .. are MtR facts of 06m -/
end
end L2

namespace L2
open PySem PySem.Spec PyProof.Rows

def MtM (X : Cx) (id : String) (r : V → List V → Hp → VK → Prop) : Prop :=
  ∀ (pins : List (Addr × Obj)) (s : Shared) (σ : St) (H : Hp) (x : V) (xs : List V) (v : Value) (us : List Value) (Q : VK), Inv X pins σ H s → RelV x v → Vals xs us → r x xs H Q →
    wpAny (model X.prog X.w) X.A (call (.builtin id) (v :: us)) (EP X pins σ Q) X.xe s

/-! ### lists of values -/
theorem Vals.one : ∀ {x : V} {us : List Value}, Vals [x] us → ∃ u, us = [u] ∧ RelV x u
  | _, _, .cons r .nil => ⟨_, rfl, r⟩
theorem Vals.two : ∀ {x y : V} {us : List Value}, Vals [x, y] us → ∃ u v, us = [u, v] ∧ RelV x u ∧ RelV y v
  | _, _, _, .cons r (.cons q .nil) => ⟨_, _, rfl, r, q⟩
theorem Vals.zero : ∀ {us : List Value}, Vals [] us → us = []
  | _, .nil => rfl
theorem Vals.dropLast {xs : List V} {us : List Value} (h : Vals xs us) : Vals xs.dropLast us.dropLast := by
  induction h with
  | nil => exact .nil
  | cons r t ih =>
    cases t with
    | nil => exact .nil
    | cons q t' => exact .cons r ih
theorem Vals.eraseIdx : ∀ {xs : List V} {us : List Value} (i : Nat), Vals xs us → Vals (xs.eraseIdx i) (us.eraseIdx i)
  | _, _, _, .nil => .nil
  | _, _, 0, .cons _ t => t
  | _, _, i + 1, .cons r t => .cons r (Vals.eraseIdx i t)
theorem Vals.reverse {xs : List V} {us : List Value} (h : Vals xs us) : Vals xs.reverse us.reverse := by
  induction h with
  | nil => exact .nil
  | cons r t ih => rw [List.reverse_cons, List.reverse_cons]; exact Vals.append ih (.cons r .nil)
theorem Vals.rep {xs : List V} {us : List Value} (h : Vals xs us) : ∀ k : Nat, Vals (List.replicate k xs).flatten (List.replicate k us).flatten
  | 0 => .nil
  | k + 1 => by
    rw [List.replicate_succ, List.replicate_succ, List.flatten_cons, List.flatten_cons]
    exact Vals.append h (Vals.rep h k)
theorem erase_last {α : Type} (l : List α) : l.eraseIdx (l.length - 1) = l.dropLast := by
  induction l with
  | nil => rfl
  | cons a r ih =>
    cases r with
    | nil => rfl
    | cons b r =>
      have e : (a :: b :: r).length - 1 = ((b :: r).length - 1) + 1 := by
        have h1 : (a :: b :: r).length = r.length + 2 := rfl
        have h2 : (b :: r).length = r.length + 1 := rfl
        omega
      rw [e, List.eraseIdx_cons_succ, ih]
      all_goals rfl
theorem len_erase {α : Type} : ∀ (l : List α) (i : Nat), (l.eraseIdx i).length ≤ l.length
  | [], _ => Nat.le_refl _
  | _ :: _, 0 => Nat.le_succ _
  | _ :: r, i + 1 => Nat.succ_le_succ (len_erase r i)
theorem foldl_rep (its : List Value) : ∀ (k : Nat) (acc : List Value),
    List.foldl (fun x1 x2 => x1 ++ x2) acc.toArray (List.replicate k its.toArray) = (acc ++ (List.replicate k its).flatten).toArray
  | 0, acc => by simp
  | k + 1, acc => by
    have e : acc.toArray ++ its.toArray = (acc ++ its).toArray := by simp
    have e2 : (acc ++ its) ++ (List.replicate k its).flatten = acc ++ (List.replicate (k + 1) its).flatten := by
      rw [List.replicate_succ, List.flatten_cons, List.append_assoc]
    rw [← e2, ← foldl_rep its k (acc ++ its), ← e, List.replicate_succ, List.foldl_cons]

section
variable {X : Cx} {pins : List (Addr × Obj)} {σ : St} {H : Hp} {s : Shared} {l b : Addr} {xs ys zs : List V}

/-! ### the two steps: a tracked list is rewritten, a new list is laid -/
theorem Inv.lset {its its' : List Value} {n : Nat} {f : Array Value → Array Value} {t' : Nat} (I : Inv X pins σ H s) (hH : H l = some (.lst xs))
    (e : s.heap.get? l = some { cls := .type "list", data := .seq its.toArray n }) (hf : f its.toArray = its'.toArray) (hv : Vals ys its') (hz : ys.length ≤ sizeLine) :
    Inv X pins σ (upd H l (.lst ys)) { s with heap := s.heap.update l (Obj.mapSeq f), toks := t' } := by
  have q := PySem.IsL.update e f
  rw [hf] at q
  refine I.write (x := l) (e := l) (by rw [hH]; exact trivial) (.inl rfl) (fun b' u hb hu => (Heap.get?_update_other s.heap (Obj.mapSeq f) (Ne.symm hb)).trans hu) ⟨_, q⟩ ?_
  exact ⟨hz, its', _, hv, q⟩
theorem Inv.lnew {its : List Value} {t' : Nat} (I : Inv X pins σ H s) (hv : Vals ys its) (hz : ys.length ≤ sizeLine) :
    Inv X pins σ (upd H s.heap.objs.size (.lst ys)) { s with heap := s.heap.push { cls := .type "list", data := .seq its.toArray }, toks := t' } :=
  I.laid (fun _ _ q => Heap.get?_push_of_some _ q) (Nat.le_refl _) ⟨hz, its, 0, hv, Heap.get?_push_size _ rfl⟩
theorem Inv.fresh (I : Inv X pins σ H s) : H s.heap.objs.size = none := I.hok.fresh (Nat.le_refl _)
theorem Inv.lstM (I : Inv X pins σ H s) (hH : H l = some (.lst xs)) : xs.length ≤ sizeLine ∧ ∃ (its : List Value) (n : Nat), Vals xs its ∧ xs.length = its.length ∧ s.heap.get? l = some { cls := .type "list", data := .seq its.toArray n } := by
  obtain ⟨z, its, n, r, e⟩ := I.hok l _ hH
  exact ⟨z, its, n, r, r.length, e⟩

theorem notLongL {n : Nat} (h : n ≤ sizeLine) : Builtin.List.listTooLong n = false := by
  unfold Builtin.List.listTooLong
  exact decide_eq_false (by omega)
end

section
variable {X : Cx}

/-! ### methods -/
def rAppend : V → List V → Hp → VK → Prop := fun x vs H Q => ∃ l xs y, x = .ref l ∧ vs = [y] ∧ H l = some (.lst xs) ∧ xs.length < sizeLine ∧ Q .non (upd H l (.lst (xs ++ [y])))
theorem mt_append : MtM X "list.append" rAppend := by
  intro pins s σ H x vs v us Q I rx rv h
  obtain ⟨l, xs, y, rfl, rfl, hH, hz, q⟩ := h
  cases rx
  obtain ⟨u, rfl, ru⟩ := rv.one
  obtain ⟨z, its, n, r, hl, e⟩ := I.lstM hH
  refine call_meets F.slot_list_append ⟨_, e, rfl⟩ F.entry_list_append (F.args_list_append_2 _ _) (PySem.list_append l its.toArray n u (by rw [List.size_toArray]; omega)) ⟨e, ?_⟩
  refine ⟨.non, _, I.lset (its' := its ++ [u]) hH e (by simp) (r.append (.cons ru .nil)) ?_, rfl, q⟩
  rw [List.length_append, List.length_singleton]
  omega

def rExtend : V → List V → Hp → VK → Prop := fun x vs H Q => ∃ l b xs zs, x = .ref l ∧ vs = [.ref b] ∧ H l = some (.lst xs) ∧ H b = some (.lst zs) ∧ xs.length + zs.length ≤ sizeLine ∧ Q .non (upd H l (.lst (xs ++ zs)))
theorem mt_extend : MtM X "list.extend" rExtend := by
  intro pins s σ H x vs v us Q I rx rv h
  obtain ⟨l, b, xs, zs, rfl, rfl, hH, hB, hz, q⟩ := h
  cases rx
  obtain ⟨u, rfl, ru⟩ := rv.one
  cases ru
  obtain ⟨z, its, n, r, hl, e⟩ := I.lstM hH
  obtain ⟨z2, its2, n2, r2, hl2, e2⟩ := I.lstM hB
  have hsz : its.toArray.size + its2.toArray.size ≤ sizeLine := by rw [List.size_toArray, List.size_toArray]; omega
  have hlong : ¬ (!its.toArray.isEmpty && Builtin.List.listTooLong (its.toArray.size + its2.toArray.size)) = true := by
    rw [notLongL hsz, Bool.and_false]
    exact Bool.false_ne_true
  refine call_meets F.slot_list_extend ⟨_, e, rfl⟩ F.entry_list_extend (F.args_list_extend_2 _ _)
    (AutoSeq1.list_extend_list_list_0 l its.toArray n b its2.toArray n2 hlong (by rw [List.size_toArray]; omega) (by omega)) ⟨e, e2, ?_⟩
  refine ⟨.non, _, I.lset (its' := its ++ its2) hH e (by simp) (r.append r2) ?_, rfl, q⟩
  rw [List.length_append]
  omega

def rPop : V → List V → Hp → VK → Prop := fun x vs H Q => ∃ l xs y, x = .ref l ∧ vs = [] ∧ H l = some (.lst xs) ∧ xs[xs.length - 1]? = some y ∧ Q y (upd H l (.lst xs.dropLast))
theorem mt_pop : MtM X "list.pop" rPop := by
  intro pins s σ H x vs v us Q I rx rv h
  obtain ⟨l, xs, y, rfl, rfl, hH, hy, q⟩ := h
  cases rx
  have hus := rv.zero
  subst hus
  obtain ⟨z, its, n, r, hl, e⟩ := I.lstM hH
  obtain ⟨u, hu, ru⟩ := r.get hy
  have hy' : its.toArray[its.toArray.size - 1]? = some u := by
    show its.toArray[its.length - 1]? = some u
    rw [← Array.getElem?_toList, ← hl]
    exact hu
  refine call_meets F.slot_list_pop ⟨_, e, rfl⟩ F.entry_list_pop (F.args_list_pop_1 _) (MeetsSeq.list_pop_last l its.toArray n u hy' (by rw [List.size_toArray]; omega)) ⟨e, ?_⟩
  refine ⟨y, _, I.lset (its' := its.dropLast) hH e ?_ r.dropLast ?_, ru, q⟩
  · show its.toArray.eraseIdxIfInBounds (its.toArray.size - 1) = its.dropLast.toArray
    rw [List.size_toArray, List.eraseIdxIfInBounds_toArray, erase_last]
  · rw [List.length_dropLast]
    omega

def rPopAt : V → List V → Hp → VK → Prop := fun x vs H Q => ∃ l xs i k y, x = .ref l ∧ vs = [.int i] ∧ H l = some (.lst xs) ∧ -(2 ^ 63) ≤ i ∧ i < 2 ^ 63 ∧ seqIndex? i xs.length = some k ∧ xs[k]? = some y ∧ Q y (upd H l (.lst (xs.eraseIdx k)))
theorem mt_popAt : MtM X "list.pop" rPopAt := by
  intro pins s σ H x vs v us Q I rx rv h
  obtain ⟨l, xs, i, k, y, rfl, rfl, hH, h1, h2, hk, hy, q⟩ := h
  cases rx
  obtain ⟨u, rfl, ru⟩ := rv.one
  obtain ⟨t, rfl⟩ := ru
  obtain ⟨z, its, n, r, hl, e⟩ := I.lstM hH
  obtain ⟨w, hw, rw'⟩ := r.get hy
  refine call_meets F.slot_list_pop ⟨_, e, rfl⟩ F.entry_list_pop (F.args_list_pop_2 _ _)
    (MeetsSeq.list_pop_at l its.toArray n i t k w (fitsIndex_both h1 h2) (by rw [List.size_toArray, ← hl]; exact hk) (by rw [← Array.getElem?_toList]; exact hw) (by rw [List.size_toArray]; omega)) ⟨e, ?_⟩
  refine ⟨y, _, I.lset (its' := its.eraseIdx k) hH e ?_ (r.eraseIdx k) ?_, rw', q⟩
  · show its.toArray.eraseIdxIfInBounds k = (its.eraseIdx k).toArray
    rw [List.eraseIdxIfInBounds_toArray]
  · have := len_erase xs k
    omega

def rReverse : V → List V → Hp → VK → Prop := fun x vs H Q => ∃ l xs, x = .ref l ∧ vs = [] ∧ H l = some (.lst xs) ∧ Q .non (upd H l (.lst xs.reverse))
theorem mt_reverse : MtM X "list.reverse" rReverse := by
  intro pins s σ H x vs v us Q I rx rv h
  obtain ⟨l, xs, rfl, rfl, hH, q⟩ := h
  cases rx
  have hus := rv.zero
  subst hus
  obtain ⟨z, its, n, r, hl, e⟩ := I.lstM hH
  refine call_meets F.slot_list_reverse ⟨_, e, rfl⟩ F.entry_list_reverse (F.args_list_reverse_1 _) (AutoSeq1.list_reverse_list_0 l its.toArray n (by rw [List.size_toArray]; omega)) ⟨e, ?_⟩
  refine ⟨.non, _, I.lset (its' := its.reverse) hH e (by simp) r.reverse ?_, rfl, q⟩
  rw [List.length_reverse]
  omega

def rClear : V → List V → Hp → VK → Prop := fun x vs H Q => ∃ l xs, x = .ref l ∧ vs = [] ∧ H l = some (.lst xs) ∧ Q .non (upd H l (.lst []))
theorem mt_clear : MtM X "list.clear" rClear := by
  intro pins s σ H x vs v us Q I rx rv h
  obtain ⟨l, xs, rfl, rfl, hH, q⟩ := h
  cases rx
  have hus := rv.zero
  subst hus
  obtain ⟨z, its, n, r, hl, e⟩ := I.lstM hH
  refine call_meets F.slot_list_clear ⟨_, e, rfl⟩ F.entry_list_clear (F.args_list_clear_1 _) (AutoSeq1.list_clear_list_0 l its.toArray n (by rw [List.size_toArray]; omega)) ⟨e, ?_⟩
  exact ⟨.non, _, I.lset (its' := []) (ys := []) hH e rfl .nil (Nat.zero_le _), rfl, q⟩

/-! ### list + list, list += list, list * int -/
def rCat : R2 := fun x y H Q => ∃ l b xs zs, x = .ref l ∧ y = .ref b ∧ H l = some (.lst xs) ∧ H b = some (.lst zs) ∧ xs.length + zs.length ≤ sizeLine ∧ ∀ p, H p = none → Q (.ref p) (upd H p (.lst (xs ++ zs)))
theorem op_cat : OpR X (binaryOp .Add) rCat := by
  intro pins s σ H x y v u Q I rx ry h
  obtain ⟨l, b, xs, zs, rfl, rfl, hH, hB, hz, q⟩ := h
  cases rx
  cases ry
  obtain ⟨z, its, n, r, hl, e⟩ := I.lstM hH
  obtain ⟨z2, its2, n2, r2, hl2, e2⟩ := I.lstM hB
  refine PySem.P.add_list e e2 ?_ (by rw [List.size_toArray, List.size_toArray]; omega)
  have ea : its.toArray ++ its2.toArray = (its ++ its2).toArray := by simp
  rw [ea]
  exact ⟨.ref _, _, I.lnew (t' := s.toks) (r.append r2) (by rw [List.length_append]; omega), rfl, q _ I.fresh⟩
/-- a list times an int (a negative one is nothing) -/
def rRep : R2 := fun x y H Q => ∃ l k xs, x = .ref l ∧ y = .int k ∧ H l = some (.lst xs) ∧ -(2 ^ 63) ≤ k ∧ k < 2 ^ 63 ∧ xs.length * k.toNat ≤ sizeLine ∧
  ∀ p, H p = none → Q (.ref p) (upd H p (.lst (List.replicate k.toNat xs).flatten))
theorem len_rep {α : Type} (xs : List α) (k : Nat) : (List.replicate k xs).flatten.length = k * xs.length := by
  induction k with
  | zero => simp
  | succ k ih => rw [List.replicate_succ, List.flatten_cons, List.length_append, ih, Nat.succ_mul, Nat.add_comm]
theorem op_rep : OpR X (binaryOp .Mult) rRep := by
  intro pins s σ H x y v u Q I rx ry h
  obtain ⟨l, k, xs, rfl, rfl, hH, h1, h2, hz, q⟩ := h
  cases rx
  obtain ⟨t, rfl⟩ := ry
  obtain ⟨z, its, n, r, hl, e⟩ := I.lstM hH
  have hlen : its.toArray.size * k.toNat ≤ sizeLine := by rw [List.size_toArray, ← hl]; exact hz
  have hcap : ¬ its.toArray.size * k.toNat > (2 ^ 63 - 1) / 8 := by
    have : (sizeLine : Nat) ≤ (2 ^ 63 - 1) / 8 := by decide
    omega
  have hfit : ¬ (!Builtin.List.listFitsIndex k) = true := by
    rw [fitsIndex_both h1 h2]
    exact Bool.false_ne_true
  have hlong : ¬ Builtin.List.listTooLong (its.toArray.size * k.toNat) = true := by
    rw [notLongL hlen]
    exact Bool.false_ne_true
  have hnew : List.foldl (fun x1 x2 => x1 ++ x2) #[] (List.replicate (if its.toArray.isEmpty = true then 0 else k.toNat) its.toArray) = (List.replicate k.toNat its).flatten.toArray := by
    have f0 : ∀ m : Nat, List.foldl (fun x1 x2 => x1 ++ x2) #[] (List.replicate m its.toArray) = (List.replicate m its).flatten.toArray := fun m => by
      have := foldl_rep its m []
      rw [List.nil_append] at this
      exact this
    rw [f0]
    cases its with
    | nil => simp
    | cons a r' => rw [if_neg (by simp)]
  refine wpAny_binaryOp_repeat_ref (T := "list") (U := "int") (by decide) ⟨_, e, rfl⟩ (fun s' => typeIs_int s' k t) noFill_list_mul F.fills_int_mul F.slot_int_rmul repeat_list F.slot_int_index.lookup
    (call_meets F.slot_int_rmul (typeIs_int s k t) F.entry_int_rmul (F.args_int_rmul_2 _ _) (int___rmul___int_list k t l its.toArray n)
      ⟨e, rfl, ⟨_, e, rfl⟩, call_meets F.slot_list_mul ⟨_, e, rfl⟩ F.entry_list_mul (F.args_list_mul_2 _ _) (AutoListH.list___mul___list_int_3 l its.toArray n k t hfit hcap hlong) ⟨e, ?_⟩⟩)
  rw [hnew]
  exact ⟨.ref _, _, I.lnew (t' := s.toks) (r.rep k.toNat) (by rw [len_rep, Nat.mul_comm]; exact hz), rfl, q _ I.fresh⟩

/-! ### del xs[i] -/
theorem del_list {pins : List (Addr × Obj)} {s : Shared} {σ : St} {H : Hp} {l : Addr} {xs : List V} {i : Int} {t : Tok} {k : Nat} {Q : Unit → Shared → Prop} (I : Inv X pins σ H s) (hH : H l = some (.lst xs))
    (h1 : -(2 ^ 63) ≤ i) (h2 : i < 2 ^ 63) (hk : seqIndex? i xs.length = some k) (h : ∀ s', Inv X pins σ (upd H l (.lst (xs.eraseIdx k))) s' → Q () s') :
    wpAny (model X.prog X.w) X.A (delItem (.ref l) (.int i t)) Q X.xe s := by
  obtain ⟨z, its, n, r, hl, e⟩ := I.lstM hH
  refine PySem.P.delItem_list (k := k) e (fitsIndex_both h1 h2) (by rw [List.size_toArray, ← hl]; exact hk) (h _ ?_) (by rw [List.size_toArray]; omega)
  refine I.lset (its' := its.eraseIdx k) (t' := s.toks) hH e ?_ (r.eraseIdx k) ?_
  · show its.toArray.eraseIdxIfInBounds k = (its.eraseIdx k).toArray
    rw [List.eraseIdxIfInBounds_toArray]
  · have := len_erase xs k
    omega
end

/-! ### xs[a:b] = ys -/
section
variable {prog : Program} {w : World} {A : Around} {E : Value → Shared → Prop} {s : Shared}
theorem splice_eq (its its2 : List Value) (a c : Nat) : its.toArray.extract 0 a ++ its2.toArray ++ its.toArray.extract c its.toArray.size = (its.take a ++ its2 ++ its.drop c).toArray := by
  apply Array.toList_inj.mp
  first
    | (simp
       exact List.take_of_length_le (by simp))
    | simp [List.take_of_length_le]
    | simp
theorem bounds_run {a c n : Nat} (hac : a ≤ c) (hc : c ≤ n) : sliceBounds (some (a : Int)) (some (c : Int)) none n = ((a : Int), (c : Int), 1) := by
  simp only [sliceBounds, Option.getD_none]
  have h1 : ¬ ((a : Int) < 0) := by omega
  have h2 : ¬ ((c : Int) < 0) := by omega
  simp only [h1, h2, if_false, show (1 : Int) > 0 by decide, if_true]
  congr 1
  · omega
  · congr 1; omega
set_option maxRecDepth 100000 in
/-- list.__setitem__ with a slice of step one and another list -/
theorem setItem_slice {l b sl : Addr} {items new : Array Value} {n n2 : Nat} {vl vu : Value} {a c : Nat} {Q : Unit → Shared → Prop}
    (e : s.heap.get? l = some { cls := .type "list", data := .seq items n }) (e2 : s.heap.get? b = some { cls := .type "list", data := .seq new n2 }) (hne : l ≠ b)
    (hs : s.heap.IsSliceOf sl vl vu .none) (pl : IsPart vl (some (a : Int))) (pu : IsPart vu (some (c : Int))) (hac : a ≤ c) (hc : c ≤ items.size)
    (hsz : items.size + new.size ≤ sizeLine) (h : Q () { s with heap := s.heap.update l (Obj.mapSeq fun xs => xs.extract 0 a ++ new ++ xs.extract c xs.size) }) :
    wpAny (model prog w) A (setItem (.ref l) (.ref sl) (.ref b)) Q E s := by
  have hl : s.heap.IsList l items := PySem.IsL.isList e
  have hb : s.heap.IsList b new := PySem.IsL.isList e2
  obtain ⟨os, hos, hcs, hds⟩ := id hs
  have hTs : s.TypeIs (.ref sl) "slice" := ⟨os, hos, hcs⟩
  have hstep : ¬ ((rawPart none == rawInt 0) = true) := Bool.false_ne_true
  have hsame : Builtin.List.listSameRef (.ref l) (.ref b) = false := by
    unfold Builtin.List.listSameRef
    exact beq_eq_false_iff_ne.mpr hne
  have hmax : (max (a : Int) (c : Int)).toNat = c := by omega
  have hz' : ((fun xs : Array Value => xs.extract 0 a ++ new ++ xs.extract c xs.size) items).size ≤ sizeLine + 1 := by
    simp only [Array.size_append, Array.size_extract]
    omega
  unfold setItem
  try with_reducible refine wpAny_holding ?_
  first | refine wpAny_bind (wpAny_pure ?_) | skip
  refine wpAny_bind (wpAny_sequenceKey hl.typeIs (by decide) ?_)
  refine wpAny_bind (wpAny_callSpecial?_slot (name := Str.ofString "__setitem__") hl.typeIs slot_list_setitem
    (wpAny_call_entry slot_list_setitem hl.typeIs entry_list_setitem ?_ (args_list_setitem _ _ _)))
  show wpAny _ _ (Builtin.List.listSubscript? (.ref sl) >>= _) _ _ s
  refine wpAny_bind ?_
  unfold Builtin.List.listSubscript?
  refine wpAny_bind (wpAny_specialOf hTs slice_no_index ?_)
  simp only [Option.isNone_none, if_true]
  refine wpAny_pure ?_
  show wpAny _ _ (typeOf (.ref sl) >>= _) _ _ s
  refine wpAny_bind (wpAny_typeOf hTs ?_)
  first
    | rw [if_neg (by decide)]
    | refine PySem.W.KFB.if_not (by decide) ?_
  rw [listSliceParts_eq]
  refine wpAny_bind (wpAny_bind (wpAny_field hos hds (x := .none) rfl (wpAny_bind (wpAny_listPart .none ?_))))
  rw [if_neg hstep]
  refine wpAny_bind (wpAny_field hos hds (x := vl) rfl (wpAny_bind (wpAny_listPart pl ?_)))
  refine wpAny_bind (wpAny_field hos hds (x := vu) rfl (wpAny_bind (wpAny_listPart pu (wpAny_pure ?_))))
  first
    | simp only [hsame, Bool.false_eq_true, if_false]
    | refine PySem.W.KFB.if_not hsame ?_
    | (dsimp only
       rw [if_neg (by rw [hsame]; exact Bool.false_ne_true)])
  refine wpAny_bind (m := Builtin.List.listAllItems (.ref b) "must assign iterable to extended slice") ?_
  unfold Builtin.List.listAllItems
  refine wpAny_bind (wpAny_typeOf hb.typeIs ?_)
  first
    | refine PySem.W.KFB.if_so (by decide) ?_
    | rw [if_pos (by decide)]
    | simp only [beq_self_eq_true, Bool.true_or, if_true]
  unfold Builtin.List.listItems
  refine wpAny_bind (wpAny_seqItems e2 rfl (wpAny_pure ?_))
  refine wpAny_bind (wpAny_bind (wpAny_seqItems e rfl (wpAny_pure ?_)))
  refine wpAny_bind (wpAny_of_eq ((sliceIndices_raw (some (a : Int)) (some (c : Int)) none items.size (by simp)).trans (congrArg (pure : Int × Int × Int → Sem (Int × Int × Int)) (bounds_run hac hc))) ?_)
  show wpAny _ _ (if ((1 : Int) == 1) = true then _ else _) _ _ s
  rw [if_pos (by decide)]
  refine wpAny_bind (wpAny_rule ?_)
  first
    | simp only [notLongL hsz, Bool.false_eq_true, if_false]
    | refine PySem.W.KFB.if_not (notLongL hsz) ?_
  first | refine wpAny_bind (wpAny_pure ?_) | skip
  show wpAny _ _ (updateSeq l (fun xs => xs.extract 0 ((a : Int)).toNat ++ new ++ xs.extract (max (a : Int) (c : Int)).toNat xs.size) >>= _) _ _ s
  rw [hmax, Int.toNat_natCast]
  refine wpAny_bind (wpAny_updateSeq (hz := Nat.le_trans (Nat.le_add_right _ _) hsz) (_hz' := hz') e rfl ?_)
  refine wpAny_bind (wpAny_letGo ?_)
  first
    | exact wpAny_bind (wpAny_pure (wpAny_pure ⟨.none, rfl, wpAny_pure h⟩))
    | exact wpAny_pure ⟨.none, rfl, wpAny_pure h⟩
end

section
variable {X : Cx}
/-- xs[a:c] = ys of another list, at the value level: sl is the slice object that was just made -/
theorem set_slice {pins : List (Addr × Obj)} {s : Shared} {σ : St} {H : Hp} {l b sl : Addr} {xs ys : List V} {a c : Int} {vl vu : Value} {Q : Unit → Shared → Prop} (I : Inv X pins σ H s)
    (hH : H l = some (.lst xs)) (hB : H b = some (.lst ys)) (hne : l ≠ b) (hs : s.heap.IsSliceOf sl vl vu .none) (ra : RelV (.int a) vl) (rc : RelV (.int c) vu) (h0 : 0 ≤ a) (hac : a ≤ c) (hc : c ≤ xs.length)
    (hz : xs.length + ys.length ≤ sizeLine) (h : ∀ s', Inv X pins σ (upd H l (.lst (xs.take a.toNat ++ ys ++ xs.drop c.toNat))) s' → Q () s') :
    wpAny (model X.prog X.w) X.A (setItem (.ref l) (.ref sl) (.ref b)) Q X.xe s := by
  obtain ⟨ta, rfl⟩ := ra
  obtain ⟨tc, rfl⟩ := rc
  obtain ⟨z, its, n, r, hl, e⟩ := I.lstM hH
  obtain ⟨z2, its2, n2, r2, hl2, e2⟩ := I.lstM hB
  obtain ⟨a', rfl⟩ := Int.eq_ofNat_of_zero_le h0
  obtain ⟨c', rfl⟩ := Int.eq_ofNat_of_zero_le (Int.le_trans h0 hac)
  simp only [Int.toNat_natCast] at h
  refine setItem_slice (a := a') (c := c') e e2 hne hs (.int _ _) (.int _ _) (by omega) (by rw [List.size_toArray]; omega) (by rw [List.size_toArray, List.size_toArray]; omega) (h _ ?_)
  refine I.lset (its' := its.take a' ++ its2 ++ its.drop c') (t' := s.toks) hH e ?_ (Vals.append (Vals.append (r.take _) r2) (r.drop _)) ?_
  · exact splice_eq its its2 a' c'
  · rw [List.length_append, List.length_append, List.length_take, List.length_drop]
    omega
end
end L2

namespace Att
open PySem PySem.W PySem.Calls PyProof.Rows

/-! ### the script -/
theorem ints_of_wellAll {P : Params} {h : Heap} : ∀ (ns : List Int) (vs : List Value), WellAll P h vs (ns.map WData.int) → IntsAre vs ns := by
  intro ns
  induction ns with
  | nil =>
    intro vs w
    rw [List.map_nil] at w
    cases w
    exact .nil
  | cons n ns ih =>
    intro vs w
    rw [List.map_cons] at w
    cases w with
    | cons a b =>
      cases a
      exact .cons _ _ (ih _ b)

theorem script_of {l : OpenLaw} {n : Nat} (hn : l.most = some n) {P : Params} {h : Heap} {args : List WData} {vals : List Value}
    (hpre : l.row.toRowW.claim.pre args = true) (hwl : WellAll P h vals args) :
    ∃ a vs ns, vals = [Value.ref a] ∧ args = [WData.list (ns.map WData.int)] ∧ h.get? a = some { cls := .type "list", data := .seq vs.toArray } ∧ IntsAre vs ns ∧ ns.length ≤ n := by
  have hsh : WShape.hasAll [] args [.list .int] = true := (pre_splitW hpre).1
  have hc : l.pre.holds [] { args := args } = true := (pre_splitW hpre).2
  obtain ⟨d, r, rfl, h1, h2⟩ := hasAllW_cons hsh
  obtain rfl := hasAllW_nil h2
  obtain ⟨xs, rfl, h3⟩ := hasW_list h1
  obtain ⟨ns, rfl⟩ := items_int h3
  have hlen : ns.length ≤ n := by
    unfold OpenLaw.pre at hc
    have h4 : (WTm.not (.lt (.lit (.int (n : Int))) (.len (.arg 0)))).holds [] { args := [.list (ns.map .int)] } = true := by
      have h4 := (holds_andW hc).1
      rw [hn] at h4
      exact h4
    have h5 := condW_of h4 (w_not (w_lt w_lit (w_len_list (w_arg rfl))))
    rw [List.length_map] at h5
    refine Nat.le_of_not_lt fun q => ?_
    have q' : (n : Int) < ((ns.length : Nat) : Int) := by omega
    first
      | (rw [decide_eq_true q'] at h5; exact absurd h5 (by decide))
      | (simp at h5; omega)
  cases hwl with
  | cons w1 w2 =>
    cases w2
    cases w1 with
    | list ho hall => exact ⟨_, _, ns, rfl, rfl, ho, ints_of_wellAll ns _ hall, hlen⟩

theorem post_true (l : OpenLaw) (args : List WData) : l.row.toRowW.claim.post args (.bool true) args = true :=
  postW_of (r := l.row.toRowW) (X := (true == true))
    (show WShape.has [] (.bool true) .bool = true by first | rfl | decide | simp [WShape.has, WShape.arms, WShape.armsAll])
    (show (WTm.eq .res (.lit (.bool true))).value [] { args := args, res := some (.bool true), after := args } = some (.bool (true == true)) from w_eq_bool (w_res rfl) w_lit) rfl

/-! ### the attachment: holds_open's last premise (the goal 'hc' behind k_head) from a wpAny of the law's body -/
theorem attach {l : OpenLaw} {n : Nat} {q : Program} {loose : List Str} {XP : (Str → Option Value) → Heap → Prop} {YP : World → Heap → Prop} {d : DefRec} {x : Str}
    (hn : l.most = some n) (hdf : d.params.defaults = [])
    (hbind : ∀ pm cd doc v : Value, bindArgs (docDef d.name d.params d.body d.scope pm cd doc) ⟨[v], []⟩ = pure [(x, v)])
    (hx : d.scope.names.lookup x = some .local ∨ d.scope.names.lookup x = some .cell)
    (hk : d.scope.kind = .function) (hco : d.scope.isCoroutine = false) (hgen : d.scope.isGenerator = false)
    (body : ∀ (w : World) (s₀ s₁ s : Shared) (mg mb : Str → Option Value) (fa : Addr) (o : Obj) (pm cd doc : Value) (a : Addr) (vs : List Value) (ns : List Int),
      Ground q loose [] XP w s₀ mg mb s₁.heap → YP w s₁.heap →
      s₁.heap.get? fa = some o → o.data = .func (docDef d.name d.params d.body d.scope pm cd doc) → s₁.heap.CodeRec cd d.name → mg d.name = some (.ref fa) →
      s₁.heap.get? a = some { cls := .type "list", data := .seq vs.toArray } → IntsAre vs ns → ns.length ≤ n →
      s.gens = #[] → s.os = s₁.os →
      Fr s₁.heap s₁.heap.objs.size s.heap (bindL (envOfC d.name d.scope s₁.heap.objs.size fa cd).kindOf [(x, .ref a)] fun _ => none) →
      Cl s₁.heap.objs.size (cellsFrom (s₁.heap.objs.size + 1) d.scope.names []) s.heap (bindC (envOfC d.name d.scope s₁.heap.objs.size fa cd).kindOf [(x, .ref a)] fun _ => none) →
      wpAny (model l.prog w) (callerA.deeper (envOfC d.name d.scope s₁.heap.objs.size fa cd)) (execs d.body (envOfC d.name d.scope s₁.heap.objs.size fa cd))
        (fun f s' => f = .ret (.bool true) ∧ OldK s₁.heap s'.heap ∧ s'.os = s₁.os ∧ AllBare s'.gens) (fun _ _ => False) s) :
    WalkO q loose XP YP l.row.toRowW d [] (fun f vs => PySem.call f vs) := by
  intro w s₀ s₁ mg mb G Y fa o pm cd doc dV kV ho hd hcd hD hmg hg args vals as hpre hlay hrd hwl hlo
  obtain rfl : dV = .none := Dflts.none hD hdf
  obtain rfl : kV = .none := Dflts.noKw hD
  obtain ⟨a, vs, ns, rfl, rfl, hobj, hints, hlen⟩ := script_of hn hpre hwl
  refine enter_call ?_
  refine call_cells_ret (o := o) (by rw [depth_caller]; decide) ho (fd_plain hd) G.T.nolimit hcd (hbind pm cd doc (.ref a)) (fun y hy => ?_) (fun h₁ tk F X => ?_) hco hgen hk
  · obtain rfl : y = (x, Value.ref a) := List.mem_singleton.mp hy
    rcases hx with e | e
    · exact .inl e
    · exact .inr ⟨e, cellsFrom_some _ _ _ (.inl e)⟩
  · refine wpAny_mono (body w s₀ s₁ { s₁ with heap := h₁, toks := tk } mg mb fa o pm cd doc a vs ns G Y ho (fd_plain hd) hcd hmg hobj hints hlen hg rfl F X) (fun f s' hq => ?_) (fun _ _ hq => hq)
    obtain ⟨rfl, h2, h3, h4⟩ := hq
    exact ⟨.inl ⟨.bool true, .bool true, [], rfl, fun _ => rfl, .bool true, post_true l _, fun _ => ⟨List.Pairwise.nil, fun _ hm => (nomatch hm)⟩⟩, h2, h3, h4⟩

/-- the same from a codeAny of the CALL (for a layer whose function contracts speak of calls) -/
theorem attach_call {l : OpenLaw} {n : Nat} {q : Program} {loose : List Str} {XP : (Str → Option Value) → Heap → Prop} {YP : World → Heap → Prop} {d : DefRec}
    (hn : l.most = some n) (hdf : d.params.defaults = [])
    (call : ∀ (w : World) (s₀ s₁ : Shared) (mg mb : Str → Option Value) (fa : Addr) (o : Obj) (pm cd doc : Value) (a : Addr) (vs : List Value) (ns : List Int),
      Ground q loose [] XP w s₀ mg mb s₁.heap → YP w s₁.heap →
      s₁.heap.get? fa = some o → o.data = .func (docDef d.name d.params d.body d.scope pm cd doc) → s₁.heap.CodeRec cd d.name → mg d.name = some (.ref fa) →
      s₁.heap.get? a = some { cls := .type "list", data := .seq vs.toArray } → IntsAre vs ns → ns.length ≤ n → s₁.gens = #[] →
      codeAny (model l.prog w) callerA (.call (.ref fa) ⟨[.ref a], []⟩) (fun r s' => r = .ok (.ret (.bool true)) ∧ OldK s₁.heap s'.heap ∧ s'.os = s₁.os ∧ AllBare s'.gens) s₁) :
    WalkO q loose XP YP l.row.toRowW d [] (fun f vs => PySem.call f vs) := by
  intro w s₀ s₁ mg mb G Y fa o pm cd doc dV kV ho hd hcd hD hmg hg args vals as hpre hlay hrd hwl hlo
  obtain rfl : dV = .none := Dflts.none hD hdf
  obtain rfl : kV = .none := Dflts.noKw hD
  obtain ⟨a, vs, ns, rfl, rfl, hobj, hints, hlen⟩ := script_of hn hpre hwl
  refine enter_call (codeAny_mono (call w s₀ s₁ mg mb fa o pm cd doc a vs ns G Y ho (fd_plain hd) hcd hmg hobj hints hlen hg) fun r s' hq => ?_)
  obtain ⟨rfl, h2, h3, h4⟩ := hq
  exact ⟨.inl ⟨.bool true, .bool true, [], rfl, fun _ => rfl, .bool true, post_true l _, fun _ => ⟨List.Pairwise.nil, fun _ hm => (nomatch hm)⟩⟩, h2, h3, h4⟩

/-- the same where the top left finished generators (o_head chose holds_openN): nothing may have changed at all and no generator may be left -/
theorem attachN {l : OpenLaw} {n : Nat} {q : Program} {loose : List Str} {XP : (Str → Option Value) → Heap → Prop} {YP : World → Heap → Prop} {d : DefRec} {x : Str}
    (hn : l.most = some n) (hdf : d.params.defaults = [])
    (hbind : ∀ pm cd doc v : Value, bindArgs (docDef d.name d.params d.body d.scope pm cd doc) ⟨[v], []⟩ = pure [(x, v)])
    (hx : d.scope.names.lookup x = some .local ∨ d.scope.names.lookup x = some .cell)
    (hk : d.scope.kind = .function) (hco : d.scope.isCoroutine = false) (hgen : d.scope.isGenerator = false)
    (body : ∀ (w : World) (s₀ s₁ s : Shared) (mg mb : Str → Option Value) (fa : Addr) (o : Obj) (pm cd doc : Value) (a : Addr) (vs : List Value) (ns : List Int),
      Ground q loose [] XP w s₀ mg mb s₁.heap → YP w s₁.heap →
      s₁.heap.get? fa = some o → o.data = .func (docDef d.name d.params d.body d.scope pm cd doc) → s₁.heap.CodeRec cd d.name → mg d.name = some (.ref fa) →
      s₁.heap.get? a = some { cls := .type "list", data := .seq vs.toArray } → IntsAre vs ns → ns.length ≤ n →
      s.gens = #[] → s.os = s₁.os →
      Fr s₁.heap s₁.heap.objs.size s.heap (bindL (envOfC d.name d.scope s₁.heap.objs.size fa cd).kindOf [(x, .ref a)] fun _ => none) →
      Cl s₁.heap.objs.size (cellsFrom (s₁.heap.objs.size + 1) d.scope.names []) s.heap (bindC (envOfC d.name d.scope s₁.heap.objs.size fa cd).kindOf [(x, .ref a)] fun _ => none) →
      wpAny (model l.prog w) (callerA.deeper (envOfC d.name d.scope s₁.heap.objs.size fa cd)) (execs d.body (envOfC d.name d.scope s₁.heap.objs.size fa cd))
        (fun f s' => f = .ret (.bool true) ∧ (∀ b o, s₁.heap.get? b = some o → s'.heap.get? b = some o) ∧ s'.os = s₁.os ∧ s'.gens = #[]) (fun _ _ => False) s) :
    WalkN q loose XP YP l.row.toRowW d [] (fun f vs => PySem.call f vs) := by
  intro w s₀ s₁ mg mb G Y fa o pm cd doc dV kV ho hd hcd hD hmg hg args vals as hpre hlay hrd hwl hlo
  obtain rfl : dV = .none := Dflts.none hD hdf
  obtain rfl : kV = .none := Dflts.noKw hD
  obtain ⟨a, vs, ns, rfl, rfl, hobj, hints, hlen⟩ := script_of hn hpre hwl
  refine enter_callW ?_
  refine call_cells_ret (o := o) (by rw [depth_caller]; decide) ho (fd_plain hd) G.T.nolimit hcd (hbind pm cd doc (.ref a)) (fun y hy => ?_) (fun h₁ tk F X => ?_) hco hgen hk
  · obtain rfl : y = (x, Value.ref a) := List.mem_singleton.mp hy
    rcases hx with e | e
    · exact .inl e
    · exact .inr ⟨e, cellsFrom_some _ _ _ (.inl e)⟩
  · refine wpAny_mono (body w s₀ s₁ { s₁ with heap := h₁, toks := tk } mg mb fa o pm cd doc a vs ns G Y ho (fd_plain hd) hcd hmg hobj hints hlen hg rfl F X) (fun f s' hq => ?_) (fun _ _ hq => hq)
    obtain ⟨rfl, h2, h3, h4⟩ := hq
    exact ⟨.inl ⟨.bool true, .bool true, [], rfl, fun _ => rfl, .bool true, post_true l _, fun _ => ⟨List.Pairwise.nil, fun _ hm => (nomatch hm)⟩⟩, h2, h3, h4⟩

/-! ### rules over ANY heap (no ledger) from facts about the written part K: the library's own take a ledger (News) for what they write -/
section
variable {prog : Program} {w : World} {A : Around} {E : Value → Shared → Prop} {s : Shared} {K : Frag}

/-- a def of the module, or a method (qual 'C.m'), entered: the frame is the next address; cells behind it -/
theorem call_fn {R : Result → Shared → Prop} {name qual : Str} {params : Arguments} {body : List Stmt} {scope : Scope} {dV kV doc pm cdv ct oc : Value} {an od : Option Addr} {osl : Array (Option Value)} {f : Addr} {args : Args} {binds : List (Str × Value)}
    (X : K.In s.heap) (hlim : s.heap.NoLimit) (ho : K.lookup f = some ⟨oc, od, .func (fnOf name qual params body scope dV kV doc pm an cdv ct), osl⟩) (hcd : codeIn K cdv qual = true) (hroom : A.depth < recursionLimit)
    (hbind : BindsTo s (fnOf name qual params body scope dV kV doc pm an cdv ct) args binds)
    (hkind : (binds.all fun y => scope.names.lookup y.1 == some .local || scope.names.lookup y.1 == some .cell) = true)
    (h : ∀ s₁, InCallC s s.heap.objs.size (bindL (envOfC qual scope s.heap.objs.size f cdv).kindOf binds fun _ => none) (cellsFrom (s.heap.objs.size + 1) scope.names [])
        (bindC (envOfC qual scope s.heap.objs.size f cdv).kindOf binds fun _ => none) s₁ →
      wpAny (model prog w) (A.deeper (envOfC qual scope s.heap.objs.size f cdv)) (execs body (envOfC qual scope s.heap.objs.size f cdv))
        (fun fl s' => R (.ok (.ret (match fl with | .ret v => v | _ => .none))) s')
        (fun e s' => wpAny (model prog w) (A.deeper (envOfC qual scope s.heap.objs.size f cdv)) (leaving (envOfC qual scope s.heap.objs.size f cdv) e) (fun _ s'' => R (.error e) s'') (fun e' s'' => R (.error e') s'') s') s₁)
    (hco : scope.isCoroutine = false) (hgen : scope.isGenerator = false) (hk : scope.kind = .function) : codeAny (model prog w) A (.call (.ref f) args) R s := by
  refine codeAny_call_function hroom (X _ _ ho) rfl hco hgen rfl (codeRec_of X hcd) (hbind _ _ _ _ ?_)
  refine wpAny_newFunctionEnv_cells hk (kindsX hkind _) fun env he s₁ x => ?_
  subst he
  exact ⟨hlim.keeps x.toInCall.keep, codeAny_func (h s₁ x)⟩

/-- C(..): dict at size, instance at size + 1, then __init__ -/
theorem make_obj {R : Result → Shared → Prop} {C fI : Addr} {rest : List Value} {kw : List (Str × Value)}
    (X : K.In s.heap) (hm : makesIn K C = true) (hi : findIn K (.ref C) "__init__" = some (some (.ref fI))) (hf : isFn K (.ref fI) = true)
    (h : codeAny (model prog w) (A.under (.builtin "type.__call__" ⟨.ref C :: rest, kw⟩)) (.call (.ref fI) ⟨.ref (s.heap.objs.size + 1) :: rest, kw⟩) (InitBack (s.heap.objs.size + 1) R)
      { s with heap := (s.heap.push emptyDict).push (instObj C s.heap.objs.size) }) : codeAny (model prog w) A (.call (.ref C) ⟨rest, kw⟩) R s := by
  obtain ⟨hh, g, d, t, os⟩ := s
  exact make_core (makes_of X hm) (looks_findIn X hi) (fun self => bind_fn X self (beq_iff_eq.mp hf)) (.inl rfl) h

/-- x.name where the instance's dict holds the name and the class does not -/
theorem get_field {x C : Addr} {ox : Obj} {es : List DictEntry} {n : Nat} {name : Str} {expr : Bool} {v : Value} {Q : Value → Shared → Prop}
    (X : K.In s.heap) (I : PySem.W.InstAt s.heap x ox C (some (dictOf es n))) (hg : plainGet K C name = true) (hh : hasDictIn K C = true) (ha : findIn K (.ref C) name = some none)
    (hl : getL name es = some (some v)) (hv : handedIn v = true) (h : Q v { s with toks := s.toks + 1 }) : wpAny (model prog w) A (getAttr (.ref x) name expr) Q E s :=
  get_value X I (plainGet_of hg).1 (findObj_own hh ha rfl hl) hv h

/-- x.m(..): the method found in the class -/
theorem get_method {x C f : Addr} {ox : Obj} {es : List DictEntry} {n : Nat} {name : Str} {pl : Sem Bool} {Q : Value × List Value → Shared → Prop}
    (X : K.In s.heap) (I : PySem.W.InstAt s.heap x ox C (some (dictOf es n))) (hg : plainGet K C name = true) (hf : findIn K (.ref C) name = some (some (.ref f))) (ht : isFn K (.ref f) = true)
    (hl : getL name es = some none) (h : Q (.ref f, [.ref x]) s) : wpAny (model prog w) A (getMethod (.ref x) name pl) Q E s :=
  method_fn X I (plainGet_of hg).1 (plainGet_of hg).2 hf (beq_iff_eq.mp ht) (by show (lookIn name (dictOf es n)).map _ = _; rw [lookIn_dict, hl]; rfl) h

/-! the whole heap as the ledger: makes every rule that writes through a ledger a rule over any heap -/
def noObjs (h : Heap) : Heap := { h with objs := #[] }
theorem noObjs_get (h : Heap) (b : Addr) : (noObjs h).get? b = none := by
  cases e : (noObjs h).get? b with
  | none => rfl
  | some o => exact absurd (Heap.lt_size e) (Nat.not_lt_zero _)
def ledger (h : Heap) (L d : Addr) : List (Addr × Obj) := (List.range h.objs.size).filterMap fun a => if a = L ∨ a = d then none else (h.get? a).map fun o => (a, o)
theorem mem_ledger {h : Heap} {L d a : Addr} {o : Obj} : (a, o) ∈ ledger h L d ↔ a ≠ L ∧ a ≠ d ∧ h.get? a = some o := by
  unfold ledger
  rw [List.mem_filterMap]
  constructor
  · rintro ⟨b, _, e⟩
    split at e
    · cases e
    · rename_i hb
      obtain ⟨o', ho, e'⟩ := Option.map_eq_some_iff.mp e
      cases e'
      exact ⟨fun q => hb (.inl q), fun q => hb (.inr q), ho⟩
  · rintro ⟨n1, n2, ho⟩
    refine ⟨a, List.mem_range.mpr (Heap.lt_size ho), ?_⟩
    rw [if_neg (show ¬ (a = L ∨ a = d) from fun q => q.elim n1 n2), ho] <;> rfl
theorem news_ledger {h : Heap} {L d : Addr} {od : Obj} (hne : d ≠ L) (ho : h.get? d = some od) : News (noObjs h) L h ([] ++ (d, od) :: ledger h L d) := by
  rintro ⟨a, o⟩ hp
  rcases List.mem_cons.mp hp with e | hp
  · cases e
    exact ⟨ho, hne, noObjs_get _ _⟩
  · obtain ⟨n1, n2, e⟩ := mem_ledger.mp hp
    exact ⟨e, n1, noObjs_get _ _⟩
theorem fr_all {h : Heap} {L : Addr} {m : Str → Option Value} (n : h.Ns L m) : Fr (noObjs h) L h m :=
  ⟨n, fun b o e => (by rw [noObjs_get] at e; cases e), Nat.zero_le _⟩
/-- Upd of the head entry (for append_K, setItem_K ..) -/
theorem upd_ledger {h : Heap} {L d : Addr} {o o' : Obj} : Upd d o o' ((d, o) :: ledger h L d) ((d, o') :: ledger h L d) :=
  .head fun ⟨_, _⟩ hp => (mem_ledger.mp hp).2.1

/-- x.name = v over any heap: L is any namespace of the heap (the frame's, say): its map stays, its object is not told; all else but the dict stays -/
theorem set_field {x C dx L : Addr} {ox : Obj} {m : Str → Option Value} {es es' : List DictEntry} {n n' : Nat} {name : Str} {v : Value} {Q : Unit → Shared → Prop}
    (X : K.In s.heap) (I : PySem.W.InstAt s.heap x ox C (some (dictOf es n))) (hd : ox.dict = some dx) (hL : s.heap.Ns L m) (hne : dx ≠ L)
    (hs : findIn K (.ref C) "__setattr__" = some (some (.builtin "object.__setattr__"))) (hp : plainOver K C = true) (ht : takerIn K C name = some none) (hh : hasDictIn K C = true) (hl : (getL name es).isSome = true)
    (e : (putL name (PyData.keyHash w.params name) (.str name (s.toks + 1)) v es, putN name es n) = (es', n')) (hz : es'.length ≤ 1000)
    (h : ∀ h' : Heap, h'.Ns L m → h'.get? dx = some (dictOf es' n') → (∀ b o, b ≠ dx → b ≠ L → s.heap.get? b = some o → h'.get? b = some o) → Q () { s with heap := h', toks := s.toks + 2 }) :
    wpAny (model prog w) A (setAttr (.ref x) name v) Q E s := by
  obtain ⟨e1, e2⟩ := Prod.mk.inj e
  have hdx : s.heap.get? dx = some (dictOf es n) := by
    have := I.dict
    rw [hd] at this
    exact this
  refine set_plain X I hs (osa_dict (s := { s with toks := s.toks + 1 }) (h₀ := noObjs s.heap) (L := L) (m := m) (od := dictOf es n) (od' := dictOf es' n') (es := es') (n := n') (pre := []) (post := ledger s.heap L dx)
    (fr_all hL) (news_ledger hne hdx) X I hd hp ht hh hl (fun _ q => nomatch q) (fun ⟨_, _⟩ q => (mem_ledger.mp q).2.1) (by rw [putName_dict, e1, e2]) rfl hz fun h' F' N' => ?_)
  exact h h' F'.ns (N'.get (List.Mem.head _)) fun b o n1 n2 ho => N'.get (List.Mem.tail _ (mem_ledger.mpr ⟨n2, n1, ho⟩))
end
end Att

namespace L2
open PySem PySem.Spec PyProof.Rows

theorem vals_ints : ∀ {vs : List Value} {ns : List Int}, IntsAre vs ns → Vals (ns.map V.int) vs
  | _, _, .nil => .nil
  | _, _, .cons n t h => .cons ⟨t, rfl⟩ (vals_ints h)

/-- nothing is tracked but the script, known to the object (or it is an object of the module) -/
def Only (H : Hp) : Prop := ∀ b, H b = none ∨ ∃ o xs, H b = some (.frz o (.lst xs))

/-- THE HEAD: the law's promise, at the heap behind the top. F, the promise of the law's def, may use that base is part of the heap (so K.In base, base.Ns mainGlobals mg stand in Mod) -/
theorem law_call {P : Program} {w : World} {K : PySem.W.Frag} {mg mb : Str → Option Value} {CX : CXT} {k : Nat} {fa a : Addr} {fd : FuncData} {x : Str} {sp : Sp} {s₁ : Shared} {vs : List Value} {ns : List Int}
    (KX : K.In s₁.heap) (hns : s₁.heap.Ns mainGlobals mg) (hb : s₁.heap.Ns builtinsNs mb) (hbb : ∀ x : Str, x ≠ "__name__" → mb x = bootBuiltins x) (hlim : s₁.heap.NoLimit) (hg : s₁.gens = #[])
    (ha : s₁.heap.get? a = some { cls := .type "list", data := .seq vs.toArray }) (hi : IntsAre vs ns) (hl : ns.length ≤ sizeLine) (hr : Room k callerA)
    (F : ∀ base : Heap, K.In base → base.Ns mainGlobals mg → FnOk P w K mg base CX k fa fd [x] sp) (hbind : ∀ (s : Shared) (u : Value), BindsTo s fd ⟨[u], []⟩ [(x, u)])
    (hsp : ∀ H : Hp, Only H → SqL K H a (ns.map V.int) → sp [.ref a] H (fun v _ => v = .bl true) fun _ _ _ => False)
    (hCX : ∀ H e s', CX [] H s₁ (fun _ _ _ => False) e s' → False) :
    codeAny (model P w) callerA (.call (.ref fa) ⟨[.ref a], []⟩) (fun r s' => r = .ok (.ret (.bool true)) ∧ OldK s₁.heap s'.heap ∧ s'.os = s₁.os ∧ AllBare s'.gens) s₁ := by
  have rv := vals_ints hi
  have lenV := hi.length
  -- from an abstract heap in which nothing but the script may be tracked
  have core : ∀ H : Hp, Only H → SqL K H a (ns.map V.int) → HOk P w H s₁.heap → (∀ b, H b ≠ none → b = a) → (H a ≠ none → K.lookup a = none) →
      codeAny (model P w) callerA (.call (.ref fa) ⟨[.ref a], []⟩) (fun r s' => r = .ok (.ret (.bool true)) ∧ OldK s₁.heap s'.heap ∧ s'.os = s₁.os ∧ AllBare s'.gens) s₁ := by
    intro H hO hS hok hA hK
    have base_of : ∀ {b : Addr} {o : Obj}, s₁.heap.get? b = some o → H b = none → (hidT s₁.heap H).get? b = some o := fun e n => hidT_get e n
    have noA : ∀ {b : Addr} {o : Obj} {es : Array DictEntry} {ep : Nat}, s₁.heap.get? b = some o → o.data = .dict es ep → H b = none := fun {b o es ep} e d => by
      cases q : H b with
      | none => rfl
      | some u =>
        have e' : b = a := hA b (by rw [q]; simp)
        subst e'
        rw [ha] at e; cases e
        have d' : Data.seq vs.toArray _ = Data.dict es ep := d
        cases d'
    have nsK : ∀ {b : Addr} {m : Str → Option Value}, s₁.heap.Ns b m → (hidT s₁.heap H).Ns b m := fun {b m} ⟨o, es, ep, e, d, r⟩ => ⟨o, es, ep, base_of e (noA e d), d, r⟩
    have hKb : K.In (hidT s₁.heap H) := fun b o e => base_of (KX b o e) (by
      cases q : H b with
      | none => rfl
      | some u =>
        have e' : b = a := hA b (by rw [q]; simp)
        subst e'
        rw [hK (by rw [q]; simp)] at e; cases e)
    have hM : Mod K mg (hidT s₁.heap H) := ⟨hKb, nsK hns, ⟨mb, nsK hb, hbb⟩, let ⟨mc, h1, h2⟩ := hlim; ⟨mc, nsK h1, h2⟩⟩
    have e0 : Env0 P w K mg (hidT s₁.heap H) callerA [] s₁ H := ⟨rfl, hM, fun b o e => of_hidT e, Nat.le_of_eq (hidT_size _ _), trivial, fun b hb => absurd (show b ∈ ([] : List Addr) from hb) (by simp), hok, .of_eq hg⟩
    refine codeAny_mono ((F _ hKb (nsK hns)).run callerA [] s₁ H ⟨[.ref a], []⟩ [.ref a] [.ref a] _ _ hr e0 (hbind s₁ (.ref a)) (.cons rfl .nil) (hsp H hO hS)) fun r s' h => ?_
    cases r with
    | error e => exact (hCX H e s' h).elim
    | ok fl =>
      cases fl with
      | next => exact False.elim h
      | brk => exact False.elim h
      | cont => exact False.elim h
      | ret u =>
        obtain ⟨v, H', os, bare, un, hok', r', q⟩ := h
        have q' : v = .bl true := q
        subst q'
        obtain rfl : u = Value.bool true := r'
        refine ⟨rfl, OldK.of_keep fun b o e => ?_, os, bare⟩
        cases q : H b with
        | none => exact un.keep b o e q (by intro z; exact absurd (show b ∈ ([] : List Addr) from z) (by simp)) (by simp)
        | some u =>
          rcases hO b with z | ⟨ob, xs, z⟩
          · rw [q] at z; cases z
          · have z2 := un.frzs b ob _ z
            obtain ⟨e1, _⟩ := hok b _ z
            obtain ⟨e2, _⟩ := hok' b _ z2
            rw [e] at e1; cases e1
            exact e2
  cases hk : K.lookup a with
  | some o =>
    -- the script is one of the module's own objects
    have e := KX a o hk
    rw [ha] at e
    cases e
    refine core (fun _ => none) (fun _ => .inl rfl) (.inr ⟨_, vs.toArray, _, hk, rfl, rfl, rfl, by rw [List.size_toArray, lenV]; exact hl, by simpa using rv⟩) (fun b u z => by have z' : (none : Option HO) = some u := z; cases z') (fun b z => absurd rfl z) fun z => absurd rfl z
  | none =>
    refine core (fun b => if b = a then some (.frz { cls := .type "list", data := .seq vs.toArray } (.lst (ns.map V.int))) else none) (fun b => ?_) (.inl (.inr ⟨{ cls := .type "list", data := .seq vs.toArray }, if_pos rfl⟩)) (fun b u z => ?_) (fun b z => ?_) fun _ => hk
    · by_cases hb : b = a
      · exact .inr ⟨_, _, if_pos hb⟩
      · exact .inl (if_neg hb)
    · by_cases hb : b = a
      · have z' := (if_pos hb).symm.trans z
        cases z'
        subst hb
        exact ⟨ha, by rw [List.length_map]; exact hl, vs, _, rv, ha⟩
      · have z' := (if_neg hb).symm.trans z
        cases z'
    · by_cases hb : b = a
      · exact hb
      · exact absurd (if_neg hb) z
end L2

namespace L2
open PySem PySem.Spec PyProof.Rows

abbrev KOf {K : PySem.W.Frag} {h : Heap} (_ : K.In h) : PySem.W.Frag := K

/-- the goal that k_head leaves (case hc), from the law's promise. F gives the function object fd (K's own) once, then the promise over every base -/
theorem walk_of {l : PySem.W.OpenLaw} {n k : Nat} {q : Program} {loose : List Str} {XP : (Str → Option Value) → Heap → Prop} {YP : World → Heap → Prop} {d : DefRec} {K : Params → PySem.W.Frag} {CX : World → CXT} {sp : World → Sp} {x : Str}
    (hn : l.most = some n) (hn2 : n ≤ sizeLine) (hdf : d.params.defaults = []) (hr : Room k callerA)
    (hY : ∀ (w : World) (h : Heap), YP w h → (K w.params).In h)
    (F : ∀ (w : World) (mg : Str → Option Value) (fa : Addr) (h : Heap), (K w.params).In h → h.Ns mainGlobals mg → mg d.name = some (.ref fa) →
      ∃ fd : FuncData, (∀ (s : Shared) (u : Value), BindsTo s fd ⟨[u], []⟩ [(x, u)]) ∧
        ∀ base : Heap, (K w.params).In base → base.Ns mainGlobals mg → FnOk l.prog w (K w.params) mg base (CX w) k fa fd [x] (sp w))
    (hsp : ∀ (w : World) (H : Hp) (a : Addr) (ns : List Int), ns.length ≤ n → Only H → SqL (K w.params) H a (ns.map V.int) → sp w [.ref a] H (fun v _ => v = .bl true) fun _ _ _ => False)
    (hCX : ∀ (w : World) (H : Hp) (s : Shared) (e : Value) (s' : Shared), CX w [] H s (fun _ _ _ => False) e s' → False) :
    PySem.W.WalkO q loose XP YP l.row.toRowW d [] (fun f vs => PySem.call f vs) := by
  refine Att.attach_call hn hdf fun w s₀ s₁ mg mb fa o pm cd doc a vs ns G Y ho hd hcd hmg hobj hints hlen hg => ?_
  have KX := hY w _ Y
  obtain ⟨fd, hb, hF⟩ := F w mg fa _ KX G.T.g hmg
  exact law_call KX G.T.g G.T.b G.T.builtins G.T.nolimit hg hobj hints (Nat.le_trans hlen hn2) hr hF hb (fun H hO hS => hsp w H a ns hlen hO hS) fun H e s' => hCX w H s₁ e s'
/-- the same where the promise hangs on the written part alone: (sp := My.sp_law), no hole under a binder -/
theorem walk_ofK {l : PySem.W.OpenLaw} {n k : Nat} {q : Program} {loose : List Str} {XP : (Str → Option Value) → Heap → Prop} {YP : World → Heap → Prop} {d : DefRec} {K : Params → PySem.W.Frag} {CX : CXT} {sp : PySem.W.Frag → Sp} {x : Str}
    (hn : l.most = some n) (hn2 : n ≤ sizeLine) (hdf : d.params.defaults = []) (hr : Room k callerA)
    (hY : ∀ (w : World) (h : Heap), YP w h → (K w.params).In h)
    (F : ∀ (w : World) (mg : Str → Option Value) (fa : Addr) (h : Heap), (K w.params).In h → h.Ns mainGlobals mg → mg d.name = some (.ref fa) →
      ∃ fd : FuncData, (∀ (s : Shared) (u : Value), BindsTo s fd ⟨[u], []⟩ [(x, u)]) ∧
        ∀ base : Heap, (K w.params).In base → base.Ns mainGlobals mg → FnOk l.prog w (K w.params) mg base CX k fa fd [x] (sp (K w.params)))
    (hsp : ∀ (K : PySem.W.Frag) (H : Hp) (a : Addr) (ns : List Int), ns.length ≤ n → Only H → SqL K H a (ns.map V.int) → sp K [.ref a] H (fun v _ => v = .bl true) fun _ _ _ => False)
    (hCX : ∀ (H : Hp) (s : Shared) (e : Value) (s' : Shared), CX [] H s (fun _ _ _ => False) e s' → False) :
    PySem.W.WalkO q loose XP YP l.row.toRowW d [] (fun f vs => PySem.call f vs) :=
  walk_of (K := K) (CX := fun _ => CX) (sp := fun w => sp (K w.params)) hn hn2 hdf hr hY F (fun w H a ns h1 h2 h3 => hsp (K w.params) H a ns h1 h2 h3) fun _ H s e s' => hCX H s e s'
end L2

/- THE LAST THEOREM (shape; LID, My.* are yours):
   My.Adr: a structure of the addresses that your layer names (classes, functions); My.Txt K t: a structure (Prop) of the equations over K;
   My.txt_mk : {K} {implicit addresses ..} (e1 : nsIn K mainGlobals "law" = some (some (.ref f))) (e2 : K.lookup f = some ⟨oc, od, .func (fnOf "law" "law" params body scope dV kV doc pm an cdv ct), sl⟩) (e3 : codeIn K cdv "law" = true) .. : ∃ t, My.Txt K t

set_option maxRecDepth 100000 in
set_option maxHeartbeats 0 in
theorem PySem.Challenge.cw_LID_holds : PySem.Challenge.rw_LID.Holds := by
  w_on; o_law; k_head; (case hw => w_witness2)
  k_fill
  refine L2.walk_of (l := PySem.Challenge.rw_LID) (n := 63) (k := 40) (x := "script") (CX := fun w => ..) (sp := fun _ => My.sp_law) rfl (by decide) rfl ⟨rfl, by decide, by decide⟩ (fun w h Y => PySem.W.kIn_of Y) ?F ?S ?C
  case F =>
    intro w mg fa h KX G hmg
    have T : ∃ t, My.Txt (L2.KOf KX) t := by
      dsimp only [L2.KOf]                          -- K must stand as «<heap const> w.params» for k_is
      refine' My.txt_mk ?e1 ?e2 ?e3 ..
      (case e1 => PySem.W.k_is)                    -- in the order: a name -> its address -> its object -> its parts
      (case e2 => PySem.W.k_is)
      ..
    obtain ⟨t, T⟩ := T
    have e0 := hmg.symm.trans (PySem.W.mg_of KX G T.law)
    cases e0                                       -- fa is the law's own address
    exact ⟨_, fun s u => .of_eq rfl, fun base kb nb => My.law_fn T kb nb⟩     -- if «.of_eq rfl» comes too early: refine' ⟨_, ?b, fun base kb nb => My.law_fn T kb nb⟩; exact fun s u => .of_eq rfl
  case S => exact fun w H a ns hl hO hS => ..
  case C => exact ..
(the tactic k_is has no namespace: write k_is) -/

/-! SHORT WORDS over the layer: a def of the text, its body, what a loop and a test want. -/
namespace L2
open PySem PySem.Spec PyProof.Rows

/-! ### the text by places -/
/-- the j-th statement of a class's body -/
def inClass (s : Stmt) (j : Nat) : Stmt := match s with
  | .ClassDef _ _ _ body _ _ _ _ _ _ _ => body.getD j (.Pass ⟨0, 0, 0, 0⟩)
  | _ => .Pass ⟨0, 0, 0, 0⟩
def defArgs (s : Stmt) : Arguments := match s with
  | .FunctionDef _ a _ _ _ _ _ _ _ _ => a
  | _ => { posonlyargs := [], args := [], vararg := none, kwonlyargs := [], kw_defaults := [], kwarg := none, defaults := [] }
def defBody (s : Stmt) : List Stmt := match s with
  | .FunctionDef _ _ b _ _ _ _ _ _ _ => b
  | _ => []
def defScope (s : Stmt) : Scope := match s with
  | .FunctionDef _ _ _ _ _ _ sc _ _ _ => sc
  | _ => { kind := .function, names := [], isGenerator := false, isCoroutine := false }

/-! ### no exception leaves a def -/
abbrev CX0 : CXT := fun _ _ _ _ _ _ => False
abbrev E0 : XK := fun _ _ _ => False
theorem pass0 {X : Cx} : Passes CX0 X E0 := fun _ _ _ _ _ _ _ h => h.elim

/-! ### a def (or method) of the text as it stands behind the top -/
structure Fun (K : PySem.W.Frag) (x qual : Str) (st : Stmt) (f : Addr) (fd : FuncData) : Prop where
  ex : ∃ (oc : Value) (od : Option Addr) (kV doc pm : Value) (an : Option Addr) (cdv ct : Value) (osl : Array (Option Value)),
    fd = PySem.W.fnOf x qual (defArgs st) (defBody st) (defScope st) .none kV doc pm an cdv ct ∧ K.lookup f = some ⟨oc, od, .func fd, osl⟩ ∧ PySem.W.codeIn K cdv qual = true
  kp : PySem.W.keepIn K (.ref f) = true
section
variable {P : Program} {w : World} {K : PySem.W.Frag} {mg : Str → Option Value} {base : Heap}
/-- THE RULE for a def: its body as a term of rules, and the reading of that term -/
theorem Fun.ok {x qual : Str} {st : Stmt} {f : Addr} {fd : FuncData} {N ps : List Str} {k : Nat} {sp : Sp} (F : Fun K x qual st f fd) (S : FnScope N ps (defScope st)) (len : ∀ vs H Q E, sp vs H Q E → vs.length = ps.length)
    (hbody : ∀ (cdv : Value) (A : Around) (outer : List Env) (s : Shared) (H : Hp) (vs : List V) (Q : VK) (E : XK), Room k (A.deeper (envOfC qual (defScope st) s.heap.objs.size f cdv)) → sp vs H Q E →
      ∃ t, PSs (cxOf CX0 P w K mg base N qual (defScope st) f cdv A outer s H E).nox (defBody st) t ∧ t { nx := fun _ H' => Q .non H', rt := Q } (start N vs) H) : FnOk P w K mg base CX0 (k + 1) f fd ps sp := by
  obtain ⟨oc, od, kV, doc, pm, an, cdv, ct, osl, rfl, lk, hcd⟩ := F.ex
  refine fn_of lk hcd S len fun A outer s H vs Q E hr hsp => ?_
  obtain ⟨t, h, q⟩ := hbody cdv A outer s H vs Q E hr hsp
  exact ⟨t, h.nox, q⟩
/-- how its arguments bind (no defaults): h is «fun _ _ _ _ _ _ us hl => match us, hl with | [_, _], _ => rfl», one _ a parameter -/
theorem Fun.binds {x qual : Str} {st : Stmt} {f : Addr} {fd : FuncData} {ps : List Str} (F : Fun K x qual st f fd)
    (h : ∀ (kV doc pm : Value) (an : Option Addr) (cdv ct : Value) (us : List Value), us.length = ps.length → bindArgs (PySem.W.fnOf x qual (defArgs st) (defBody st) (defScope st) .none kV doc pm an cdv ct) ⟨us, []⟩ = pure (ps.zip us)) : Binds K fd ps [] := by
  obtain ⟨oc, od, kV, doc, pm, an, cdv, ct, osl, rfl, lk, hcd⟩ := F.ex
  exact .all (h kV doc pm an cdv ct)
theorem fun_mk {x qual : Str} {st : Stmt} {f : Addr} {oc : Value} {od an : Option Addr} {osl : Array (Option Value)} {kV doc pm cdv ct : Value} (l : K.lookup f = some ⟨oc, od, .func (PySem.W.fnOf x qual (defArgs st) (defBody st) (defScope st) .none kV doc pm an cdv ct), osl⟩)
    (c : PySem.W.codeIn K cdv qual = true) (k : PySem.W.keepIn K (.ref f) = true) : Fun K x qual st f (PySem.W.fnOf x qual (defArgs st) (defBody st) (defScope st) .none kV doc pm an cdv ct) := ⟨⟨oc, od, kV, doc, pm, an, cdv, ct, osl, rfl, l, c⟩, k⟩
end
theorem hu_of {A : Around} {k : Nat} (hr : Room k A) : A.units + 1 < cLine := Nat.lt_of_le_of_lt (Nat.add_le_add_left (by decide : 1 ≤ 64) _) hr.units
theorem small1000 {n : Nat} (h : n ≤ 1000) : n < sizeLine := Nat.lt_of_le_of_lt h (by decide)

/-! ### expressions in short: the name that stands in the i-th slot -/
section
variable {X : Cx}
theorem pv (i : Nat) {x : Str} {pos : Pos} (hN : X.N[i]? = some x := by rfl) (hv : Vis X.env.scope x := by first | exact Or.inl rfl | exact Or.inr (Or.inl rfl) | exact Or.inr (Or.inr rfl)) (hd : (x == ("__debug__" : Str)) = false := by decide)
    (hcd : (x == ("__classdict__" : Str)) = false := by decide) : PE X (.Name x pos) (tVar i) := pe_var hN hv hd hcd
end

/-! ### tests -/
theorem iteF {A B : Prop} (h : B) : if false = true then A else B := by
  rw [if_neg Bool.false_ne_true]
  exact h
theorem iteT {A B : Prop} (h : A) : if true = true then A else B := by
  rw [if_pos rfl]
  exact h
theorem ite2 {c A B : Prop} [Decidable c] (h1 : c → A) (h2 : ¬ c → B) : if c then A else B := by
  by_cases h : c
  · rw [if_pos h]
    exact h1 h
  · rw [if_neg h]
    exact h2 h
theorem iteNS {c A B : Prop} [Decidable c] (hc : c) (h : B) : if (!decide c) = true then A else B := by
  rw [decide_eq_true hc]
  exact iteF h

/-! ### heaps -/
/-- all that was tracked is as it was -/
def Same (H H' : Hp) : Prop := ∀ b o, H b = some o → H' b = some o
theorem Same.refl (H : Hp) : Same H H := fun _ _ h => h
theorem Same.trans {H H1 H2 : Hp} (a : Same H H1) (b : Same H1 H2) : Same H H2 := fun c o h => b c o (a c o h)
theorem Same.free {H H' : Hp} (e : Same H H') {l : Addr} (h : H' l = Option.none) : H l = Option.none := by
  cases q : H l with
  | none => rfl
  | some o =>
    rw [e l o q] at h
    cases h
theorem Same.seq {K : PySem.W.Frag} {H H' : Hp} {a : Addr} {xs : List V} (e : Same H H') (h : SqL K H a xs) : SqL K H' a xs := by
  rcases h with (h | ⟨o, h⟩) | h
  · exact .inl (.inl (e _ _ h))
  · exact .inl (.inr ⟨o, e _ _ h⟩)
  · exact .inr h

end L2

/-! the dict part -/
-- CHANGE: your row's module here, as the last of these rows
set_option Elab.async false
set_option linter.all false
set_option maxRecDepth 100000
/-! THE HAND LAYER, for ints, bools, texts, own classes, DICTS (int and text keys), calls, loops. Paste it whole ahead of your own text; what your proof does not reach may be deleted. -/
namespace L2
open PySem PySem.Spec PyProof.Rows

end L2

namespace L2
open PySem PySem.Spec PyProof.Rows

section
variable (P : Program) (w : World)
end

section
variable {P : Program} {w : World} {H H' : Hp} {h h' : Heap} {a : Addr} {o : HO}
end

section
variable {P : Program} {w : World} {H : Hp} {h h' : Heap} {x e : Addr} {o' : HO}
end

/-! ### kept unless tracked; of the frames at fs (the callers') the slots may change (an exception that passes writes there); of the records at ex (iterators) nothing is said -/
section
variable {fs fs' ex ex' : List Addr} {H H1 H2 : Hp} {h h1 h2 h' : Heap} {a x e : Addr} {o : HO}
end

/-! ### the heap without what is tracked -/
/-! ### OpenK's ledger, filled with every new object but one -/
end L2

namespace L2
open PySem PySem.Spec PyProof.Rows

section
variable {X : Cx} {pins : List (Addr × Obj)} {σ : List (Option V)} {H H' : Hp} {s : Shared} {h' : Heap}

end

/-! ### the judgements -/
end L2

namespace L2
open PySem PySem.Spec PyProof.Rows
section
variable {X : Cx}

/-! ### names and constants -/
/-! ### arithmetic -/
variable {a b : Expr} {ta tb : TE} {pos : Pos}
/-! ### comparisons -/
/-! ### and, or, not -/
variable {tA tB' : TT} {rest : List Expr}
end
end L2

namespace L2
open PySem PySem.Spec PyProof.Rows

/-! ### a list, a tuple that is read: tracked, frozen, or an object of the module -/
section
variable {X : Cx} {pins : List (Addr × Obj)} {σ : St} {H : Hp} {s : Shared} {a : Addr} {xs ys : List V}
end

/-! ### another wish about exceptions -/
section
variable {X : Cx} {pins : List (Addr × Obj)} {σ : St} {H : Hp} {s : Shared} {E : Value → Shared → Prop}
end

/-! ### blocks and small statements -/
section
variable {X : Cx} {st : Stmt} {rest : List Stmt} {t u : TS} {e : Expr} {te : TE} {pos : Pos}
end

/-! ### targets -/
section
variable {X : Cx} {pos : Pos}
end

/-! ### while -/
section
variable {X : Cx} {pos : Pos}
end

/-! ### what a loop or a comprehension walks -/
end L2

namespace L2
open PySem PySem.Spec PyProof.Rows
section
variable {X : Cx} {tg : Expr}
/-! ### for -/
end

/-! ### the forms one uses -/
end L2

namespace L2
open PySem PySem.Spec PyProof.Rows

section
variable {X : Cx} {a b c : Expr} {ta tb tc : TE} {pos : Pos}

/-! ### ints -/
/-! ### bools among ints: n += (a < b) -/
end

/-! ### comparisons -/
section
variable {X : Cx} {a b c : Expr} {ta tb tc : TE} {pos : Pos}
/-! ### truth -/
/-! ### strs and bytes -/
/-! ### scalar builtins, by CallR -/
end
end L2

namespace L2
open PySem PySem.Spec PyProof.Rows

/-! ### an instance, its attributes a map -/
section
variable {prog : Program} {w : World} {A : Around} {E : Value → Shared → Prop} {s : Shared} {K : PySem.W.Frag} {x dx C f : Addr} {mA : Str → Option Value} {name : Str} {v : Value}

end

/-! ### the attributes as a list of pairs -/
section
variable {P : Program} {w : World} {H H' : Hp} {h h' : Heap} {a C dx : Addr} {fs fs' : List (Str × V)}
end

/-! ### what of the text a class must have -/
section
variable {X : Cx} {pins : List (Addr × Obj)} {σ : St} {H : Hp} {s : Shared} {a C dx : Addr} {fs : List (Str × V)} {f : Str} {v : V} {A : Around} {E : Value → Shared → Prop}

end

/-! ### readings and rules -/
section
variable {X : Cx} {o e value : Expr} {f : Str} {pos pos' tpos : Pos} {ta tv : TE}
end

/-! ### isinstance -/
section
variable {X : Cx} {pins : List (Addr × Obj)} {σ : St} {H : Hp} {s : Shared} {A : Around} {E : Value → Shared → Prop} {Q : Value → Shared → Prop} {c : Value} {b : Bool}
end
end L2

namespace L2
open PySem PySem.Spec PyProof.Rows

/-! ### room -/
/-! ### argument lists and displays -/
section
variable {X : Cx} {e : Expr} {es : List Expr} {te : TE} {t : TA} {pos : Pos}
end

/-! ### what a def promises -/
section
variable {X : Cx} {pins : List (Addr × Obj)} {σ : St} {H : Hp} {s s' : Shared}
end

/-! ### calls -/
section
variable {X : Cx} {CX : CXT} {k : Nat} {f C : Addr} {fd : FuncData} {ps : List Str} {sp : Sp} {dvs : List V} {ds : List Value} {E : XK} {x m : Str} {p pos apos : Pos} {e o : Expr} {es : List Expr} {ta : TE} {t : TA}

end

/-! ### keywords -/
section
variable {X : Cx} {CX : CXT} {k : Nat} {f C : Addr} {fd : FuncData} {ps ks : List Str} {sp : Sp} {E : XK} {x m : Str} {p pos apos kpos : Pos} {e o : Expr} {es : List Expr} {kws : List Keyword} {te ta : TE} {t tk : TA} {nm : Option Str}
variable {g : List Value → List Value → List Value} {gV : List V → List V → List V}
end

/-! ### a def's body keeps its promise -/
end L2

namespace L2
open PySem PySem.Spec PyProof.Rows
section
variable {X : Cx} {x : Str} {p pos : Pos} {e : Expr} {es : List Expr} {t : TA} {id T : String} {r : List V → Hp → VK → Prop}

end
end L2

namespace L2
open PySem PySem.Spec PyProof.Rows

/-! ### lists of pairs as tables -/
section
variable {κ : Type} [DecidableEq κ]
def valV (kvs : List (κ × V)) (k : κ) : Option V := (kvs.find? fun kv => decide (kv.1 = k)).map (·.2)
/-- in its place, or at the end -/
def putK (kvs : List (κ × V)) (k : κ) (v : V) : List (κ × V) :=
  if (kvs.any fun kv => decide (kv.1 = k)) = true then kvs.map (fun kv => if kv.1 = k then (kv.1, v) else kv) else kvs ++ [(k, v)]
def dropK (kvs : List (κ × V)) (k : κ) : List (κ × V) := kvs.filter fun kv => decide (kv.1 ≠ k)

theorem valV_nil {k : κ} : valV ([] : List (κ × V)) k = none := rfl
theorem valV_pos {p : κ × V} {r : List (κ × V)} {k : κ} (e : p.1 = k) : valV (p :: r) k = some p.2 := by simp [valV, List.find?_cons, e]
theorem valV_neg {p : κ × V} {r : List (κ × V)} {k : κ} (e : ¬ p.1 = k) : valV (p :: r) k = valV r k := by simp [valV, List.find?_cons, e]
theorem valV_any (k : κ) : ∀ kvs : List (κ × V), (kvs.any fun kv => decide (kv.1 = k)) = (valV kvs k).isSome
  | [] => rfl
  | p :: r => by
    rw [List.any_cons]
    by_cases e : p.1 = k
    · simp only [valV_pos e, decide_eq_true e, Bool.true_or, Option.isSome_some]
    · rw [valV_neg e, decide_eq_false e, Bool.false_or]; exact valV_any k r
theorem valV_map (k j : κ) (y : V) : ∀ kvs : List (κ × V), valV (kvs.map fun kv => if kv.1 = k then (kv.1, y) else kv) j = (valV kvs j).map fun x => if j = k then y else x
  | [] => rfl
  | p :: r => by
    have ih := valV_map k j y r
    rw [List.map_cons]
    by_cases h : p.1 = k
    · rw [if_pos h]
      by_cases e : p.1 = j
      · rw [valV_pos (p := (p.1, y)) e, valV_pos e, Option.map_some, if_pos (e.symm.trans h)]
      · rw [valV_neg (p := (p.1, y)) e, valV_neg e, ih]
    · rw [if_neg h]
      by_cases e : p.1 = j
      · rw [valV_pos (p := p) e, valV_pos e, Option.map_some, if_neg (fun z => h (e.trans z))]
      · rw [valV_neg (p := p) e, valV_neg e, ih]
theorem valV_snoc (k j : κ) (y : V) : ∀ kvs : List (κ × V), valV kvs k = none → valV (kvs ++ [(k, y)]) j = if j = k then some y else valV kvs j
  | [], _ => by
    by_cases e : k = j
    · rw [if_pos e.symm]; exact valV_pos (p := (k, y)) e
    · rw [if_neg (fun z => e z.symm)]; exact valV_neg (p := (k, y)) e
  | p :: r, hn => by
    rw [List.cons_append]
    have hk : ¬ p.1 = k := fun z => by rw [valV_pos z] at hn; cases hn
    rw [valV_neg hk] at hn
    have ih := valV_snoc k j y r hn
    by_cases e : p.1 = j
    · rw [valV_pos e, valV_pos e, if_neg (fun z => hk (e.trans z))]
    · rw [valV_neg e, valV_neg e, ih]
theorem valV_put (kvs : List (κ × V)) (k j : κ) (y : V) : valV (putK kvs k y) j = if j = k then some y else valV kvs j := by
  unfold putK
  by_cases a : (kvs.any fun kv => decide (kv.1 = k)) = true
  · rw [if_pos a, valV_map]
    rw [valV_any] at a
    by_cases e : j = k
    · obtain ⟨x, hx⟩ := Option.isSome_iff_exists.mp a
      rw [if_pos e, e, hx, Option.map_some, if_pos rfl]
    · rw [if_neg e]
      cases valV kvs j with
      | none => rfl
      | some x => rw [Option.map_some, if_neg e]
  · rw [if_neg a]
    refine valV_snoc k j y kvs ?_
    rw [valV_any] at a
    cases q : valV kvs k with
    | none => rfl
    | some x => rw [q] at a; exact (a rfl).elim
theorem length_putK (kvs : List (κ × V)) (k : κ) (v : V) : (putK kvs k v).length ≤ kvs.length + 1 := by
  unfold putK
  split
  · rw [List.length_map]; omega
  · rw [List.length_append, List.length_cons, List.length_nil]; omega
theorem putK_new {kvs : List (κ × V)} {k : κ} (v : V) (h : valV kvs k = none) : putK kvs k v = kvs ++ [(k, v)] := by
  unfold putK
  rw [valV_any, h]
  exact if_neg (by decide)

theorem RelO.isSome_eq {o : Option V} {u : Option Value} (r : RelO o u) : o.isSome = u.isSome := by
  cases o with
  | none => cases u with
    | none => rfl
    | some _ => exact (show False from r).elim
  | some _ => cases u with
    | none => exact (show False from r).elim
    | some _ => rfl
theorem RelO.getD {o : Option V} {u : Option Value} {d : V} {d' : Value} (r : RelO o u) (rd : RelV d d') : RelV (o.getD d) (u.getD d') := by
  cases o with
  | none => cases u with
    | none => exact rd
    | some _ => exact (show False from r).elim
  | some _ => cases u with
    | none => exact (show False from r).elim
    | some _ => exact r

/-- raw tables of the same keys -/
theorem KV.val {kvs : List (κ × V)} {vs : List (κ × Value)} (r : KV kvs vs) (k : κ) : RelO (valV kvs k) (valueAt vs k) := by
  unfold KV at r
  induction r with
  | nil => exact True.intro
  | @cons p q ps qs h t ih =>
    obtain ⟨h1, h2⟩ := h
    by_cases e : p.1 = k
    · have e' : q.1 = k := h1.symm.trans e
      have b : valueAt (q :: qs) k = some q.2 := by simp [valueAt, List.find?_cons, e']
      rw [valV_pos e, b]; exact h2
    · have e' : ¬ q.1 = k := fun z => e (h1.trans z)
      have b : valueAt (q :: qs) k = valueAt qs k := by simp [valueAt, List.find?_cons, e']
      rw [valV_neg e, b]; exact ih
theorem KV.any {kvs : List (κ × V)} {vs : List (κ × Value)} (r : KV kvs vs) (k : κ) : (kvs.any fun kv => decide (kv.1 = k)) = vs.any fun kv => decide (kv.1 = k) := by
  unfold KV at r
  induction r with
  | nil => rfl
  | cons h t ih => rw [List.any_cons, List.any_cons, ih, h.1]
theorem KV.repl {kvs : List (κ × V)} {vs : List (κ × Value)} (r : KV kvs vs) (k : κ) {y : V} {u : Value} (ry : RelV y u) :
    KV (kvs.map fun kv => if kv.1 = k then (kv.1, y) else kv) (vs.map fun kv => if kv.1 = k then (kv.1, u) else kv) := by
  unfold KV at r ⊢
  induction r with
  | nil => exact .nil
  | @cons p q ps qs h t ih =>
    rw [List.map_cons, List.map_cons]
    refine .cons ?_ ih
    obtain ⟨h1, h2⟩ := h
    by_cases e : p.1 = k
    · rw [if_pos e, if_pos (h1.symm.trans e)]; exact ⟨h1, ry⟩
    · rw [if_neg e, if_neg (fun z => e (h1.trans z))]; exact ⟨h1, h2⟩
theorem KV.put {kvs : List (κ × V)} {vs : List (κ × Value)} (r : KV kvs vs) (k : κ) {y : V} {u : Value} (ry : RelV y u) : KV (putK kvs k y) (stored vs k u) := by
  unfold putK stored
  rw [r.any k]
  by_cases e : (vs.any fun kv => decide (kv.1 = k)) = true
  · rw [if_pos e, if_pos e]; exact r.repl k ry
  · rw [if_neg e, if_neg e]; exact Paired.snoc r ⟨rfl, ry⟩
theorem KV.drop {kvs : List (κ × V)} {vs : List (κ × Value)} (r : KV kvs vs) (k : κ) : KV (dropK kvs k) (without vs k) := by
  unfold KV at r ⊢
  unfold dropK without
  induction r with
  | nil => exact .nil
  | @cons p q ps qs h t ih =>
    obtain ⟨h1, h2⟩ := h
    rw [List.filter_cons, List.filter_cons]
    by_cases e : p.1 = k
    · have a : ¬ decide (p.1 ≠ k) = true := by simp [e]
      have b : ¬ decide (q.1 ≠ k) = true := by simp [h1.symm.trans e]
      rw [if_neg a, if_neg b]; exact ih
    · have e' : ¬ q.1 = k := fun z => e (h1.trans z)
      have a : decide (p.1 ≠ k) = true := by simp [e]
      have b : decide (q.1 ≠ k) = true := by simp [e']
      rw [if_pos a, if_pos b]; exact .cons ⟨h1, h2⟩ ih
theorem KV.keys {kvs : List (κ × V)} {vs : List (κ × Value)} (r : KV kvs vs) : kvs.map (·.1) = vs.map (·.1) := by
  unfold KV at r
  induction r with
  | nil => rfl
  | cons h t ih => rw [List.map_cons, List.map_cons, ih, h.1]
theorem KV.length {kvs : List (κ × V)} {vs : List (κ × Value)} (r : KV kvs vs) : kvs.length = vs.length := Paired.length r
theorem dropK_le (kvs : List (κ × V)) (k : κ) : (dropK kvs k).length ≤ kvs.length := List.length_filter_le _ _
end


/-! ### a tracked dict, its keys ints and texts or tuples of these -/
theorem kV_is {P : Program} {w : World} {k : Key} {u : Value} (r : RelV (kV k) u) : (mixKind P w).is k u = true := by
  cases k with
  | inl i => obtain ⟨t, e⟩ := (show ∃ t, u = Value.int i t from r); subst e; exact mixKind_int P w i t
  | inr x => obtain ⟨t, e⟩ := (show ∃ t, u = Value.str x t from r); subst e; exact mixKind_str P w x t
theorem kV_inj {a b : Key} (e : kV a = kV b) : a = b := by
  cases a with
  | inl i => cases b with
    | inl j => have e' : V.int i = V.int j := e; injection e' with e'; rw [e']
    | inr y => exact nomatch (show V.int i = V.str y from e)
  | inr x => cases b with
    | inl j => exact nomatch (show V.str x = V.int j from e)
    | inr y => have e' : V.str x = V.str y := e; injection e' with e'; rw [e']
theorem kVs_inj : ∀ {a b : List Key}, a.map kV = b.map kV → a = b
  | [], [], _ => rfl
  | [], _ :: _, e => by simp at e
  | _ :: _, [], e => by simp at e
  | x :: xs, y :: ys, e => by
    rw [List.map_cons, List.map_cons] at e
    injection e with e1 e2
    rw [kV_inj e1, kVs_inj e2]
theorem items_are {P : Program} {w : World} : ∀ {ks : List Key} {us : List Value}, Vals (ks.map kV) us → ItemsAre (mixKind P w) ks us
  | [], _, r => by rw [List.map_nil] at r; cases r; exact .nil
  | k :: ks, _, r => by
    rw [List.map_cons] at r
    cases r with
    | cons h t => exact .cons (kV_is h) (items_are t)

/-- raw entries of a dict with tuple keys -/
abbrev KT (H : Hp) : List (List Key × V) → List (List Key × Addr × Value) → Prop := Paired fun p q => p.1 = q.1 ∧ H q.2.1 = some (.tup (p.1.map kV)) ∧ RelV p.2 q.2.2
theorem KT.val {H : Hp} {kvs : List (List Key × V)} {xs : List (List Key × Addr × Value)} (r : KT H kvs xs) (k : List Key) : RelO (valV kvs k) ((atKey xs k).map (·.2)) := by
  induction r with
  | nil => exact True.intro
  | @cons p q ps qs h t ih =>
    obtain ⟨h1, _, h2⟩ := h
    by_cases e : p.1 = k
    · have e' : q.1 = k := h1.symm.trans e
      have b : atKey (q :: qs) k = some q.2 := by simp [atKey, List.find?_cons, e']
      rw [valV_pos e, b]; exact h2
    · have e' : ¬ q.1 = k := fun z => e (h1.trans z)
      have b : atKey (q :: qs) k = atKey qs k := by simp [atKey, List.find?_cons, e']
      rw [valV_neg e, b]; exact ih
theorem KT.repl {H : Hp} {kvs : List (List Key × V)} {xs : List (List Key × Addr × Value)} (r : KT H kvs xs) (k : List Key) {y : V} {u : Value} (ry : RelV y u) :
    KT H (kvs.map fun kv => if kv.1 = k then (kv.1, y) else kv) (xs.map (putAt k u)) := by
  induction r with
  | nil => exact .nil
  | @cons p q ps qs h t ih =>
    rw [List.map_cons, List.map_cons]
    refine .cons ?_ ih
    obtain ⟨h1, h2, h3⟩ := h
    unfold putAt
    by_cases e : p.1 = k
    · rw [if_pos e, if_pos (h1.symm.trans e)]; exact ⟨h1, h2, ry⟩
    · rw [if_neg e, if_neg (fun z => e (h1.trans z))]; exact ⟨h1, h2, h3⟩
theorem KT.put {H : Hp} {kvs : List (List Key × V)} {xs : List (List Key × Addr × Value)} (r : KT H kvs xs) (k : List Key) {b : Addr} {y : V} {u : Value} (hb : H b = some (.tup (k.map kV))) (ry : RelV y u) :
    KT H (putK kvs k y) (storedH xs k b u) := by
  have e : (kvs.any fun kv => decide (kv.1 = k)) = (atKey xs k).isSome := by
    rw [valV_any, (r.val k).isSome_eq, Option.isSome_map]
  unfold putK storedH
  rw [e]
  by_cases q : (atKey xs k).isSome = true
  · rw [if_pos q, if_pos q]; exact r.repl k ry
  · rw [if_neg q, if_neg q]; exact Paired.snoc r ⟨rfl, hb, ry⟩
theorem KT.keeps {H H' : Hp} {kvs : List (List Key × V)} {xs : List (List Key × Addr × Value)} (r : KT H kvs xs) (ht : ∀ b ys, H b = some (.tup ys) → H' b = some (.tup ys)) : KT H' kvs xs :=
  Paired.mapP r fun _ _ z => ⟨z.1, ht _ _ z.2.1, z.2.2⟩

section
variable {P : Program} {w : World} {H : Hp} {h : Heap} {a : Addr}
theorem rd_of {u : HO} (ok : HOk P w H h) (e : Rd H a u) : ObjOk P w H h a u := e.ok ok
theorem dk_rd {kvs : List (Key × V)} (ok : HOk P w H h) (e : Rd H a (.dK kvs)) : kvs.length ≤ sizeLine ∧ (a == sysModules) = false ∧ ∃ vs, KV kvs vs ∧ h.DictOf (mixKind P w) a vs :=
  show ObjOk P w H h a (.dK kvs) from rd_of ok e
theorem dk_of {kvs : List (Key × V)} (ok : HOk P w H h) (e : H a = some (.dK kvs)) : kvs.length ≤ sizeLine ∧ (a == sysModules) = false ∧ ∃ vs, KV kvs vs ∧ h.DictOf (mixKind P w) a vs := dk_rd ok (.inl e)
/-- a tracked tuple of ints and texts is a key -/
theorem key_of {ks : List Key} (ok : HOk P w H h) (e : H a = some (.tup (ks.map kV))) : (tupleKind (mixKind P w)).is h ks a := by
  obtain ⟨_, its, r, o, h1, h2, n, h3⟩ := (show ObjOk P w H h a (.tup (ks.map kV)) from ok a _ e)
  exact ⟨o, its.toArray, n, h1, h2, h3, by simpa using items_are r⟩
theorem dt_rd {kvs : List (List Key × V)} (ok : HOk P w H h) (e : Rd H a (.dT kvs)) : kvs.length ≤ sizeLine ∧ (a == sysModules) = false ∧
    ∃ xs, KT H kvs xs ∧ h.DictOfH (tupleKind (mixKind P w)) a xs := by
  obtain ⟨z, y, xs, r, o, es, ep, h1, h2, h3, h4, h5⟩ := (show ObjOk P w H h a (.dT kvs) from rd_of ok e)
  refine ⟨z, y, xs, r, o, es, ep, h1, h2, h3, h4, fun x hx => ?_, h5⟩
  have all : ∀ {l : List (List Key × V)} {m : List (List Key × Addr × Value)}, KT H l m → ∀ x ∈ m, (tupleKind (mixKind P w)).is h x.1 x.2.1 := by
    intro l m q
    induction q with
    | nil => intro x hx; exact nomatch hx
    | @cons p q ps qs hq t ih =>
      intro x hx
      rcases List.mem_cons.mp hx with e | hx
      · subst e
        exact key_of ok (by rw [← hq.1]; exact hq.2.1)
      · exact ih x hx
  exact all r x hx
theorem dt_of {kvs : List (List Key × V)} (ok : HOk P w H h) (e : H a = some (.dT kvs)) : kvs.length ≤ sizeLine ∧ (a == sysModules) = false ∧
    ∃ xs, KT H kvs xs ∧ h.DictOfH (tupleKind (mixKind P w)) a xs := dt_rd ok (.inl e)
end

/-- what the dict at a holds at the key y -/
def DGet (H : Hp) (a : Addr) (y : V) (r : Option V) : Prop :=
  (∃ kvs k, Rd H a (.dK kvs) ∧ y = kV k ∧ r = valV kvs k) ∨ ∃ kvs k b, Rd H a (.dT kvs) ∧ y = .ref b ∧ H b = some (.tup (k.map kV)) ∧ r = valV kvs k
/-- the heap behind a[y] = v -/
def DPut (H : Hp) (a : Addr) (y v : V) (H' : Hp) : Prop :=
  (∃ kvs k, H a = some (.dK kvs) ∧ y = kV k ∧ kvs.length < sizeLine ∧ H' = upd H a (.dK (putK kvs k v))) ∨
  ∃ kvs k b, H a = some (.dT kvs) ∧ y = .ref b ∧ H b = some (.tup (k.map kV)) ∧ kvs.length < sizeLine ∧ H' = upd H a (.dT (putK kvs k v))
theorem DGet.k {H : Hp} {a : Addr} {kvs : List (Key × V)} {k : Key} (e : H a = some (.dK kvs)) : DGet H a (kV k) (valV kvs k) := .inl ⟨kvs, k, .inl e, rfl, rfl⟩
theorem DGet.t {H : Hp} {a b : Addr} {kvs : List (List Key × V)} {k : List Key} (e : H a = some (.dT kvs)) (eb : H b = some (.tup (k.map kV))) : DGet H a (.ref b) (valV kvs k) := .inr ⟨kvs, k, b, .inl e, rfl, eb, rfl⟩
theorem DPut.k {H : Hp} {a : Addr} {kvs : List (Key × V)} {k : Key} {v : V} (e : H a = some (.dK kvs)) (hl : kvs.length < sizeLine) : DPut H a (kV k) v (upd H a (.dK (putK kvs k v))) := .inl ⟨kvs, k, e, rfl, hl, rfl⟩
theorem DPut.t {H : Hp} {a b : Addr} {kvs : List (List Key × V)} {k : List Key} {v : V} (e : H a = some (.dT kvs)) (eb : H b = some (.tup (k.map kV))) (hl : kvs.length < sizeLine) :
    DPut H a (.ref b) v (upd H a (.dT (putK kvs k v))) := .inr ⟨kvs, k, b, e, rfl, eb, hl, rfl⟩


section
variable {X : Cx} {pins : List (Addr × Obj)} {σ : St} {H : Hp} {s : Shared} {a : Addr} {y v : V} {u r : Value} {o : Option V} {A : Around} {E : Value → Shared → Prop}

theorem Inv.big (I : Inv X pins σ H s) : sysModules < s.heap.objs.size := by
  have h : mainGlobals < s.heap.objs.size := (I.mod.glob.keeps I.bk).lt
  exact Nat.lt_trans (by decide) h

/-- d[y], there -/
theorem d_getItem {Q : Value → Shared → Prop} (hu : A.units + 1 < cLine) (I : Inv X pins σ H s) (g : DGet H a y (some v)) (ry : RelV y u) (h : ∀ w' s', Inv X pins σ H s' → RelV v w' → Q w' s') :
    wpAny (model X.prog X.w) A (getItem (.ref a) u) Q E s := by
  rcases g with ⟨kvs, k, e, ey, l⟩ | ⟨kvs, k, b, e, ey, eb, l⟩
  · subst ey
    obtain ⟨z, hd, vs, rel, dd⟩ := dk_rd I.hok e
    obtain ⟨w', hw, rw'⟩ := RelO.some_of (v := v) (o := valueAt vs k) (by rw [l]; exact rel.val k)
    exact wpAny_getItem_of (kV_is ry) dd.mapOf hw (h w' _ (I.tok _) rw')
  · subst ey
    cases (show u = Value.ref b from ry)
    obtain ⟨z, hd, xs, rel, dd⟩ := dt_rd I.hok e
    obtain ⟨w', hw, rw'⟩ := RelO.some_of (v := v) (o := (atKey xs k).map (·.2)) (by rw [l]; exact rel.val k)
    obtain ⟨p, hp, hp2⟩ := Option.map_eq_some_iff.mp hw
    refine wpAny_getItem_heap (tupleKind_room_in1 hu) (key_of I.hok eb) dd hp ?_
    rw [hp2]
    exact h w' _ (I.tok _) rw'
/-- y in d -/
theorem d_in {Q : Value → Shared → Prop} (hu : A.units + 1 < cLine) (I : Inv X pins σ H s) (g : DGet H a y o) (ry : RelV y u) (h : ∀ s', Inv X pins σ H s' → Q (.bool o.isSome) s') :
    wpAny (model X.prog X.w) A (compareOp .In u (.ref a)) Q E s := by
  rcases g with ⟨kvs, k, e, ey, l⟩ | ⟨kvs, k, b, e, ey, eb, l⟩
  · subst ey
    obtain ⟨z, hd, vs, rel, dd⟩ := dk_rd I.hok e
    refine wpAny_in_of (kV_is ry) hd dd.mapOf ?_
    rw [← (rel.val k).isSome_eq, ← l]
    exact h _ (I.tok _)
  · subst ey
    cases (show u = Value.ref b from ry)
    obtain ⟨z, hd, xs, rel, dd⟩ := dt_rd I.hok e
    refine wpAny_in_heap (tupleKind_room_in1 hu) (key_of I.hok eb) hd dd ?_
    have q := (rel.val k).isSome_eq
    rw [Option.isSome_map] at q
    rw [← q, ← l]
    exact h _ (I.tok _)
theorem d_notIn {Q : Value → Shared → Prop} (hu : A.units + 1 < cLine) (I : Inv X pins σ H s) (g : DGet H a y o) (ry : RelV y u) (h : ∀ s', Inv X pins σ H s' → Q (.bool (!o.isSome)) s') :
    wpAny (model X.prog X.w) A (compareOp .NotIn u (.ref a)) Q E s := by
  rcases g with ⟨kvs, k, e, ey, l⟩ | ⟨kvs, k, b, e, ey, eb, l⟩
  · subst ey
    obtain ⟨z, hd, vs, rel, dd⟩ := dk_rd I.hok e
    refine wpAny_notIn_of (kV_is ry) hd dd.mapOf ?_
    rw [← (rel.val k).isSome_eq, ← l]
    exact h _ (I.tok _)
  · subst ey
    cases (show u = Value.ref b from ry)
    obtain ⟨z, hd, xs, rel, dd⟩ := dt_rd I.hok e
    refine wpAny_notIn_heap (tupleKind_room_in1 hu) (key_of I.hok eb) hd dd ?_
    have q := (rel.val k).isSome_eq
    rw [Option.isSome_map] at q
    rw [← q, ← l]
    exact h _ (I.tok _)
/-- a dict's object is replaced -/
theorem d_write {h' : Heap} {t' : Nat} {ob : HO} (I : Inv X pins σ H s) (mu : Mut (H a)) (hs : Heap.SameBut a s.heap h') (he : ∃ q, h'.get? a = some q) (new : ObjOk X.prog X.w (upd H a ob) h' a ob) :
    Inv X pins σ (upd H a ob) { s with heap := h', toks := t' } :=
  I.write (x := a) (e := a) mu (.inl rfl) (fun b q hb z => (hs.2 b hb).trans z) he new
theorem dk_new {P : Program} {w : World} {H' : Hp} {h' : Heap} {kvs : List (Key × V)} {vs : List (Key × Value)} (z : kvs.length ≤ sizeLine) (hd : (a == sysModules) = false) (rel : KV kvs vs) (dd : h'.DictOf (mixKind P w) a vs) :
    ObjOk P w H' h' a (.dK kvs) := ⟨z, hd, vs, rel, dd⟩
/-- d[y] = v -/
theorem d_setItem {H' : Hp} {Q : Unit → Shared → Prop} (hu : A.units + 1 < cLine) (I : Inv X pins σ H s) (g : DPut H a y v H') (ry : RelV y u) (rv : RelV v r) (h : ∀ s', Inv X pins σ H' s' → Q () s') :
    wpAny (model X.prog X.w) A (setItem (.ref a) u r) Q E s := by
  rcases g with ⟨kvs, k, e, ey, l, eH⟩ | ⟨kvs, k, b, e, ey, eb, l, eH⟩
  · subst ey eH
    obtain ⟨z, hd, vs, rel, dd⟩ := dk_of I.hok e
    have hz : vs.length ≤ sizeLine := by rw [← rel.length]; exact z
    have hl : (putK kvs k v).length ≤ sizeLine := by have := length_putK kvs k v; omega
    refine wpAny_setItem_pairs (hsz := hz) (kV_is ry) dd fun h' dd' hs => h _ ?_
    have he : ∃ q, h'.get? a = some q := let ⟨q, _, _, hq, _⟩ := dd'; ⟨q, hq⟩
    exact d_write I (by rw [e]; exact True.intro) hs he (dk_new hl hd (rel.put k rv) dd')
  · subst ey eH
    cases (show u = Value.ref b from ry)
    obtain ⟨z, hd, xs, rel, dd⟩ := dt_of I.hok e
    have hz : xs.length ≤ sizeLine := by rw [← Paired.length rel]; exact z
    have hl : (putK kvs k v).length ≤ sizeLine := by have := length_putK kvs k v; omega
    refine wpAny_setItem_heap (hsz := hz) (tupleKind_room_in1 hu) (key_of I.hok eb) dd fun h' dd' hs => h _ ?_
    obtain ⟨q, es, ep, hq, h2, h3, h4, _, h5⟩ := dd'
    refine d_write I (by rw [e]; exact True.intro) hs ⟨q, hq⟩ ⟨hl, hd, _, (rel.put k eb rv).keeps fun c ys ec => ?_, q, es, ep, hq, h2, h3, h4, h5⟩
    rw [upd_ne (ne_of ec e (fun z => nomatch z))]
    exact ec
end

section
variable {X : Cx} {pins : List (Addr × Obj)} {σ : St} {H : Hp} {s : Shared} {a : Addr} {kvs : List (Key × V)} {k : Key} {u : Value} {A : Around} {E : Value → Shared → Prop}
/-- del d[k] -/
theorem d_delItem {Q : Unit → Shared → Prop} (I : Inv X pins σ H s) (e : H a = some (.dK kvs)) (ry : RelV (kV k) u) (l : (valV kvs k).isSome = true) (h : ∀ s', Inv X pins σ (upd H a (.dK (dropK kvs k))) s' → Q () s') :
    wpAny (model X.prog X.w) A (delItem (.ref a) u) Q E s := by
  obtain ⟨z, hd, vs, rel, dd⟩ := dk_of I.hok e
  refine wpAny_delItem_slot dd.typeIs (by decide) PySem.F.slot_dict_delitem
    (call_meetsIn PySem.F.slot_dict_delitem dd.typeIs PySem.F.entry_dict_delitem (PySem.F.args_dict_delitem_2 _ _) (meets_dict_delitem_pairs (mixKind X.prog X.w) a (kV_is ry)) ⟨vs, dd, by rw [← rel.length]; exact z, by rw [← (rel.val k).isSome_eq]; exact l, fun h' dd' hs => h _ ?_⟩)
  have he : ∃ q, h'.get? a = some q := let ⟨q, _, _, hq, _⟩ := dd'; ⟨q, hq⟩
  exact d_write I (by rw [e]; exact True.intro) hs he (dk_new (Nat.le_trans (dropK_le kvs k) z) hd (rel.drop k) dd')
/-- d.pop(k[, x]), there -/
theorem d_pop {v : V} {more : List Value} {Q : Value → Shared → Prop} (I : Inv X pins σ H s) (e : H a = some (.dK kvs)) (ry : RelV (kV k) u) (l : valV kvs k = some v) (hm : more = [] ∨ ∃ x, more = [x])
    (h : ∀ w' s', Inv X pins σ (upd H a (.dK (dropK kvs k))) s' → RelV v w' → Q w' s') : wpAny (model X.prog X.w) A (call (.builtin "dict.pop") (.ref a :: u :: more)) Q E s := by
  obtain ⟨z, hd, vs, rel, dd⟩ := dk_of I.hok e
  obtain ⟨w', hw, rw'⟩ := RelO.some_of (v := v) (o := valueAt vs k) (by rw [← l]; exact rel.val k)
  have hp : (keyPart u).isSome = true := by
    cases k with
    | inl i => obtain ⟨t, q⟩ := (show ∃ t, u = Value.int i t from ry); subst q; rfl
    | inr x => obtain ⟨t, q⟩ := (show ∃ t, u = Value.str x t from ry); subst q; rfl
  have ha : argsOk "dict.pop" ⟨.ref a :: u :: more, []⟩ := by
    rcases hm with q | ⟨x, q⟩
    · subst q; exact PySem.F.args_dict_pop_2 _ _
    · subst q; exact PySem.F.args_dict_pop_3 _ _ _
  refine call_meetsIn PySem.F.slot_dict_pop dd.typeIs PySem.F.entry_dict_pop ha (meets_dict_pop_there (mixKind X.prog X.w) a (kV_is ry) more hm hp)
    ⟨vs, w', dd, by rw [← rel.length]; exact z, hw, fun h' dd' hs => h w' _ ?_ rw'⟩
  have he : ∃ q, h'.get? a = some q := let ⟨q, _, _, hq, _⟩ := dd'; ⟨q, hq⟩
  exact d_write I (by rw [e]; exact True.intro) hs he (dk_new (Nat.le_trans (dropK_le kvs k) z) hd (rel.drop k) dd')
/-- d.pop(k, x), not there -/
theorem d_popD {r : Value} {Q : Value → Shared → Prop} (I : Inv X pins σ H s) (e : H a = some (.dK kvs)) (ry : RelV (kV k) u) (l : valV kvs k = none) (h : ∀ s', Inv X pins σ H s' → Q r s') :
    wpAny (model X.prog X.w) A (call (.builtin "dict.pop") [.ref a, u, r]) Q E s := by
  obtain ⟨z, hd, vs, rel, dd⟩ := dk_of I.hok e
  have hn : valueAt vs k = none := RelO.none_of (by rw [← l]; exact rel.val k)
  have hp : (keyPart u).isSome = true := by
    cases k with
    | inl i => obtain ⟨t, q⟩ := (show ∃ t, u = Value.int i t from ry); subst q; rfl
    | inr x => obtain ⟨t, q⟩ := (show ∃ t, u = Value.str x t from ry); subst q; rfl
  exact call_meetsIn PySem.F.slot_dict_pop dd.typeIs PySem.F.entry_dict_pop (PySem.F.args_dict_pop_3 _ _ _) (meets_dict_pop_default (mixKind X.prog X.w) a (kV_is ry) hd hp r) ⟨vs, dd, hn, h _ (I.tok _)⟩
/-- d.clear() -/
theorem d_clear {Q : Value → Shared → Prop} (I : Inv X pins σ H s) (e : H a = some (.dK kvs)) (h : ∀ s', Inv X pins σ (upd H a (.dK [])) s' → Q .none s') : wpAny (model X.prog X.w) A (call (.builtin "dict.clear") [.ref a]) Q E s := by
  obtain ⟨z, hd, vs, rel, dd⟩ := dk_of I.hok e
  refine call_meetsIn PySem.F.slot_dict_clear dd.typeIs PySem.F.entry_dict_clear (PySem.F.args_dict_clear_1 _) (meets_dict_clear (mixKind X.prog X.w) a) ⟨vs, dd, by rw [← rel.length]; exact z, fun h' dd' hs => h _ ?_⟩
  have he : ∃ q, h'.get? a = some q := let ⟨q, _, _, hq, _⟩ := dd'; ⟨q, hq⟩
  exact d_write (t' := s.toks) I (by rw [e]; exact True.intro) hs he (dk_new (Nat.zero_le _) hd .nil dd')
/-- len(d) -/
theorem d_len {Q : Value → Shared → Prop} (I : Inv X pins σ H s) (e : Rd H a (.dK kvs)) (h : ∀ t s', Inv X pins σ H s' → Q (.int kvs.length t) s') : wpAny (model X.prog X.w) A (call (.builtin "len") [.ref a]) Q E s := by
  obtain ⟨z, hd, vs, rel, dd⟩ := dk_rd I.hok e
  refine call_len_dict hd dd (by rw [← rel.length]; rw [sizeLine_eq] at z; omega) ?_
  rw [← rel.length]
  exact h _ _ (I.tok _)
/-- if d -/
theorem d_truth {Q : Bool → Shared → Prop} (I : Inv X pins σ H s) (e : Rd H a (.dK kvs)) (h : ∀ s', Inv X pins σ H s' → Q (!kvs.isEmpty) s') : wpAny (model X.prog X.w) A (truthy (.ref a)) Q E s := by
  obtain ⟨z, hd, vs, rel, dd⟩ := dk_rd I.hok e
  refine wpAny_truthy_dict hd dd (by rw [← rel.length]; rw [sizeLine_eq] at z; omega) ?_
  have q : kvs.isEmpty = vs.isEmpty := by cases rel <;> rfl
  rw [← q]
  exact h _ (I.tok _)
end


/-! ### readings and rules -/
/-- the element of a subscription, not a slice -/
def NoSl (i : Expr) : Prop := ∀ ov iv, subscripted i false ov iv = operate [ov, iv] (getItem ov iv)
theorem subD_of {prog : Program} {w : World} {A : Around} {E : Value → Shared → Prop} {s : Shared} {env : Env} {value slice : Expr} {pos : Pos} {T id : String} {Q : Value → Shared → Prop}
    (hl : typeLookup (.type T) "__getitem__" = pure (some (.builtin id))) (hs : NoSl slice)
    (h : wpAny (model prog w) A (eval value env) (fun o s₁ => wpAny (model prog w) A (eval slice env) (fun i s₂ => s₂.TypeIs o T ∧ wpAny (model prog w) A (getItem o i) Q E s₂) E s₁) E s) :
    wpAny (model prog w) A (eval (.Subscript value slice pos) env) Q E s := by
  refine Subscript_ (wpAny_mono h (fun o s₁ h₁ => wpAny_mono h₁ (fun i s₂ h₂ => ?_) fun _ _ x => x) fun _ _ x => x)
  obtain ⟨hT, h₂⟩ := h₂
  unfold subscriptTail
  refine wpAny_bind ?_
  rw [getitemInPython_of_ne hT.not_modules]
  refine wpAny_bind (wpAny_specialOf hT hl ?_)
  have fin : wpAny (model prog w) A (subscripted slice false o i) (fun r s₃ => wpAny (model prog w) A (letTemporaryGo value o r >>= fun _ => pure r) Q E s₃) E s₂ := by
    rw [hs o i]
    exact wpAny_operating (wpAny_mono h₂ (fun r s₃ h₃ => wpAny_bind (wpAny_letTemporaryGo (wpAny_pure h₃))) fun _ _ x => x)
  first
    | exact wpAny_pure (wpAny_bind fin)
    | exact wpAny_bind (wpAny_pure (wpAny_bind fin))
    | exact wpAny_bind fin

theorem dict_typeIs {X : Cx} {pins : List (Addr × Obj)} {σ : St} {H : Hp} {s : Shared} {a : Addr} {y : V} {o : Option V} (I : Inv X pins σ H s) (g : DGet H a y o) : s.TypeIs (.ref a) "dict" := by
  rcases g with ⟨kvs, k, e, _, _⟩ | ⟨kvs, k, b, e, _, _, _⟩
  · obtain ⟨_, _, vs, _, dd⟩ := dk_rd I.hok e
    exact dd.typeIs
  · obtain ⟨_, _, xs, _, dd⟩ := dt_rd I.hok e
    exact dd.typeIs
theorem dict_noDict {X : Cx} {pins : List (Addr × Obj)} {σ : St} {H : Hp} {s : Shared} {a : Addr} {y : V} {o : Option V} (I : Inv X pins σ H s) (g : DGet H a y o) :
    ∀ b, Value.ref a = .ref b → ∃ ob, s.heap.get? b = some ob ∧ ob.dict = none := fun b q => by
  cases q
  rcases g with ⟨kvs, k, e, _, _⟩ | ⟨kvs, k, b, e, _, _, _⟩
  · obtain ⟨_, _, vs, _, ob, _, _, h1, h2, _⟩ := dk_rd I.hok e
    exact ⟨ob, h1, h2.2.1⟩
  · obtain ⟨_, _, xs, _, ob, _, _, h1, h2, _⟩ := dt_rd I.hok e
    exact ⟨ob, h1, h2.2.1⟩

/-- d[y] -/
def tDGet (td ty : TE) : TE := fun σ H Q => td σ H fun x H1 => ty σ H1 fun y H2 => ∃ a v, x = .ref a ∧ DGet H2 a y (some v) ∧ Q v H2
/-- y in d, y not in d -/
def tDIn (ty td : TE) : TE := fun σ H Q => ty σ H fun y H1 => td σ H1 fun x H2 => ∃ a o, x = .ref a ∧ DGet H2 a y o ∧ Q (.bl o.isSome) H2
def tDNotIn (ty td : TE) : TE := fun σ H Q => ty σ H fun y H1 => td σ H1 fun x H2 => ∃ a o, x = .ref a ∧ DGet H2 a y o ∧ Q (.bl (!o.isSome)) H2
/-- d[y] = v -/
def sDPut (td ty tv : TE) : TS := fun D σ H => tv σ H fun v H1 => td σ H1 fun x H2 => ty σ H2 fun y H3 => ∃ a H4, x = .ref a ∧ DPut H3 a y v H4 ∧ D.nx σ H4
/-- d[y] op= v -/
def sDAug (td ty tv : TE) (rd : V → V → Hp → VK → Prop) : TS := fun D σ H => td σ H fun x H1 => ty σ H1 fun y H2 => ∃ a v, x = .ref a ∧ DGet H2 a y (some v) ∧
  tv σ H2 fun y2 H3 => rd v y2 H3 fun z H4 => ∃ H5, DPut H4 a y z H5 ∧ D.nx σ H5
/-- del d[y] -/
def sDDel (td ty : TE) : TS := fun D σ H => td σ H fun x H1 => ty σ H1 fun y H2 => ∃ a kvs k, x = .ref a ∧ H2 a = some (.dK kvs) ∧ y = kV k ∧ (valV kvs k).isSome = true ∧ D.nx σ (upd H2 a (.dK (dropK kvs k)))

section
variable {X : Cx} {o i e value : Expr} {pos pos' tpos : Pos} {td ty tv : TE}
theorem pe_dget (hu : X.A.units + 1 < cLine) (ho : PE X o td) (hi : PE X i ty) (hs : NoSl i) : PE X (.Subscript o i pos) (tDGet td ty) := by
  intro pins s σ H Q I h
  refine subD_of PySem.F.slot_dict_getitem.lookup hs (thn (ho pins s σ H _ I h) fun u s1 ⟨x, H1, I1, rx, q1⟩ => thn (hi pins s1 σ H1 _ I1 q1) fun iv s2 ⟨y, H2, I2, ry, a, v, ex, g, q2⟩ => ?_)
  subst ex
  obtain rfl : u = Value.ref a := rx
  exact ⟨dict_typeIs I2 g, d_getItem hu I2 g ry fun w' s3 I3 rw' => ⟨v, H2, I3, rw', q2⟩⟩
theorem pc_din (hu : X.A.units + 1 < cLine) (hi : PE X i ty) (ho : PE X o td) : PC X .In i o (tDIn ty td) := by
  intro pins s σ H Q I h
  refine thn (hi pins s σ H _ I h) fun iv s1 ⟨y, H1, I1, ry, q1⟩ => thn (ho pins s1 σ H1 _ I1 q1) fun u s2 ⟨x, H2, I2, rx, a, ov, ex, g, q2⟩ => ?_
  subst ex
  obtain rfl : u = Value.ref a := rx
  exact d_in hu I2 g ry fun s3 I3 => ⟨.bl ov.isSome, H2, I3, rfl, q2⟩
theorem pc_dnotin (hu : X.A.units + 1 < cLine) (hi : PE X i ty) (ho : PE X o td) : PC X .NotIn i o (tDNotIn ty td) := by
  intro pins s σ H Q I h
  refine thn (hi pins s σ H _ I h) fun iv s1 ⟨y, H1, I1, ry, q1⟩ => thn (ho pins s1 σ H1 _ I1 q1) fun u s2 ⟨x, H2, I2, rx, a, ov, ex, g, q2⟩ => ?_
  subst ex
  obtain rfl : u = Value.ref a := rx
  exact d_notIn hu I2 g ry fun s3 I3 => ⟨.bl (!ov.isSome), H2, I3, rfl, q2⟩
theorem ps_dput (hu : X.A.units + 1 < cLine) (ho : PE X o td) (hi : PE X i ty) (hv : PE X value tv) (hs : swapsWith value (some (.Subscript o i pos')) pos.line X.env = pure false) :
    PS X (.Assign [.Subscript o i pos'] value pos) (sDPut td ty tv) := by
  intro pins s σ H D I h
  refine wpAny_Assign_Subscript (thn (hv pins s σ H _ I h) fun r s1 ⟨v, H1, I1, rv, q1⟩ => thn (ho pins s1 σ H1 _ I1 q1) fun u s2 ⟨x, H2, I2, rx, q2⟩ => thn (hi pins s2 σ H2 _ I2 q2) fun iv s3 ⟨y, H3, I3, ry, a, H4, ex, g, q3⟩ => ?_) hs
  subst ex
  obtain rfl : u = Value.ref a := rx
  exact d_setItem hu I3 g ry rv fun s4 I4 => ⟨σ, H4, I4, q3⟩
theorem ps_daug {op : Operator} {rd : V → V → Hp → VK → Prop} (hu : X.A.units + 1 < cLine) (ho : PE X o td) (hi : PE X i ty) (hv : PE X value tv) (hop : InOp X op rd)
    (ha : ∀ ov iv new, augStore i ov iv new = (do holding [new, ov, iv] (setItem ov iv new); release [new, ov, iv] []; pure .next)) : PS X (.AugAssign (.Subscript o i tpos) op value pos) (sDAug td ty tv rd) := by
  intro pins s σ H D I h
  refine wpAny_AugAssign_SubscriptAny (thn (ho pins s σ H _ I h) fun u s1 ⟨x, H1, I1, rx, q1⟩ => thn (hi pins s1 σ H1 _ I1 q1) fun iv s2 ⟨y, H2, I2, ry, a, v, ex, g, q2⟩ => ?_) ha
  subst ex
  obtain rfl : u = Value.ref a := rx
  refine d_getItem hu I2 g ry fun w' s3 I3 rw' => thn (hv pins s3 σ H2 _ I3 q2) fun w2 s4 ⟨y2, H3, I4, ry2, q3⟩ => thn (hop pins s4 σ H3 v y2 w' w2 _ I4 rw' ry2 q3) fun w3 s5 ⟨z, H4, I5, rz, H5, g5, q4⟩ => ?_
  exact d_setItem hu I5 g5 ry rz fun s6 I6 => ⟨σ, H5, I6, q4⟩
theorem ps_ddel (ho : PE X o td) (hi : PE X i ty) : PS X (.Delete [.Subscript o i tpos] pos) (sDDel td ty) := by
  intro pins s σ H D I h
  refine wpAny_Delete (wpAny_deleteEach_cons (wpAny_delete_Subscript (thn (ho pins s σ H _ I h) fun u s1 ⟨x, H1, I1, rx, q1⟩ => thn (hi pins s1 σ H1 _ I1 q1) fun iv s2 ⟨y, H2, I2, ry, a, kvs, k, ex, e, ey, l, q2⟩ => ?_)))
  subst ex ey
  obtain rfl : u = Value.ref a := rx
  exact d_delItem I2 e ry l fun s3 I3 => wpAny_deleteEach_nil ⟨σ, _, I3, q2⟩
end


/-! ### displays -/
theorem dk_empty {P : Program} {w : World} {H : Hp} (h : Heap) (hb : sysModules < h.objs.size) : ObjOk P w H (h.push { cls := .type "dict", data := .dict #[] }) h.objs.size (.dK []) :=
  ⟨Nat.zero_le _, beq_eq_false_iff_ne.mpr (Ne.symm (Nat.ne_of_lt hb)), [], .nil, Heap.DictOf.new h⟩
theorem dt_empty {P : Program} {w : World} {H : Hp} (h : Heap) (hb : sysModules < h.objs.size) : ObjOk P w H (h.push { cls := .type "dict", data := .dict #[] }) h.objs.size (.dT []) :=
  ⟨Nat.zero_le _, beq_eq_false_iff_ne.mpr (Ne.symm (Nat.ne_of_lt hb)), [], .nil, _, #[], 0, Heap.get?_push_size _ rfl, ⟨rfl, rfl, rfl⟩, rfl, rfl, List.nodup_nil⟩
/-- {}, to be a dict of the kind that is wanted -/
def tDNewK : TE := fun _ H Q => ∀ p, H p = none → Q (.ref p) (upd H p (.dK []))
def tDNewT : TE := fun _ H Q => ∀ p, H p = none → Q (.ref p) (upd H p (.dT []))
section
variable {X : Cx} {pos : Pos}
theorem pe_dnewK : PE X (.Dict [] [] pos) tDNewK := fun pins s σ H Q I h =>
  wpAny_Dict_empty ⟨.ref s.heap.objs.size, _, I.laid (a := s.heap.objs.size) (o := .dK []) (t' := s.toks) (fun _ _ q => Heap.get?_push_of_some _ q) (Nat.le_refl _) (dk_empty s.heap I.big), rfl, h _ (I.hok.fresh (Nat.le_refl _))⟩
theorem pe_dnewT : PE X (.Dict [] [] pos) tDNewT := fun pins s σ H Q I h =>
  wpAny_Dict_empty ⟨.ref s.heap.objs.size, _, I.laid (a := s.heap.objs.size) (o := .dT []) (t' := s.toks) (fun _ _ q => Heap.get?_push_of_some _ q) (Nat.le_refl _) (dt_empty s.heap I.big), rfl, h _ (I.hok.fresh (Nat.le_refl _))⟩
end

/-- the pairs of a display, from the left -/
def tPairs : List (TE × TE) → St → Hp → (List (V × V) → Hp → Prop) → Prop
  | [], _, H, Q => Q [] H
  | (tk, tv) :: r, σ, H, Q => tk σ H fun x H1 => tv σ H1 fun y H2 => tPairs r σ H2 fun ps H3 => Q ((x, y) :: ps) H3
abbrev VV : List (V × V) → List (Value × Value) → Prop := Paired fun p q => RelV p.1 q.1 ∧ RelV p.2 q.2
def PPs (X : Cx) (pos : Pos) (keys : List (Option Expr)) (values : List Expr) (trs : List (TE × TE)) : Prop :=
  ∀ (pins : List (Addr × Obj)) (s : Shared) (σ : St) (H : Hp) (Q : List (V × V) → Hp → Prop), Inv X pins σ H s → tPairs trs σ H Q →
    wpAny (model X.prog X.w) X.A (evalPairs (pairTrees keys values X.env pos)) (fun vs s' => ∃ ps H', Inv X pins σ H' s' ∧ VV ps vs ∧ Q ps H') X.xe s
theorem pps_nil {X : Cx} {pos : Pos} : PPs X pos [] [] [] := fun pins s σ H Q I h => pairTrees_nil_walk ⟨[], H, I, .nil, h⟩
theorem pps_cons {X : Cx} {pos : Pos} {k v : Expr} {ks : List (Option Expr)} {vs : List Expr} {tk tv : TE} {trs : List (TE × TE)} (hk : PE X k tk) (hv : PE X v tv) (hr : PPs X pos ks vs trs) :
    PPs X pos (some k :: ks) (v :: vs) ((tk, tv) :: trs) := fun pins s σ H Q I h =>
  pairTrees_cons_walk (thn (hk pins s σ H _ I h) fun u s1 ⟨x, H1, I1, rx, q1⟩ => thn (hv pins s1 σ H1 _ I1 q1) fun w2 s2 ⟨y, H2, I2, ry, q2⟩ =>
    thn (hr pins s2 σ H2 _ I2 q2) fun ws s3 ⟨ps, H3, I3, rel, q3⟩ => ⟨(x, y) :: ps, H3, I3, .cons ⟨rx, ry⟩ rel, q3⟩)

def mergeK (kvs more : List (Key × V)) : List (Key × V) := more.foldl (fun acc kv => putK acc kv.1 kv.2) kvs
theorem KV.merge : ∀ {more : List (Key × V)} {rs : List (Key × Value)} {kvs : List (Key × V)} {vs : List (Key × Value)}, KV more rs → KV kvs vs → KV (mergeK kvs more) (merged vs rs) := by
  intro more rs kvs vs r
  unfold KV at r
  induction r generalizing kvs vs with
  | nil => intro q; exact q
  | @cons p q ps qs h t ih =>
    intro r0
    have e : KV (putK kvs p.1 p.2) (stored vs q.1 q.2) := by
      have := r0.put p.1 h.2
      rw [← h.1]; exact this
    exact ih e
theorem length_mergeK : ∀ (more kvs : List (Key × V)), (mergeK kvs more).length ≤ kvs.length + more.length
  | [], kvs => by show kvs.length ≤ kvs.length + 0; omega
  | p :: r, kvs => by
    have h1 := length_mergeK r (putK kvs p.1 p.2)
    have h2 := length_putK kvs p.1 p.2
    show (mergeK (putK kvs p.1 p.2) r).length ≤ _
    rw [List.length_cons]; omega
theorem carries_of {P : Program} {w : World} : ∀ {kvs : List (Key × V)} {ws : List (Value × Value)}, VV (kvs.map fun kv => (kV kv.1, kv.2)) ws → ∃ rs, Carries (mixKind P w) ws rs ∧ KV kvs rs
  | [], _, r => by rw [List.map_nil] at r; cases r; exact ⟨[], True.intro, .nil⟩
  | p :: kvs, _, r => by
    rw [List.map_cons] at r
    cases r with
    | @cons a b as bs h t =>
      obtain ⟨rs, c, q⟩ := carries_of (P := P) (w := w) t
      obtain ⟨b1, b2⟩ := b
      exact ⟨(p.1, b2) :: rs, ⟨kV_is h.1, rfl, c⟩, .cons ⟨rfl, h.2⟩ q⟩
/-- {k: v, ..} with keys ints and texts; the new dict stands empty while the pairs are made -/
def tDisp (trs : List (TE × TE)) : TE := fun σ H Q => ∀ p, H p = none → tPairs trs σ (upd H p (.dK [])) fun ps H2 => H2 p = some (.dK []) ∧ ∃ kvs : List (Key × V), ps = kvs.map (fun kv => (kV kv.1, kv.2)) ∧ kvs.length ≤ 15 ∧ Q (.ref p) (upd H2 p (.dK (mergeK [] kvs)))
theorem pe_disp {X : Cx} {pos : Pos} {keys : List (Option Expr)} {values : List Expr} {trs : List (TE × TE)} (h : PPs X pos keys values trs) (hall : keys.all (·.isSome) = true) (hl : keys.length = values.length) (h0 : keys ≠ [])
    (h15 : keys.length ≤ 15) : PE X (.Dict keys values pos) (tDisp trs) := by
  intro pins s σ H Q I q
  have hn := I.hok.fresh (Nat.le_refl s.heap.objs.size)
  have I1 := I.laid (a := s.heap.objs.size) (o := .dK []) (h' := s.heap.push { cls := .type "dict", data := .dict #[] }) (t' := s.toks) (fun _ _ q => Heap.get?_push_of_some _ q) (Nat.le_refl _) (dk_empty s.heap I.big)
  refine wpAny_Dict_walk (knd := mixKind X.prog X.w) hall hl h0 h15 (thn (h pins _ σ _ _ I1 (q _ hn)) fun ws s2 ⟨ps, H2, I2, rel, e, kvs, ep, lk, q2⟩ => ?_)
  subst ep
  obtain ⟨rs, c, rk⟩ := carries_of (P := X.prog) (w := X.w) rel
  obtain ⟨z, hd, vs0, r0, dd⟩ := dk_of I2.hok e
  cases r0
  refine ⟨rs, c, dd, fun h' dd' hs => ⟨.ref s.heap.objs.size, _, ?_, rfl, q2⟩⟩
  have hz : (mergeK [] kvs).length ≤ sizeLine := by
    have h1 := length_mergeK kvs []
    rw [List.length_nil] at h1
    rw [sizeLine_eq]; omega
  have he : ∃ q, h'.get? s.heap.objs.size = some q := let ⟨q, _, _, hq, _⟩ := dd'; ⟨q, hq⟩
  exact d_write I2 (by rw [e]; exact True.intro) hs he (dk_new hz hd (rk.merge .nil) dd')


/-! ### methods -/
/-- a method call o.m(e) of a built-in, with one argument: what must be seen of the text -/
structure M1 (X : Cx) (o : Expr) (m : Str) (apos : Pos) (e : Expr) (cpos : Pos) : Prop where
  base : attributeBase o m X.env (eval o X.env) = eval o X.env
  few : ((backTo cpos (starEach [e] X.env)).all (fun x => !x.1) && (backToKw cpos (keywordEach [] X.env)).all (fun x => x.1.isSome)
    && decide (([e] : List Expr).length + ([] : List Keyword).length + (if ([] : List Keyword).isEmpty then 0 else 1) < 30)) = true
  line : (apos.endLine == cpos.line) = true
  trees : backTo cpos (starEach [e] X.env) = [(false, eval e X.env)]
structure M2 (X : Cx) (o : Expr) (m : Str) (apos : Pos) (e f : Expr) (cpos : Pos) : Prop where
  base : attributeBase o m X.env (eval o X.env) = eval o X.env
  few : ((backTo cpos (starEach [e, f] X.env)).all (fun x => !x.1) && (backToKw cpos (keywordEach [] X.env)).all (fun x => x.1.isSome)
    && decide (([e, f] : List Expr).length + ([] : List Keyword).length + (if ([] : List Keyword).isEmpty then 0 else 1) < 30)) = true
  line : (apos.endLine == cpos.line) = true
  trees : backTo cpos (starEach [e, f] X.env) = [(false, eval e X.env), (false, eval f X.env)]

/-- a is a dict, whatever its keys -/
def IsD (H : Hp) (a : Addr) : Prop := (∃ kvs, Rd H a (.dK kvs)) ∨ ∃ kvs, Rd H a (.dT kvs)
theorem isD_at {X : Cx} {pins : List (Addr × Obj)} {σ : St} {H : Hp} {s : Shared} {a : Addr} (I : Inv X pins σ H s) (d : IsD H a) :
    s.TypeIs (.ref a) "dict" ∧ (∀ b, Value.ref a = .ref b → ∃ ob, s.heap.get? b = some ob ∧ ob.dict = none) ∧ (a == sysModules) = false := by
  rcases d with ⟨kvs, e⟩ | ⟨kvs, e⟩
  · obtain ⟨_, hd, vs, _, dd⟩ := dk_rd I.hok e
    refine ⟨dd.typeIs, fun b q => ?_, hd⟩
    cases q
    obtain ⟨ob, _, _, h1, h2, _⟩ := dd
    exact ⟨ob, h1, h2.2.1⟩
  · obtain ⟨_, hd, xs, _, dd⟩ := dt_rd I.hok e
    refine ⟨dd.typeIs, fun b q => ?_, hd⟩
    cases q
    obtain ⟨ob, _, _, h1, h2, _⟩ := dd
    exact ⟨ob, h1, h2.2.1⟩

section
variable {X : Cx} {pins : List (Addr × Obj)} {σ : St} {H : Hp} {s : Shared} {a : Addr} {y d : V} {u r : Value} {o : Option V} {A : Around} {E : Value → Shared → Prop}
/-- d.get(y) -/
theorem d_get1 {Q : Value → Shared → Prop} (hu : A.units + 1 < cLine) (I : Inv X pins σ H s) (g : DGet H a y o) (ry : RelV y u) (h : ∀ w' s', Inv X pins σ H s' → RelV (o.getD .non) w' → Q w' s') :
    wpAny (model X.prog X.w) A (call (.builtin "dict.get") [.ref a, u]) Q E s := by
  rcases g with ⟨kvs, k, e, ey, l⟩ | ⟨kvs, k, b, e, ey, eb, l⟩
  · subst ey
    obtain ⟨z, hd, vs, rel, dd⟩ := dk_rd I.hok e
    refine call_meetsIn PySem.F.slot_dict_get dd.typeIs PySem.F.entry_dict_get (PySem.F.args_dict_get_2 _ _) (meets_dict_get (mixKind X.prog X.w) a (kV_is ry) hd) ⟨_, dd.mapOf, h _ _ (I.tok _) ?_⟩
    rw [l]
    exact (rel.val k).getD rfl
  · subst ey
    cases (show u = Value.ref b from ry)
    obtain ⟨z, hd, xs, rel, dd⟩ := dt_rd I.hok e
    refine call_meetsIn PySem.F.slot_dict_get dd.typeIs PySem.F.entry_dict_get (PySem.F.args_dict_get_2 _ _) (meetsH_dict_get (tupleKind (mixKind X.prog X.w)) a b hd) ⟨tupleKind_room_in1 hu, k, xs, key_of I.hok eb, dd, h _ _ (I.tok _) ?_⟩
    rw [l]
    exact (rel.val k).getD rfl
/-- d.get(y, x) -/
theorem d_get2 {Q : Value → Shared → Prop} (hu : A.units + 1 < cLine) (I : Inv X pins σ H s) (g : DGet H a y o) (ry : RelV y u) (rd : RelV d r) (h : ∀ w' s', Inv X pins σ H s' → RelV (o.getD d) w' → Q w' s') :
    wpAny (model X.prog X.w) A (call (.builtin "dict.get") [.ref a, u, r]) Q E s := by
  rcases g with ⟨kvs, k, e, ey, l⟩ | ⟨kvs, k, b, e, ey, eb, l⟩
  · subst ey
    obtain ⟨z, hd, vs, rel, dd⟩ := dk_rd I.hok e
    refine call_meetsIn PySem.F.slot_dict_get dd.typeIs PySem.F.entry_dict_get (PySem.F.args_dict_get_3 _ _ _) (meets_dict_get_default (mixKind X.prog X.w) a (kV_is ry) hd r) ⟨_, dd.mapOf, h _ _ (I.tok _) ?_⟩
    rw [l]
    exact (rel.val k).getD rd
  · subst ey
    cases (show u = Value.ref b from ry)
    obtain ⟨z, hd, xs, rel, dd⟩ := dt_rd I.hok e
    refine call_meetsIn PySem.F.slot_dict_get dd.typeIs PySem.F.entry_dict_get (PySem.F.args_dict_get_3 _ _ _) (meetsH_dict_get_default (tupleKind (mixKind X.prog X.w)) a b hd r) ⟨tupleKind_room_in1 hu, k, xs, key_of I.hok eb, dd, h _ _ (I.tok _) ?_⟩
    rw [l]
    exact (rel.val k).getD rd
end

def tDGet1 (td ty : TE) : TE := fun σ H Q => td σ H fun x H1 => ∃ a, x = .ref a ∧ IsD H1 a ∧ ty σ H1 fun y H2 => ∃ o, DGet H2 a y o ∧ Q (o.getD .non) H2
def tDGet2 (td ty tx : TE) : TE := fun σ H Q => td σ H fun x H1 => ∃ a, x = .ref a ∧ IsD H1 a ∧ ty σ H1 fun y H2 => tx σ H2 fun z H3 => ∃ o, DGet H3 a y o ∧ Q (o.getD z) H3
/-- d.pop(k): there; d.pop(k, x): there or not -/
def tDPop1 (td ty : TE) : TE := fun σ H Q => td σ H fun x H1 => ∃ a, x = .ref a ∧ IsD H1 a ∧ ty σ H1 fun y H2 => ∃ kvs k v, H2 a = some (.dK kvs) ∧ y = kV k ∧ valV kvs k = some v ∧ Q v (upd H2 a (.dK (dropK kvs k)))
def tDPop2 (td ty tx : TE) : TE := fun σ H Q => td σ H fun x H1 => ∃ a, x = .ref a ∧ IsD H1 a ∧ ty σ H1 fun y H2 => tx σ H2 fun z H3 => ∃ kvs k, H3 a = some (.dK kvs) ∧ y = kV k ∧
  (∀ v, valV kvs k = some v → Q v (upd H3 a (.dK (dropK kvs k)))) ∧ (valV kvs k = none → Q z H3)
section
variable {X : Cx} {o e f : Expr} {apos cpos : Pos} {td ty tx : TE}
theorem pe_dget1 (hu : X.A.units + 1 < cLine) (ho : PE X o td) (he : PE X e ty) (m : M1 X o "get" apos e cpos) : PE X (.Call (.Attribute o "get" apos) [e] [] cpos) (tDGet1 td ty) := by
  intro pins s σ H Q I h
  refine wpAny_Call_method m.base m.few m.line PySem.F.plainAttrs_dict PySem.F.slot_dict_get PySem.F.type_dict_get (thn (ho pins s σ H _ I h) fun u s1 ⟨x, H1, I1, rx, a, ex, d, q1⟩ => ?_)
  subst ex
  obtain rfl : u = Value.ref a := rx
  obtain ⟨t1, t2, _⟩ := isD_at I1 d
  refine ⟨t1, t2, ?_⟩
  rw [m.trees]
  refine Calls.callWith_builtin rfl (Calls.evalArgs_plain (Calls.spliced_cons (thn (he pins s1 σ H1 _ I1 q1) fun iv s2 ⟨y, H2, I2, ry, ov, g, q2⟩ => Calls.spliced_nil ?_)))
  exact d_get1 hu I2 g ry fun w' s3 I3 rw' => ⟨_, H2, I3, rw', q2⟩
theorem pe_dget2 (hu : X.A.units + 1 < cLine) (ho : PE X o td) (he : PE X e ty) (hf : PE X f tx) (m : M2 X o "get" apos e f cpos) : PE X (.Call (.Attribute o "get" apos) [e, f] [] cpos) (tDGet2 td ty tx) := by
  intro pins s σ H Q I h
  refine wpAny_Call_method m.base m.few m.line PySem.F.plainAttrs_dict PySem.F.slot_dict_get PySem.F.type_dict_get (thn (ho pins s σ H _ I h) fun u s1 ⟨x, H1, I1, rx, a, ex, d, q1⟩ => ?_)
  subst ex
  obtain rfl : u = Value.ref a := rx
  obtain ⟨t1, t2, _⟩ := isD_at I1 d
  refine ⟨t1, t2, ?_⟩
  rw [m.trees]
  refine Calls.callWith_builtin rfl (Calls.evalArgs_plain (Calls.spliced_cons (thn (he pins s1 σ H1 _ I1 q1) fun iv s2 ⟨y, H2, I2, ry, q2⟩ =>
    Calls.spliced_cons (thn (hf pins s2 σ H2 _ I2 q2) fun fv s3 ⟨z, H3, I3, rz, ov, g, q3⟩ => Calls.spliced_nil ?_))))
  exact d_get2 hu I3 g ry rz fun w' s4 I4 rw' => ⟨_, H3, I4, rw', q3⟩
theorem pe_dpop1 (ho : PE X o td) (he : PE X e ty) (m : M1 X o "pop" apos e cpos) : PE X (.Call (.Attribute o "pop" apos) [e] [] cpos) (tDPop1 td ty) := by
  intro pins s σ H Q I h
  refine wpAny_Call_method m.base m.few m.line PySem.F.plainAttrs_dict PySem.F.slot_dict_pop PySem.F.type_dict_pop (thn (ho pins s σ H _ I h) fun u s1 ⟨x, H1, I1, rx, a, ex, d, q1⟩ => ?_)
  subst ex
  obtain rfl : u = Value.ref a := rx
  obtain ⟨t1, t2, _⟩ := isD_at I1 d
  refine ⟨t1, t2, ?_⟩
  rw [m.trees]
  refine Calls.callWith_builtin rfl (Calls.evalArgs_plain (Calls.spliced_cons (thn (he pins s1 σ H1 _ I1 q1) fun iv s2 ⟨y, H2, I2, ry, kvs, k, v, ea, ey, l, q2⟩ => Calls.spliced_nil ?_)))
  subst ey
  exact d_pop I2 ea ry l (.inl rfl) fun w' s3 I3 rw' => ⟨v, _, I3, rw', q2⟩
theorem pe_dpop2 (ho : PE X o td) (he : PE X e ty) (hf : PE X f tx) (m : M2 X o "pop" apos e f cpos) : PE X (.Call (.Attribute o "pop" apos) [e, f] [] cpos) (tDPop2 td ty tx) := by
  intro pins s σ H Q I h
  refine wpAny_Call_method m.base m.few m.line PySem.F.plainAttrs_dict PySem.F.slot_dict_pop PySem.F.type_dict_pop (thn (ho pins s σ H _ I h) fun u s1 ⟨x, H1, I1, rx, a, ex, d, q1⟩ => ?_)
  subst ex
  obtain rfl : u = Value.ref a := rx
  obtain ⟨t1, t2, _⟩ := isD_at I1 d
  refine ⟨t1, t2, ?_⟩
  rw [m.trees]
  refine Calls.callWith_builtin rfl (Calls.evalArgs_plain (Calls.spliced_cons (thn (he pins s1 σ H1 _ I1 q1) fun iv s2 ⟨y, H2, I2, ry, q2⟩ =>
    Calls.spliced_cons (thn (hf pins s2 σ H2 _ I2 q2) fun fv s3 ⟨z, H3, I3, rz, kvs, k, ea, ey, q3, q4⟩ => Calls.spliced_nil ?_))))
  subst ey
  cases l : valV kvs k with
  | some v => exact d_pop I3 ea ry l (.inr ⟨fv, rfl⟩) fun w' s4 I4 rw' => ⟨v, _, I4, rw', q3 v l⟩
  | none => exact d_popD I3 ea ry l fun s4 I4 => ⟨z, H3, I4, rz, q4 l⟩
end

/-! ### dict(d): a copy -/
section
variable {X : Cx} {pins : List (Addr × Obj)} {σ : St} {H : Hp} {s : Shared} {a : Addr} {kvs : List (Key × V)} {A : Around} {E : Value → Shared → Prop}
theorem d_copyOf {Q : Value → Shared → Prop} (I : Inv X pins σ H s) (e : Rd H a (.dK kvs)) (h : ∀ p s', H p = none → Inv X pins σ (upd H p (.dK kvs)) s' → Q (.ref p) s') : wpAny (model X.prog X.w) A (call (.type "dict") [.ref a]) Q E s := by
  obtain ⟨z, hd, vs, rel, dd⟩ := dk_rd I.hok e
  refine kt_call_dict hd dd (by rw [← rel.length]; exact z) fun h' dd' hs => ?_
  refine h _ _ (I.hok.fresh (Nat.le_refl _)) (I.laid (a := s.heap.objs.size) (o := .dK kvs) (t' := s.toks) (fun b q hq => ?_) (Nat.le_refl _) (dk_new z (beq_eq_false_iff_ne.mpr (Ne.symm (Nat.ne_of_lt I.big))) rel dd'))
  exact (hs.2 b (Nat.ne_of_lt (Heap.lt_size hq))).trans (Heap.get?_push_of_some _ hq)
end


section
variable {X : Cx} {pins : List (Addr × Obj)} {σ : St} {H : Hp} {s : Shared} {a : Addr} {y : V} {u : Value} {A : Around} {E : Value → Shared → Prop}
/-- d[y], not there: a KeyError -/
theorem d_missing {Q : Value → Shared → Prop} (hu : A.units + 1 < cLine) (hh : A.handled = none) (I : Inv X pins σ H s) (g : DGet H a y none) (ry : RelV y u)
    (h : ∀ h' e t', Heap.NewExc s.heap h' e "KeyError" → E (.ref e) { s with heap := h', toks := t' }) : wpAny (model X.prog X.w) A (getItem (.ref a) u) Q E s := by
  rcases g with ⟨kvs, k, e, ey, l⟩ | ⟨kvs, k, b, e, ey, eb, l⟩
  · subst ey
    obtain ⟨z, hd, vs, rel, dd⟩ := dk_rd I.hok e
    have hn : valueAt vs k = none := RelO.none_of (by rw [l]; exact rel.val k)
    exact wpAny_getItem_missing_of (kV_is ry) hd hh dd.mapOf hn fun h' ex ne => h h' ex _ ne
  · subst ey
    cases (show u = Value.ref b from ry)
    obtain ⟨z, hd, xs, rel, dd⟩ := dt_rd I.hok e
    have hn : (atKey xs k).map (·.2) = none := RelO.none_of (by rw [l]; exact rel.val k)
    exact wpAny_getItem_missing_heap (tupleKind_room_in1 hu) (key_of I.hok eb) hd hh dd (Option.map_eq_none_iff.mp hn) fun h' ex ne => h h' ex _ ne
end
end L2

namespace Att
open PySem PySem.W PySem.Calls PyProof.Rows

/-! ### the script -/
/-! ### the attachment: holds_open's last premise (the goal 'hc' behind k_head) from a wpAny of the law's body -/
/-! ### rules over ANY heap (no ledger) from facts about the written part K: the library's own take a ledger (News) for what they write -/
section
variable {prog : Program} {w : World} {A : Around} {E : Value → Shared → Prop} {s : Shared} {K : Frag}

/-! the whole heap as the ledger: makes every rule that writes through a ledger a rule over any heap -/
end
end Att

namespace L2
open PySem PySem.Spec PyProof.Rows

end L2

namespace L2
open PySem PySem.Spec PyProof.Rows

end L2

/- THE LAST THEOREM (shape; LID, My.* are yours):
   My.Adr: a structure of the addresses that your layer names (classes, functions); My.Txt K t: a structure (Prop) of the equations over K;
   My.txt_mk : {K} {implicit addresses ..} (e1 : nsIn K mainGlobals "law" = some (some (.ref f))) (e2 : K.lookup f = some ⟨oc, od, .func (fnOf "law" "law" params body scope dV kV doc pm an cdv ct), sl⟩) (e3 : codeIn K cdv "law" = true) .. : ∃ t, My.Txt K t

set_option maxRecDepth 100000 in
set_option maxHeartbeats 0 in
theorem PySem.Challenge.cw_LID_holds : PySem.Challenge.rw_LID.Holds := by
  w_on; o_law; k_head; (case hw => w_witness2)
  k_fill
  refine L2.walk_of (l := PySem.Challenge.rw_LID) (n := 63) (k := 40) (x := "script") (CX := fun w => ..) (sp := fun _ => My.sp_law) rfl (by decide) rfl ⟨rfl, by decide, by decide⟩ (fun w h Y => PySem.W.kIn_of Y) ?F ?S ?C
  case F =>
    intro w mg fa h KX G hmg
    have T : ∃ t, My.Txt (L2.KOf KX) t := by
      dsimp only [L2.KOf]                          -- K must stand as «<heap const> w.params» for k_is
      refine' My.txt_mk ?e1 ?e2 ?e3 ..
      (case e1 => PySem.W.k_is)                    -- in the order: a name -> its address -> its object -> its parts
      (case e2 => PySem.W.k_is)
      ..
    obtain ⟨t, T⟩ := T
    have e0 := hmg.symm.trans (PySem.W.mg_of KX G T.law)
    cases e0                                       -- fa is the law's own address
    exact ⟨_, fun s u => .of_eq rfl, fun base kb nb => My.law_fn T kb nb⟩     -- if «.of_eq rfl» comes too early: refine' ⟨_, ?b, fun base kb nb => My.law_fn T kb nb⟩; exact fun s u => .of_eq rfl
  case S => exact fun w H a ns hl hO hS => ..
  case C => exact ..
(the tactic k_is has no namespace: write k_is) -/

/-! SHORT WORDS over the layer: a def of the text, its body, what a loop and a test want. -/
namespace L2
open PySem PySem.Spec PyProof.Rows

/-! ### the text by places -/
/-! ### no exception leaves a def -/
/-! ### a def (or method) of the text as it stands behind the top -/
section
variable {P : Program} {w : World} {K : PySem.W.Frag} {mg : Str → Option Value} {base : Heap}
end
/-! ### expressions in short: the name that stands in the i-th slot -/
section
variable {X : Cx}
/-- len of a dict -/
theorem call_lenD : CallR X (.builtin "len") (fun xs H Q => ∃ a kvs, xs = [V.ref a] ∧ H a = some (.dK kvs) ∧ Q (.int kvs.length) H) := by
  intro pins s σ H xs us Q I r h
  obtain ⟨a, kvs, rfl, ha, q⟩ := h
  obtain ⟨u, rfl, ru⟩ := vals1 r
  cases ru
  exact d_len I (.inl ha) fun t s' I' => ⟨.int kvs.length, H, I', ⟨t, rfl⟩, q⟩
end

/-! ### tests -/
/-! ### heaps -/
/-! ### a dict's pairs: keys that differ -/
section
variable {κ : Type} [DecidableEq κ]
theorem valV_not {kvs : List (κ × V)} {k : κ} (h : valV kvs k = none) : ¬ k ∈ kvs.map (·.1) := by
  intro m
  obtain ⟨p, hp, e⟩ := List.mem_map.mp m
  have q : (kvs.any fun kv => decide (kv.1 = k)) = true := List.any_eq_true.mpr ⟨p, hp, decide_eq_true e⟩
  rw [valV_any, h] at q
  exact absurd q (by simp)
theorem valV_in {kvs : List (κ × V)} {k : κ} {v : V} (h : valV kvs k = some v) : k ∈ kvs.map (·.1) := by
  have q : (kvs.any fun kv => decide (kv.1 = k)) = true := by
    rw [valV_any, h]
    all_goals rfl
  obtain ⟨p, hp, e⟩ := List.any_eq_true.mp q
  exact List.mem_map.mpr ⟨p, hp, of_decide_eq_true e⟩
theorem nd_snoc : ∀ {l : List κ} {k : κ}, l.Nodup → ¬ k ∈ l → (l ++ [k]).Nodup
  | [], k, _, _ => by simp
  | a :: r, k, h, hk => by
    obtain ⟨h1, h2⟩ := List.nodup_cons.mp h
    show (a :: (r ++ [k])).Nodup
    refine List.nodup_cons.mpr ⟨fun m => ?_, nd_snoc h2 fun m => hk (List.mem_cons.mpr (Or.inr m))⟩
    rcases List.mem_append.mp m with q | q
    · exact h1 q
    · exact hk (List.mem_cons.mpr (Or.inl (List.mem_singleton.mp q).symm))
theorem nd_putK {kvs : List (κ × V)} {k : κ} (v : V) (hn : (kvs.map (·.1)).Nodup) (h : valV kvs k = none) : ((putK kvs k v).map (·.1)).Nodup := by
  rw [putK_new v h, List.map_append]
  exact nd_snoc hn (valV_not h)
theorem dropK_pos {p : κ × V} {r : List (κ × V)} {k : κ} (e : p.1 = k) : dropK (p :: r) k = dropK r k := by
  unfold dropK
  rw [List.filter_cons, if_neg (by simp [e])]
theorem dropK_neg {p : κ × V} {r : List (κ × V)} {k : κ} (e : ¬ p.1 = k) : dropK (p :: r) k = p :: dropK r k := by
  unfold dropK
  rw [List.filter_cons, if_pos (by simp [e])]
theorem dropK_no : ∀ {kvs : List (κ × V)} {k : κ}, ¬ k ∈ kvs.map (·.1) → dropK kvs k = kvs
  | [], _, _ => rfl
  | p :: r, k, h => by
    have h' : ¬ k ∈ r.map (·.1) := fun m => by
      obtain ⟨q, hq, e⟩ := List.mem_map.mp m
      exact h (List.mem_map.mpr ⟨q, List.mem_cons.mpr (Or.inr hq), e⟩)
    rw [dropK_neg fun e => h (List.mem_map.mpr ⟨p, List.mem_cons.mpr (Or.inl rfl), e⟩), dropK_no h']
theorem dropK_mem {kvs : List (κ × V)} {k : κ} {p : κ × V} (h : p ∈ dropK kvs k) : p ∈ kvs := (List.mem_filter.mp h).1
theorem nd_dropK : ∀ {kvs : List (κ × V)} {k : κ}, (kvs.map (·.1)).Nodup → ((dropK kvs k).map (·.1)).Nodup
  | [], _, _ => List.nodup_nil
  | p :: r, k, h => by
    have h : (p.1 :: r.map (·.1)).Nodup := h
    obtain ⟨h1, h2⟩ := List.nodup_cons.mp h
    by_cases e : p.1 = k
    · rw [dropK_pos e]
      exact nd_dropK h2
    · rw [dropK_neg e]
      show (p.1 :: (dropK r k).map (·.1)).Nodup
      refine List.nodup_cons.mpr ⟨fun m => h1 ?_, nd_dropK h2⟩
      obtain ⟨q, hq, eq⟩ := List.mem_map.mp m
      exact List.mem_map.mpr ⟨q, dropK_mem hq, eq⟩
theorem dropK_len : ∀ {kvs : List (κ × V)} {k : κ}, (kvs.map (·.1)).Nodup → k ∈ kvs.map (·.1) → (dropK kvs k).length + 1 = kvs.length
  | [], _, _, m => by simp at m
  | p :: r, k, h, m => by
    have h : (p.1 :: r.map (·.1)).Nodup := h
    have m : k = p.1 ∨ k ∈ r.map (·.1) := List.mem_cons.mp m
    obtain ⟨h1, h2⟩ := List.nodup_cons.mp h
    by_cases e : p.1 = k
    · subst e
      rw [dropK_pos rfl, dropK_no h1]
      all_goals rfl
    · have m' : k ∈ r.map (·.1) := m.resolve_left fun z => e z.symm
      have q := dropK_len h2 m'
      rw [dropK_neg e, List.length_cons, List.length_cons]
      omega
end
end L2


set_option Elab.async false
set_option linter.all false
set_option maxRecDepth 100000
set_option maxHeartbeats 4000000
/-! ### a def of the text as it is called by its name -/
namespace L2
open PySem PySem.Spec PyProof.Rows
def Fn (P : Program) (w : World) (K : PySem.W.Frag) (mg : Str → Option Value) (base : Heap) (k : Nat) (x : Str) (ps : List Str) (sp : Sp) : Prop :=
  ∃ (f : Addr) (fd : FuncData), FnOk P w K mg base CX0 k f fd ps sp ∧ Binds K fd ps [] ∧ PySem.W.keepIn K (.ref f) = true ∧ mg x = some (.ref f)
section
variable {X : Cx} {k : Nat} {x : Str} {ps : List Str} {sp : Sp} {p pos : Pos} {e : Expr} {es : List Expr} {t : TA}
theorem pe_callG (F : Fn X.prog X.w X.K X.mg X.base k x ps sp) (hr : Room k X.A) (hg : Gl X x) (ha : PA X (e :: es) t) (hdb : (x == ("__debug__" : Str)) = false := by decide)
    (he : starEach (e :: es) X.env = (false, eval e X.env) :: starEach es X.env := by rfl) (hpl : (backTo pos (starEach es X.env)).any (·.1) = false := by rfl) :
    PE X (.Call (.Name x p) (e :: es) [] pos) (tCall sp [] E0 t) := by
  obtain ⟨f, fd, G, b, kp, m⟩ := F
  exact pe_call G hr hg m kp b .nil pass0 ha hdb he hpl
theorem pe_callG0 (F : Fn X.prog X.w X.K X.mg X.base k x ps sp) (hr : Room k X.A) (hg : Gl X x) (hdb : (x == ("__debug__" : Str)) = false := by decide) :
    PE X (.Call (.Name x p) [] [] pos) (tCall sp [] E0 tNil) := by
  obtain ⟨f, fd, G, b, kp, m⟩ := F
  exact pe_call0 G hr hg m kp b .nil pass0 hdb
end
theorem hu64 {A : Around} {k : Nat} (hr : Room k A) : A.units + 64 < cLine := hr.units
theorem bt_int : bootBuiltins "int" = some (.type "int") := by decide +kernel
theorem bt_bool : bootBuiltins "bool" = some (.type "bool") := by decide +kernel
theorem bt_list : bootBuiltins "list" = some (.type "list") := by decide +kernel
theorem bt_tuple : bootBuiltins "tuple" = some (.type "tuple") := by decide +kernel
theorem bt_dict : bootBuiltins "dict" = some (.type "dict") := by decide +kernel
theorem bt_str : bootBuiltins "str" = some (.type "str") := by decide +kernel
theorem bt_len : bootBuiltins "len" = some (.builtin "len") := by decide +kernel
theorem bt_isinstance : bootBuiltins "isinstance" = some (.builtin "isinstance") := by decide +kernel
theorem bt_sorted : bootBuiltins "sorted" = some (.builtin "sorted") := by decide +kernel
theorem bt_min : bootBuiltins "min" = some (.builtin "min") := by decide +kernel
theorem bt_max : bootBuiltins "max" = some (.builtin "max") := by decide +kernel
/-! ### isinstance, decided -/
theorem kit_same (K : PySem.W.Frag) (T : String) : PySem.W.kitOne K (.type T) (.type T) = some true := by
  unfold PySem.W.kitOne
  rw [if_pos (beq_self_eq_true _)]
end L2

set_option Elab.async false
set_option linter.all false
set_option maxRecDepth 100000
set_option maxHeartbeats 4000000
namespace L2
open PySem PySem.Spec PyProof.Rows

/-! ### data of the call's own: tuples of ints, lists of these -/
def Tp (H : Hp) (v : V) (ns : List Int) : Prop := ∃ p, v = .ref p ∧ H p = some (.tup (ns.map V.int))
abbrev Tps (H : Hp) (vs : List V) (nss : List (List Int)) : Prop := Paired (Tp H) vs nss
theorem Tp.mono {H H' : Hp} {v : V} {ns : List Int} (s : Same H H') (t : Tp H v ns) : Tp H' v ns := let ⟨p, e, h⟩ := t; ⟨p, e, s _ _ h⟩
theorem Tps.mono {H H' : Hp} {vs : List V} {nss : List (List Int)} (s : Same H H') (t : Tps H vs nss) : Tps H' vs nss := Paired.mapP t fun _ _ z => z.mono s
theorem Same.new {H : Hp} {p : Addr} (h : H p = none) (o : HO) : Same H (upd H p o) := fun b u q => by rw [upd_ne (ne_of_none q h)]; exact q
/-- a new object, the heap behind it a letter -/
theorem gen {H : Hp} {p : Addr} (h : H p = none) (o : HO) : ∃ H', H' = upd H p o ∧ Same H H' ∧ H' p = some o := ⟨_, rfl, Same.new h o, upd_same⟩
theorem map_int_inj : ∀ {a b : List Int}, a.map V.int = b.map V.int → a = b
  | [], [], _ => rfl
  | [], _ :: _, h => by cases h
  | _ :: _, [], h => by cases h
  | x :: a, y :: b, h => by
    rw [List.map_cons, List.map_cons] at h
    injection h with h1 h2
    injection h1 with h1
    rw [h1, map_int_inj h2]
theorem Tp.inj {H : Hp} {v : V} {ns ms : List Int} (a : Tp H v ns) (b : Tp H v ms) : ns = ms := by
  obtain ⟨p, rfl, h⟩ := a
  obtain ⟨q, e, h'⟩ := b
  cases e
  rw [h] at h'
  injection h' with h'
  injection h' with h'
  exact map_int_inj h'

/-! ### what a value reads as -/
def RdD (X : Cx) (H : Hp) (v : V) (d : PyData) : Prop := ∀ (pins : List (Addr × Obj)) (σ : St) (s : Shared) (u : Value), Inv X pins σ H s → RelV v u → ∃ as, Reads s.heap u d as
section
variable {X : Cx} {H : Hp}
theorem rd_int (i : Int) : RdD X H (.int i) (.int i) := fun _ _ s u _ r => by
  obtain ⟨t, rfl⟩ := (show ∃ t, u = Value.int i t from r)
  exact ⟨_, .int i t⟩
theorem rd_bl (b : Bool) : RdD X H (.bl b) (.bool b) := fun _ _ s u _ r => by
  cases (show u = Value.bool b from r)
  exact ⟨_, .bool b⟩
theorem rd_non : RdD X H .non .none := fun _ _ s u _ r => by
  cases (show u = Value.none from r)
  exact ⟨_, .none⟩
theorem rd_str (x : Str) : RdD X H (.str x) (.str x) := fun _ _ s u _ r => by
  obtain ⟨t, rfl⟩ := (show ∃ t, u = Value.str x t from r)
  exact ⟨_, .str x t⟩
theorem rdAll {pins : List (Addr × Obj)} {σ : St} {s : Shared} (I : Inv X pins σ H s) : ∀ {xs : List V} {ds : List PyData} {us : List Value}, Paired (RdD X H) xs ds → Vals xs us → ∃ as, ReadsAll s.heap us ds as
  | _, _, _, .nil, .nil => ⟨_, .nil⟩
  | _, _, _, .cons r t, .cons q z => by
    obtain ⟨as, h1⟩ := r pins σ s _ I q
    obtain ⟨bs, h2⟩ := rdAll I t z
    exact ⟨_, .cons h1 h2⟩
theorem rd_tup {p : Addr} {xs : List V} {ds : List PyData} (h : SqT X.K H p xs) (r : Paired (RdD X H) xs ds) : RdD X H (.ref p) (.tuple ds) := fun pins σ s u I ru => by
  cases (show u = Value.ref p from ru)
  obtain ⟨its, rv, ⟨o, ho, hc, n, hd⟩, _⟩ := I.tuple h
  obtain ⟨as, q⟩ := rdAll I r rv
  exact ⟨_, .tuple ho hc hd (by simpa using q)⟩
theorem rd_lst {p : Addr} {xs : List V} {ds : List PyData} (h : SqL X.K H p xs) (r : Paired (RdD X H) xs ds) : RdD X H (.ref p) (.list ds) := fun pins σ s u I ru => by
  cases (show u = Value.ref p from ru)
  obtain ⟨its, rv, ⟨o, n, ho, hc, _, hd⟩, _⟩ := I.list h
  obtain ⟨as, q⟩ := rdAll I r rv
  exact ⟨_, .list ho hc hd (by simpa using q)⟩
theorem rd_ints : ∀ ns : List Int, Paired (RdD X H) (ns.map V.int) (ns.map PyData.int)
  | [] => .nil
  | i :: r => .cons (rd_int i) (rd_ints r)
def tD (ns : List Int) : PyData := .tuple (ns.map .int)
def lD (ns : List Int) : PyData := .list (ns.map .int)
def ltD (nss : List (List Int)) : PyData := .list (nss.map tD)
def lltD (n3 : List (List (List Int))) : PyData := .list (n3.map ltD)
theorem rd_tp {v : V} {ns : List Int} (h : Tp H v ns) : RdD X H v (tD ns) := by
  obtain ⟨p, rfl, h⟩ := h
  exact rd_tup (SqT.of h) (rd_ints ns)
theorem rd_li {p : Addr} {ns : List Int} (h : SqL X.K H p (ns.map V.int)) : RdD X H (.ref p) (lD ns) := rd_lst h (rd_ints ns)
theorem rd_tps : ∀ {vs : List V} {nss : List (List Int)}, Tps H vs nss → Paired (RdD X H) vs (nss.map tD)
  | _, _, .nil => .nil
  | _, _, .cons r t => .cons (rd_tp r) (rd_tps t)
theorem rd_lt {p : Addr} {vs : List V} {nss : List (List Int)} (h : SqL X.K H p vs) (r : Tps H vs nss) : RdD X H (.ref p) (ltD nss) := rd_lst h (rd_tps r)
/-- a list of tuples of ints -/
def Lt (H : Hp) (v : V) (nss : List (List Int)) : Prop := ∃ p vs, v = .ref p ∧ H p = some (.lst vs) ∧ Tps H vs nss
abbrev Lts (H : Hp) (vs : List V) (n3 : List (List (List Int))) : Prop := Paired (Lt H) vs n3
theorem Lt.mono {H H' : Hp} {v : V} {nss : List (List Int)} (s : Same H H') (t : Lt H v nss) : Lt H' v nss := let ⟨p, vs, e, h, r⟩ := t; ⟨p, vs, e, s _ _ h, Tps.mono s r⟩
theorem rd_Lt {v : V} {nss : List (List Int)} (h : Lt H v nss) : RdD X H v (ltD nss) := by
  obtain ⟨p, vs, rfl, h, r⟩ := h
  exact rd_lt (SqL.of h) r
theorem rd_lts : ∀ {vs : List V} {n3 : List (List (List Int))}, Lts H vs n3 → Paired (RdD X H) vs (n3.map ltD)
  | _, _, .nil => .nil
  | _, _, .cons r t => .cons (rd_Lt r) (rd_lts t)
theorem rd_llt {p : Addr} {vs : List V} {n3 : List (List (List Int))} (h : SqL X.K H p vs) (r : Lts H vs n3) : RdD X H (.ref p) (lltD n3) := rd_lst h (rd_lts r)
end
/-! their shapes -/
theorem canI : ∀ ns : List Int, PyData.canLayAll0 (ns.map PyData.int) = true
  | [] => rfl
  | _ :: r => by simp [PyData.canLayAll0, PyData.canLay0, canI r]
theorem depI : ∀ ns : List Int, PyData.depthAll (ns.map PyData.int) = 0
  | [] => rfl
  | _ :: r => by simp [PyData.depthAll, PyData.depth, depI r]
theorem can_tD (ns : List Int) : (tD ns).canLay0 = true := by simp [tD, PyData.canLay0, canI]
theorem dep_tD (ns : List Int) : (tD ns).depth ≤ 1 := by simp [tD, PyData.depth, depI]
theorem canT : ∀ nss : List (List Int), PyData.canLayAll0 (nss.map tD) = true
  | [] => rfl
  | x :: r => by simp [PyData.canLayAll0, can_tD x, canT r]
theorem depT : ∀ nss : List (List Int), PyData.depthAll (nss.map tD) ≤ 1
  | [] => by simp [PyData.depthAll]
  | x :: r => by
    have h1 := dep_tD x
    have h2 := depT r
    simp only [List.map_cons, PyData.depthAll]
    omega
theorem can_ltD (nss : List (List Int)) : (ltD nss).canLay0 = true := by simp [ltD, PyData.canLay0, canT]
theorem dep_ltD (nss : List (List Int)) : (ltD nss).depth ≤ 2 := by
  have h := depT nss
  simp only [ltD, PyData.depth]
  omega
theorem canLT : ∀ n3 : List (List (List Int)), PyData.canLayAll0 (n3.map ltD) = true
  | [] => rfl
  | x :: r => by simp [PyData.canLayAll0, can_ltD x, canLT r]
theorem depLT : ∀ n3 : List (List (List Int)), PyData.depthAll (n3.map ltD) ≤ 2
  | [] => by simp [PyData.depthAll]
  | x :: r => by
    have h1 := dep_ltD x
    have h2 := depLT r
    simp only [List.map_cons, PyData.depthAll]
    omega
theorem shaped_of {d : PyData} (h1 : d.canLay0 = true) (h2 : d.depth ≤ 64) : SeqAt.shaped d = true := by simp [SeqAt.shaped, h1, h2]
theorem sh_tD (ns : List Int) : SeqAt.shaped (tD ns) = true := shaped_of (can_tD ns) (Nat.le_trans (dep_tD ns) (by decide))
theorem sh_lD (ns : List Int) : SeqAt.shaped (lD ns) = true := shaped_of (by simp [lD, PyData.canLay0, canI]) (by simp [lD, PyData.depth, depI])
theorem sh_ltD (nss : List (List Int)) : SeqAt.shaped (ltD nss) = true := shaped_of (can_ltD nss) (Nat.le_trans (dep_ltD nss) (by decide))
theorem sh_lltD (n3 : List (List (List Int))) : SeqAt.shaped (lltD n3) = true := shaped_of (by simp [lltD, PyData.canLay0, canLT]) (by have := depLT n3; simp only [lltD, PyData.depth]; omega)
theorem eqvI : ∀ ns ms : List Int, PyData.eqvAll (ns.map PyData.int) (ms.map PyData.int) = decide (ns = ms)
  | [], [] => by simp [PyData.eqvAll]
  | [], _ :: _ => by simp [PyData.eqvAll]
  | _ :: _, [] => by simp [PyData.eqvAll]
  | a :: r, b :: t => by
    simp only [List.map_cons, PyData.eqvAll, PyData.eqv, eqvI r t]
    by_cases h : a = b <;> by_cases h' : r = t <;> simp [h, h']
theorem eqv_tD (a b : List Int) : PyData.eqv (tD a) (tD b) = decide (a = b) := by simp only [tD, PyData.eqv]; exact eqvI a b
theorem eqv_lD (a b : List Int) : PyData.eqv (lD a) (lD b) = decide (a = b) := by simp only [lD, PyData.eqv]; exact eqvI a b
theorem eqvT : ∀ a b : List (List Int), PyData.eqvAll (a.map tD) (b.map tD) = decide (a = b)
  | [], [] => by simp [PyData.eqvAll]
  | [], _ :: _ => by simp [PyData.eqvAll]
  | _ :: _, [] => by simp [PyData.eqvAll]
  | a :: r, b :: t => by
    simp only [List.map_cons, PyData.eqvAll, eqv_tD, eqvT r t]
    by_cases h : a = b <;> by_cases h' : r = t <;> simp [h, h']
theorem eqv_ltD (a b : List (List Int)) : PyData.eqv (ltD a) (ltD b) = decide (a = b) := by simp only [ltD, PyData.eqv]; exact eqvT a b
theorem eqvLT : ∀ a b : List (List (List Int)), PyData.eqvAll (a.map ltD) (b.map ltD) = decide (a = b)
  | [], [] => by simp [PyData.eqvAll]
  | [], _ :: _ => by simp [PyData.eqvAll]
  | _ :: _, [] => by simp [PyData.eqvAll]
  | a :: r, b :: t => by
    simp only [List.map_cons, PyData.eqvAll, eqv_ltD, eqvLT r t]
    by_cases h : a = b <;> by_cases h' : r = t <;> simp [h, h']
theorem eqv_lltD (a b : List (List (List Int))) : PyData.eqv (lltD a) (lltD b) = decide (a = b) := by simp only [lltD, PyData.eqv]; exact eqvLT a b
theorem any_tD : ∀ (nss : List (List Int)) (ns : List Int), ((nss.map tD).any fun y => PyData.eqv y (tD ns)) = decide (ns ∈ nss)
  | [], ns => by simp
  | x :: r, ns => by
    rw [List.map_cons, List.any_cons, eqv_tD, any_tD r ns]
    by_cases h : x = ns <;> by_cases h' : ns ∈ r <;> simp [h, h', eq_comm]

/-! ### ==, !=, in, not in of data -/
section
variable {X : Cx}
theorem op_eqD (hu : X.A.units + 64 < cLine) : OpR X (compareOp .Eq) (fun x y H Q => ∃ d e, RdD X H x d ∧ RdD X H y e ∧ SeqAt.shaped d = true ∧ SeqAt.shaped e = true ∧ Q (.bl (PyData.eqv d e)) H) := by
  intro pins s σ H x y v u Q I rx ry h
  obtain ⟨d, e, hd, he, sd, se, q⟩ := h
  obtain ⟨as, ra⟩ := hd pins σ s v I rx
  obtain ⟨bs, rb⟩ := he pins σ s u I ry
  exact eq_dataH ra rb sd se hu ⟨.bl _, H, I, rfl, q⟩
theorem op_neD (hu : X.A.units + 64 < cLine) : OpR X (compareOp .NotEq) (fun x y H Q => ∃ d e, RdD X H x d ∧ RdD X H y e ∧ SeqAt.shaped d = true ∧ SeqAt.shaped e = true ∧ Q (.bl (!PyData.eqv d e)) H) := by
  intro pins s σ H x y v u Q I rx ry h
  obtain ⟨d, e, hd, he, sd, se, q⟩ := h
  obtain ⟨as, ra⟩ := hd pins σ s v I rx
  obtain ⟨bs, rb⟩ := he pins σ s u I ry
  exact ne_dataH ra rb sd se hu ⟨.bl _, H, I, rfl, q⟩
/-- a tuple of ints in a list of such -/
theorem op_inT (hu : X.A.units + 64 < cLine) : OpR X (compareOp .In) (fun x y H Q => ∃ ns nss, Tp H x ns ∧ RdD X H y (ltD nss) ∧ Q (.bl (decide (ns ∈ nss))) H) := by
  intro pins s σ H x y v u Q I rx ry h
  obtain ⟨ns, nss, hd, he, q⟩ := h
  obtain ⟨as, ra⟩ := rd_tp (X := X) hd pins σ s v I rx
  obtain ⟨bs, rb⟩ := he pins σ s u I ry
  refine SeqAt.in_list_reads rb ra (canT nss) (can_tD ns) (by have := depT nss; have := dep_tD ns; omega) ?_
  rw [any_tD]
  exact ⟨.bl _, H, I, rfl, q⟩
theorem op_notInT (hu : X.A.units + 64 < cLine) : OpR X (compareOp .NotIn) (fun x y H Q => ∃ ns nss, Tp H x ns ∧ RdD X H y (ltD nss) ∧ Q (.bl (!decide (ns ∈ nss))) H) := by
  intro pins s σ H x y v u Q I rx ry h
  obtain ⟨ns, nss, hd, he, q⟩ := h
  obtain ⟨as, ra⟩ := rd_tp (X := X) hd pins σ s v I rx
  obtain ⟨bs, rb⟩ := he pins σ s u I ry
  refine SeqAt.notIn_list_reads rb ra (canT nss) (can_tD ns) (by have := depT nss; have := dep_tD ns; omega) ?_
  rw [any_tD]
  exact ⟨.bl _, H, I, rfl, q⟩
/-- tuples, lists of ints, lists of tuples, by data -/
def rEqT : R2 := fun x y H Q => ∃ ns ms, Tp H x ns ∧ Tp H y ms ∧ Q (.bl (decide (ns = ms))) H
def rNeT : R2 := fun x y H Q => ∃ ns ms, Tp H x ns ∧ Tp H y ms ∧ Q (.bl (!decide (ns = ms))) H
theorem op_eqT (hu : X.A.units + 64 < cLine) : OpR X (compareOp .Eq) rEqT := fun pins s σ H x y v u Q I rx ry ⟨ns, ms, a, b, q⟩ =>
  op_eqD hu pins s σ H x y v u Q I rx ry ⟨_, _, rd_tp a, rd_tp b, sh_tD _, sh_tD _, by rw [eqv_tD]; exact q⟩
theorem op_neT (hu : X.A.units + 64 < cLine) : OpR X (compareOp .NotEq) rNeT := fun pins s σ H x y v u Q I rx ry ⟨ns, ms, a, b, q⟩ =>
  op_neD hu pins s σ H x y v u Q I rx ry ⟨_, _, rd_tp a, rd_tp b, sh_tD _, sh_tD _, by rw [eqv_tD]; exact q⟩
def rEqLT (X : Cx) : R2 := fun x y H Q => ∃ a b, RdD X H x (ltD a) ∧ RdD X H y (ltD b) ∧ Q (.bl (decide (a = b))) H
def rNeLT (X : Cx) : R2 := fun x y H Q => ∃ a b, RdD X H x (ltD a) ∧ RdD X H y (ltD b) ∧ Q (.bl (!decide (a = b))) H
theorem op_eqLT (hu : X.A.units + 64 < cLine) : OpR X (compareOp .Eq) (rEqLT X) := fun pins s σ H x y v u Q I rx ry ⟨ns, ms, a, b, q⟩ =>
  op_eqD hu pins s σ H x y v u Q I rx ry ⟨_, _, a, b, sh_ltD _, sh_ltD _, by rw [eqv_ltD]; exact q⟩
theorem op_neLT (hu : X.A.units + 64 < cLine) : OpR X (compareOp .NotEq) (rNeLT X) := fun pins s σ H x y v u Q I rx ry ⟨ns, ms, a, b, q⟩ =>
  op_neD hu pins s σ H x y v u Q I rx ry ⟨_, _, a, b, sh_ltD _, sh_ltD _, by rw [eqv_ltD]; exact q⟩
def rEqLI (X : Cx) : R2 := fun x y H Q => ∃ a b, RdD X H x (lD a) ∧ RdD X H y (lD b) ∧ Q (.bl (decide (a = b))) H
def rNeLI (X : Cx) : R2 := fun x y H Q => ∃ a b, RdD X H x (lD a) ∧ RdD X H y (lD b) ∧ Q (.bl (!decide (a = b))) H
theorem op_eqLI (hu : X.A.units + 64 < cLine) : OpR X (compareOp .Eq) (rEqLI X) := fun pins s σ H x y v u Q I rx ry ⟨ns, ms, a, b, q⟩ =>
  op_eqD hu pins s σ H x y v u Q I rx ry ⟨_, _, a, b, sh_lD _, sh_lD _, by rw [eqv_lD]; exact q⟩
theorem op_neLI (hu : X.A.units + 64 < cLine) : OpR X (compareOp .NotEq) (rNeLI X) := fun pins s σ H x y v u Q I rx ry ⟨ns, ms, a, b, q⟩ =>
  op_neD hu pins s σ H x y v u Q I rx ry ⟨_, _, a, b, sh_lD _, sh_lD _, by rw [eqv_lD]; exact q⟩
/-! ### is True, is not True; isinstance -/
theorem op_isB : OpR X (compareOp .Is) (fun x y H Q => ∃ a b, x = .bl a ∧ y = .bl b ∧ Q (.bl (a == b)) H) := by
  intro pins s σ H x y v u Q I rx ry h
  obtain ⟨a, b, rfl, rfl, q⟩ := h
  cases (show v = Value.bool a from rx)
  cases (show u = Value.bool b from ry)
  refine wpAny_is_plain (by cases a <;> cases b <;> rfl) (fin_bl I q ?_)
  cases a <;> cases b <;> rfl
theorem op_isNotB : OpR X (compareOp .IsNot) (fun x y H Q => ∃ a b, x = .bl a ∧ y = .bl b ∧ Q (.bl (!(a == b))) H) := by
  intro pins s σ H x y v u Q I rx ry h
  obtain ⟨a, b, rfl, rfl, q⟩ := h
  cases (show v = Value.bool a from rx)
  cases (show u = Value.bool b from ry)
  refine wpAny_isNot_plain (by cases a <;> cases b <;> rfl) (fin_bl I q ?_)
  cases a <;> cases b <;> rfl
theorem call_isinst : CallR X (.builtin "isinstance") (fun xs H Q => ∃ x t n b, xs = [x, .ty n] ∧ TyOf X.K H x t ∧ PySem.W.kitOne X.K t (.type n) = some b ∧ Q (.bl b) H) := by
  intro pins s σ H xs us Q I r h
  obtain ⟨x, t, n, b, rfl, ty, e, q⟩ := h
  obtain ⟨u, w', rfl, ru, rw'⟩ := vals2 r
  cases (show w' = Value.type n from rw')
  exact isinst_ok I ru ty e fun tk => ⟨.bl b, H, I.tok tk, rfl, q⟩
end
/-! ### records of ours have turned, and a new object is laid and tracked -/
section
variable {X : Cx} {pins : List (Addr × Obj)} {σ : List (Option V)} {H : Hp} {s : Shared} {h' : Heap}
theorem Inv.turnedNew {t' : Nat} {ch : List Addr} {p : Addr} {o : HO} (I : Inv X pins σ H s) (hf : ∀ b ∈ ch, FpOk X pins H b) (k : ∀ b o, b ∉ ch → s.heap.get? b = some o → h'.get? b = some o)
    (hp : s.heap.objs.size ≤ p) (new : ObjOk X.prog X.w (upd H p o) h' p o) : Inv X pins σ (upd H p o) { s with heap := h', toks := t' } := by
  have hn : H p = none := I.hok.fresh hp
  have nch : ∀ b u, H b = some u → b ∉ ch := fun b u e z => by rw [(hf b z).1] at e; cases e
  refine I.step (g' := s.gens) (d' := s.drawn) (ch := ch) (fun b hb => ?_) (fun b o _ _ hc e _ => k b o hc e) (fun b o _ _ hc e _ => ⟨o.slots, k b o hc e⟩) (fun b o hc e n => ?_) (fun b o hc e => ⟨o, k b o hc e⟩)
    (fun b xs e => by rw [upd_ne (ne_of_none e hn)]; exact e) (fun b o u e => by rw [upd_ne (ne_of_none e hn)]; exact e) (fun b ps e => ⟨#[], by rw [upd_ne (ne_of_none e hn), e]; simp⟩) (fun m hm => ?_) ?_ I.bare
  · obtain ⟨_, f1, _, f3, f4, f5⟩ := hf b hb
    exact ⟨f3, f1, f4, f5⟩
  · rw [upd_ne (Nat.ne_of_lt (Nat.lt_of_lt_of_le (Heap.lt_size e) hp))]; exact n
  · obtain ⟨o, es, ep, ho, r⟩ := hm
    exact ⟨o, es, ep, k _ o (fun z => (hf _ z).2.1 rfl) ho, r⟩
  · intro b u e
    by_cases hb : b = p
    · subst hb; rw [upd_same] at e; cases e; exact new
    · rw [upd_ne hb] at e
      refine (I.hok b u e).stay (fun c v hc q => k c v ?_ q) (fun c q => by rw [upd_ne (ne_of_none q hn)]; exact q) fun c xs q => by rw [upd_ne (ne_of_none q hn)]; exact q
      rcases hc with z | z
      · rw [z]; exact nch b u e
      · exact nch c _ z
end
/-! ### enumerate of a list -/
def Ite (K : PySem.W.Frag) (a : Addr) : It :=
  ⟨fun i H => ∃ xs x, SqL K H a xs ∧ xs[i]? = some x, fun i H x H' => ∃ p y, H p = none ∧ x = .ref p ∧ H' = upd H p (.tup [.int (i : Int), y]) ∧ ∀ xs, SqL K H a xs → xs[i]? = some y, fun i H => ∃ xs, SqL K H a xs ∧ xs.length ≤ i⟩
theorem turn_enum {P : Program} {w : World} {K : PySem.W.Frag} {elts : List Expr} {x1 : Nat} {pos : Pos} (a e it : Addr) (hne : e ≠ it) :
    Turn P w K (.Tuple elts x1 pos) (Ite K a) [e, it] e (fun i h => (∃ old, IsEnum h e it i old) ∧ h.IsListIter it a i) where
  mem := by simp
  obj := fun i h st b hb => by
    obtain ⟨⟨old, he⟩, hi⟩ := st
    have q : b = e ∨ b = it := by simpa using hb
    rcases q with rfl | rfl
    · exact ⟨_, he, fun v z => by cases z⟩
    · obtain ⟨o, e, c, d⟩ := hi
      exact ⟨o, e, fun v z => by rw [d] at z; cases z⟩
  keep := fun i h h' st k => by
    obtain ⟨⟨old, he⟩, hi⟩ := st
    exact ⟨⟨old, k e (by simp) _ he⟩, hi.at fun o q => k it (by simp) o q⟩
  item := by
    intro X hP hw hK hc i pins s σ H E I hf st hg
    subst hP hw hK
    obtain ⟨⟨old, he⟩, hi⟩ := st
    obtain ⟨xs, x, hq, hx⟩ := hg
    obtain ⟨its, rv, p, hz⟩ := I.list hq
    obtain ⟨u, hu, ru⟩ := rv.get hx
    have lte : e < s.heap.objs.size := Heap.lt_size he
    have lti : it < s.heap.objs.size := by obtain ⟨o, e, _⟩ := hi; exact Heap.lt_size e
    refine wpAny_pyNext_enum_item he hi p.isList (x := u) (by simpa using hu) hne fun h' ho hi' ht hsz hk => ?_
    refine ⟨_, rfl, wpAny_letOwnedTupleGo_enum ho fun h'' he'' sb => ?_⟩
    have hs : ∀ b o, b ∉ [e, it] → s.heap.get? b = some o → h''.get? b = some o := fun b o hb q => (sb.2 b (fun z => hb (by simp [z]))).trans (hk b o (fun z => hb (by simp [z])) (fun z => hb (by simp [z])) q)
    have ht2 : h''.get? s.heap.objs.size = some { cls := .type "tuple", data := .seq #[.int i s.toks, u] } := (sb.2 _ (Nat.ne_of_gt lte)).trans ht
    have I1 := I.turnedNew (t' := s.toks + 1) (ch := [e, it]) (o := .tup [.int (i : Int), x]) hf hs (Nat.le_refl _) ⟨by show 2 ≤ sizeLine; decide, [.int i s.toks, u], .cons ⟨_, rfl⟩ (.cons ru .nil), ⟨_, ht2, rfl, _, rfl⟩⟩
    refine ⟨.ref s.heap.objs.size, _, I1, rfl, ⟨s.heap.objs.size, x, I.hok.fresh (Nat.le_refl _), rfl, rfl, fun ys hy => by rw [I.list_inj hy hq]; exact hx⟩, ⟨⟨u, by simpa using he''⟩, ?_⟩, fun b hb => ?_⟩
    · exact hi'.at fun o q => (sb.2 it (Ne.symm hne)).trans q
    · have q : b = e ∨ b = it := by simpa using hb
      have hlt : b < s.heap.objs.size := by rcases q with rfl | rfl <;> assumption
      rw [upd_ne (Nat.ne_of_lt hlt)]
      exact (hf b hb).1
  done := by
    intro X hP hw hK hc i pins s σ H E I hf st hg
    subst hP hw hK
    obtain ⟨⟨old, he⟩, hi⟩ := st
    obtain ⟨xs, hq, hx⟩ := hg
    obtain ⟨its, rv, p, hz⟩ := I.list hq
    obtain ⟨f0, f1, f2, f3, f4, f5⟩ := hf it (by simp)
    have hl := rv.length
    exact wpAny_pyNext_enum_end (I.ok.hd hc) he hi p.isList (by simp; omega) fun h' eb => ⟨rfl, I.turned (t' := s.toks) (fun b o hb e => eb b o hb e) f0 f1 f3 f4 f5⟩
  self := fun _ _ _ _ _ st h => by
    obtain ⟨⟨old, he⟩, _⟩ := st
    exact wpAny_pyIter_enum he h
section
variable {X : Cx}
def iEnum (K : PySem.W.Frag) (ta : TA) : TI := fun σ H R => ta σ H fun vs H1 => ∃ a xs, vs = [.ref a] ∧ SqL K H1 a xs ∧ R (Ite K a) H1
theorem bt_enumerate : bootBuiltins "enumerate" = some (.type "enumerate") := by decide +kernel
theorem pi_enum {elts : List Expr} {x1 : Nat} {tp : Pos} {a : Expr} {ta : TA} {p pos : Pos} (hg : Gl X "enumerate") (hm : X.mg "enumerate" = none) (ha : PA X [a] ta) (hs : starEach [a] X.env = [(false, eval a X.env)] := by rfl) :
    PI X (.Tuple elts x1 tp) (.Call (.Name "enumerate" p) [a] [] pos) (iEnum X.K ta) := by
  intro pins s σ H R I h
  refine Call_ (ld_blt I hg hm bt_enumerate (PyProof.Rows.callWith_type1 (thn (ha pos pins s σ H _ I h) fun us s1 ⟨vs, H1, I1, r1, q1⟩ => ?_) hs rfl))
  obtain ⟨l, xs, e, hq, q⟩ := q1
  subst e
  cases r1 with
  | cons r rr =>
    cases rr
    cases (show _ = Value.ref l from r)
    obtain ⟨its, rv, p, hz⟩ := I1.list hq
    refine call_enumerate_list p.isList fun h' he hi hsz hk => ?_
    refine wpAny_pyIter_enum he ?_
    have I2 := I1.kept (t' := s1.toks) (h' := h') hk
    refine ⟨s1.heap.objs.size + 1, [s1.heap.objs.size + 1, s1.heap.objs.size], _, _, H1, rfl, I2, turn_enum l _ _ (Nat.succ_ne_self _), ⟨⟨_, he⟩, hi⟩, fun b hb => ?_, q⟩
    have z : b = s1.heap.objs.size + 1 ∨ b = s1.heap.objs.size := by simpa using hb
    have hb2 : s1.heap.objs.size ≤ b := by rcases z with rfl | rfl <;> omega
    exact I1.fpOk hb2 (I1.hok.fresh hb2)
theorem for_enum {K : PySem.W.Frag} {a : Addr} {xs : List V} {g : TG} {tb : TS} {D : Ends} {σ : St} {H : Hp} (Pv : Nat → St → Hp → Prop) (h0 : Pv 0 σ H) (hl : ∀ i σ H, i ≤ xs.length → Pv i σ H → SqL K H a xs)
    (hs : ∀ i x p σ H, xs[i]? = some x → Pv i σ H → H p = none → g (.ref p) σ (upd H p (.tup [.int (i : Int), x])) fun σ2 H2 => tb { D with nx := Pv (i + 1), ct := Pv (i + 1), bk := D.nx } σ2 H2) (hd : ∀ σ H, Pv xs.length σ H → D.nx σ H) :
    ∃ W : Nat → Nat → St → Hp → Prop, (∃ m, W 0 m σ H) ∧ ∀ i m σ H, W i m σ H →
      ((Ite K a).stop i H ∧ D.nx σ H) ∨ ((Ite K a).go i H ∧ ∃ N : St → Hp → Prop, (∀ σ' H', N σ' H' → ∃ m', m' < m ∧ W (i + 1) m' σ' H') ∧ ∀ x H', (Ite K a).yld i H x H' → g x σ H' fun σ2 H2 => tb { D with nx := N, ct := N, bk := D.nx } σ2 H2) := by
  refine ⟨fun i m σ H => m = xs.length - i ∧ i ≤ xs.length ∧ Pv i σ H, ⟨xs.length, by simp, Nat.zero_le _, h0⟩, ?_⟩
  rintro i m σ H ⟨rfl, hi, p⟩
  have q := hl i σ H hi p
  by_cases hlt : i < xs.length
  · refine .inr ⟨⟨xs, xs[i], q, by simp [hlt]⟩, Pv (i + 1), fun σ' H' p' => ⟨xs.length - (i + 1), by omega, rfl, hlt, p'⟩, fun x H' y => ?_⟩
    obtain ⟨r, z, hr, rfl, rfl, y⟩ := y
    exact hs i z r σ _ (y xs q) p hr
  · have e : i = xs.length := by omega
    subst e
    exact .inl ⟨⟨xs, q, Nat.le_refl _⟩, hd σ H p⟩
end
end L2

set_option Elab.async false
set_option linter.all false
set_option maxRecDepth 100000
set_option maxHeartbeats 4000000
namespace Tim
open PySem PyProof.Rows

def gallop' : Bool → Keyed → Array Keyed → Nat → Nat → Nat → StateT SortSt Sem (Option Nat) := sortPriv% PySem.Builtin.gallop
def mergeLo' : Array Keyed → Array Keyed → StateT SortSt Sem (Array Keyed) := sortPriv% PySem.Builtin.mergeLo
def mergeHi' : Array Keyed → Array Keyed → StateT SortSt Sem (Array Keyed) := sortPriv% PySem.Builtin.mergeHi
def setG (st : SortSt) (g : Nat) : SortSt := SortSt.mk' (kindOf st) (arrOf st) (pendingOf st) g (failedOf st)
def beyond' (left : Bool) (key : Keyed) (arr : Array Keyed) (base i : Nat) : StateT SortSt Sem (Option Bool) := do
  let x ← elem' arr (base + i)
  if left then lt' x key else return (← lt' key x).map (!·)
def tailG (left : Bool) (key : Keyed) (arr : Array Keyed) (base n p₀ q₀ : Nat) : StateT SortSt Sem (Option Nat) := do
  let mut p := p₀
  let mut q := q₀
  for _ in [0:n] do
    if p ≥ q then break
    let c := p + (q - p) / 2
    let some yes ← beyond' left key arr base c | return none
    if yes then p := c + 1 else q := c
  return some q
/-- the comparisons among the things of P are told by lt, which is an order -/
structure Cmp (M : Model) (A : Around) (E : Value → Shared → Prop) (s : Shared) (κ : SortKind) (P : Keyed → Prop) (lt : Keyed → Keyed → Bool) : Prop where
  run : ∀ (x y : Keyed) (st : SortSt) (Q : Option Bool → SortSt → Prop), P x → P y → kindOf st = κ → Q (some (lt x y)) st → wpS M A E s (lt' x y) Q st
  asym : ∀ x y, lt x y = true → lt y x = false
  trans : ∀ x y z, lt y x = false → lt z y = false → lt z x = false

section
variable {M : Model} {A : Around} {E : Value → Shared → Prop} {s : Shared} {κ : SortKind} {P : Keyed → Prop} {lt : Keyed → Keyed → Bool}

theorem wpS_elem {arr : Array Keyed} {i : Nat} {x : Keyed} {Q : Keyed → SortSt → Prop} {st : SortSt} (h : arr[i]? = some x) (q : Q x st) : wpS M A E s (elem' arr i) Q st := by
  rw [elem'_eq, h]
  exact wpS_pure q

def bey (lt : Keyed → Keyed → Bool) (left : Bool) (key x : Keyed) : Bool := if left then lt x key else !lt key x

theorem wpS_beyond (C : Cmp M A E s κ P lt) {left : Bool} {key x : Keyed} {arr : Array Keyed} {base i : Nat} {st : SortSt} {Q : Option Bool → SortSt → Prop} (hx : arr[base + i]? = some x) (px : P x) (pk : P key) (hk : kindOf st = κ)
    (q : Q (some (bey lt left key x)) st) : wpS M A E s (beyond' left key arr base i) Q st := by
  unfold beyond'
  refine wpS_bind (wpS_elem hx ?_)
  cases left with
  | true => exact C.run x key st Q px pk hk q
  | false => exact wpS_bind (C.run key x st _ pk px hk (wpS_pure q))

section
variable (C : Cmp M A E s κ P lt) {left : Bool} {key : Keyed} {arr : Array Keyed} {base n hint : Nat} {st : SortSt} {B : Nat → Bool} (hk : kindOf st = κ) (pk : P key)
  (hB : ∀ i, i < n → ∃ x, arr[base + i]? = some x ∧ P x ∧ bey lt left key x = B i) (mono : ∀ i j, i ≤ j → j < n → B j = true → B i = true)
include C hk pk hB mono
theorem wpS_tailG {lo hi : Nat} {Q : Option Nat → SortSt → Prop} (hlh : lo ≤ hi) (hn : hi ≤ n) (h1 : ∀ i, i < lo → B i = true) (h2 : ∀ i, hi ≤ i → i < n → B i = false)
    (h : ∀ k, k ≤ n → (∀ i, i < k → B i = true) → (∀ i, k ≤ i → i < n → B i = false) → Q (some k) st) : wpS M A E s (tailG left key arr base n lo hi) Q st := by
  unfold tailG
  refine wpS_bind (wpS_forRange (fun i (c : Option (Option Nat) × Nat × Nat) st' => st' = st ∧ c.1 = none ∧ c.2.1 ≤ c.2.2 ∧ c.2.2 ≤ n ∧ c.2.2 - c.2.1 + i ≤ n ∧ (∀ i, i < c.2.1 → B i = true) ∧ (∀ i, c.2.2 ≤ i → i < n → B i = false)) ?_ ?_ ⟨rfl, rfl, hlh, hn, by simp only; omega, h1, h2⟩)
  · rintro i ⟨r, lo, hi⟩ st' _ hi' ⟨rfl, rfl, a1, a2, a3, a4, a5⟩
    dsimp only at a1 a2 a3 a4 a5 ⊢
    by_cases hge : lo ≥ hi
    · rw [if_pos hge]
      refine wpS_pure ?_
      have e : lo = hi := by omega
      subst e
      exact wpS_pure (h lo a2 a4 a5)
    · rw [if_neg hge]
      have hm : lo + (hi - lo) / 2 < n := by omega
      obtain ⟨x, hx, px, bx⟩ := hB _ hm
      refine wpS_bind (wpS_beyond C hx px pk hk ?_)
      rw [bx]
      cases hb : B (lo + (hi - lo) / 2) with
      | true =>
        exact wpS_pure ⟨rfl, rfl, by dsimp only; omega, a2, by dsimp only; omega, fun j hj => mono j _ (by dsimp only at hj; omega) hm hb, a5⟩
      | false =>
        refine wpS_pure ⟨rfl, rfl, by dsimp only; omega, by dsimp only; omega, by dsimp only; omega, a4, fun j hj hjn => ?_⟩
        cases hbj : B j with
        | false => rfl
        | true => rw [mono _ j hj hjn hbj] at hb; cases hb
  · rintro ⟨r, lo, hi⟩ st' ⟨rfl, rfl, a1, a2, a3, a4, a5⟩
    dsimp only at a1 a2 a3 a4 a5 ⊢
    have e : lo = hi := by omega
    subst e
    exact wpS_pure (h lo a2 a4 a5)
/-- gallop: the place where the run of what lies ahead of the key ends -/
theorem wpS_gallop {Q : Option Nat → SortSt → Prop} (hh : hint < n)
    (h : ∀ k, k ≤ n → (∀ i, i < k → B i = true) → (∀ i, k ≤ i → i < n → B i = false) → Q (some k) st) : wpS M A E s (gallop' left key arr base n hint) Q st := by
  have mono' : ∀ i j, i ≤ j → j < n → B i = false → B j = false := fun i j hij hj hb => by
    cases hbj : B j with
    | false => rfl
    | true => rw [mono i j hij hj hbj] at hb; cases hb
  unfold gallop'
  obtain ⟨x, hx, px, bx⟩ := hB _ hh
  refine wpS_bind (wpS_beyond C hx px pk hk ?_)
  rw [bx]
  cases hb : B hint with
  | true =>
    have fin : ∀ l o, l < o → hint + l < n → B (hint + l) = true → (n - hint ≤ o ∨ hint + o < n ∧ B (hint + o) = false) → wpS M A E s (tailG left key arr base n (hint + l + 1) (hint + min o (n - hint))) Q st := by
      intro l o a1 a2 a3 a4
      refine wpS_tailG C hk pk hB mono ?_ ?_ ?_ ?_ h
      · rcases a4 with a4 | ⟨a4, _⟩ <;> omega
      · omega
      · intro i hi
        exact mono i (hint + l) (by omega) a2 a3
      · intro i hi hin
        rcases a4 with a4 | ⟨a4, a5⟩
        · omega
        · exact mono' (hint + o) i (by omega) hin a5
    refine wpS_bind (wpS_forRange (fun i (c : Option (Option Nat) × Nat × Nat) st' => st' = st ∧ c.1 = none ∧ c.2.1 < c.2.2 ∧ hint + c.2.1 < n ∧ B (hint + c.2.1) = true ∧ i + 1 ≤ c.2.2) ?_ ?_ ⟨rfl, rfl, by decide, hh, hb, by simp⟩)
    · rintro i ⟨r, l, o⟩ st' _ hi' ⟨rfl, rfl, a1, a2, a3, a4⟩
      dsimp only at a1 a2 a3 a4 ⊢
      by_cases hge : o ≥ n - hint
      · rw [if_pos hge]
        exact wpS_pure (fin l o a1 a2 a3 (.inl hge))
      · rw [if_neg hge]
        have hm : hint + o < n := by omega
        obtain ⟨x, hx, px, bx⟩ := hB _ hm
        refine wpS_bind (wpS_beyond C hx px pk hk ?_)
        rw [bx]
        cases hb : B (hint + o) with
        | true => exact wpS_pure ⟨rfl, rfl, by dsimp only; omega, hm, hb, by dsimp only; omega⟩
        | false => exact wpS_pure (fin l o a1 a2 a3 (.inr ⟨hm, hb⟩))
    · rintro ⟨r, l, o⟩ st' ⟨rfl, rfl, a1, a2, a3, a4⟩
      dsimp only at a1 a2 a3 a4 ⊢
      exact fin l o a1 a2 a3 (.inl (by omega))
  | false =>
    have fin : ∀ l o, l < o → l ≤ hint → B (hint - l) = false → (hint + 1 ≤ o ∨ o ≤ hint ∧ B (hint - o) = true) → wpS M A E s (tailG left key arr base n (hint + 1 - min o (hint + 1)) (hint - l)) Q st := by
      intro l o a1 a2 a3 a4
      refine wpS_tailG C hk pk hB mono ?_ ?_ ?_ ?_ h
      · rcases a4 with a4 | ⟨a4, _⟩ <;> omega
      · omega
      · intro i hi
        rcases a4 with a4 | ⟨a4, a5⟩
        · omega
        · exact mono i (hint - o) (by omega) (by omega) a5
      · intro i hi hin
        exact mono' (hint - l) i hi hin a3
    refine wpS_bind (wpS_forRange (fun i (c : Option (Option Nat) × Nat × Nat) st' => st' = st ∧ c.1 = none ∧ c.2.1 < c.2.2 ∧ c.2.1 ≤ hint ∧ B (hint - c.2.1) = false ∧ i + 1 ≤ c.2.2) ?_ ?_ ⟨rfl, rfl, by decide, Nat.zero_le _, hb, by simp⟩)
    · rintro i ⟨r, l, o⟩ st' _ hi' ⟨rfl, rfl, a1, a2, a3, a4⟩
      dsimp only at a1 a2 a3 a4 ⊢
      by_cases hge : o ≥ hint + 1
      · rw [if_pos hge]
        exact wpS_pure (fin l o a1 a2 a3 (.inl hge))
      · rw [if_neg hge]
        have hm : hint - o < n := by omega
        obtain ⟨x, hx, px, bx⟩ := hB _ hm
        refine wpS_bind (wpS_beyond C hx px pk hk ?_)
        rw [bx]
        cases hb : B (hint - o) with
        | true => exact wpS_pure (fin l o a1 a2 a3 (.inr ⟨by omega, hb⟩))
        | false => exact wpS_pure ⟨rfl, rfl, by dsimp only; omega, by dsimp only; omega, hb, by dsimp only; omega⟩
    · rintro ⟨r, l, o⟩ st' ⟨rfl, rfl, a1, a2, a3, a4⟩
      dsimp only at a1 a2 a3 a4 ⊢
      exact fin l o a1 a2 a3 (.inl (by omega))
end
end
end Tim

set_option Elab.async false
set_option linter.all false
set_option maxRecDepth 100000
set_option maxHeartbeats 4000000
namespace Tim
open PySem PyProof.Rows
/-! ### sorted lists -/
abbrev Srt (lt : Keyed → Keyed → Bool) (l : List Keyed) : Prop := l.Pairwise fun x y => lt y x = false
section
variable {lt : Keyed → Keyed → Bool} {a b out : List Keyed} {ia ib k : Nat}
theorem Srt.drop (h : Srt lt a) (i : Nat) : Srt lt (a.drop i) := List.Pairwise.sublist (List.drop_sublist i a) h
theorem Srt.take (h : Srt lt a) (i : Nat) : Srt lt (a.take i) := List.Pairwise.sublist (List.take_sublist i a) h
theorem Srt.cross (h : Srt lt a) (i : Nat) : ∀ x ∈ a.take i, ∀ y ∈ a.drop i, lt y x = false := by
  have h' := h
  rw [← List.take_append_drop i a] at h'
  exact (List.pairwise_append.mp h').2.2
/-- what is taken of both so far, in order; what is left of both -/
structure JL (lt : Keyed → Keyed → Bool) (a b out : List Keyed) (ia ib : Nat) : Prop where
  hia : ia ≤ a.length
  hib : ib ≤ b.length
  perm : out.Perm (a.take ia ++ b.take ib)
  srt : Srt lt out
  cap : ∀ x ∈ out, ∀ y, y ∈ a.drop ia ∨ y ∈ b.drop ib → lt y x = false
theorem JL.len (J : JL lt a b out ia ib) : out.length = ia + ib := by
  have h := J.perm.length_eq
  have h1 := J.hia
  have h2 := J.hib
  rw [List.length_append, List.length_take, List.length_take] at h
  omega
theorem take_more (l : List Keyed) (i k : Nat) : l.take (i + k) = l.take i ++ (l.drop i).take k := by
  rw [List.take_add]
theorem JL.stepA (ha : Srt lt a) (J : JL lt a b out ia ib) (hk : ia + k ≤ a.length) (h : ∀ x ∈ (a.drop ia).take k, ∀ y ∈ b.drop ib, lt y x = false) : JL lt a b (out ++ (a.drop ia).take k) (ia + k) ib where
  hia := hk
  hib := J.hib
  perm := by
    rw [take_more]
    refine (List.Perm.append_right _ J.perm).trans ?_
    rw [List.append_assoc, List.append_assoc]
    exact List.Perm.append_left _ List.perm_append_comm
  srt := List.pairwise_append.mpr ⟨J.srt, (ha.drop ia).take k, fun x hx y hy => J.cap x hx y (.inl (List.mem_of_mem_take hy))⟩
  cap := by
    intro x hx y hy
    have e : a.drop (ia + k) = (a.drop ia).drop k := by rw [List.drop_drop]
    rcases List.mem_append.mp hx with hx | hx
    · refine J.cap x hx y ?_
      rcases hy with hy | hy
      · rw [e] at hy
        exact .inl (List.mem_of_mem_drop hy)
      · exact .inr hy
    · rcases hy with hy | hy
      · rw [e] at hy
        exact (ha.drop ia).cross k x hx y hy
      · exact h x hx y hy
theorem JL.swap (J : JL lt a b out ia ib) : JL lt b a out ib ia :=
  ⟨J.hib, J.hia, J.perm.trans List.perm_append_comm, J.srt, fun x hx y hy => J.cap x hx y hy.symm⟩
theorem JL.stepB (hb : Srt lt b) (J : JL lt a b out ia ib) (hk : ib + k ≤ b.length) (h : ∀ x ∈ (b.drop ib).take k, ∀ y ∈ a.drop ia, lt y x = false) : JL lt a b (out ++ (b.drop ib).take k) ia (ib + k) :=
  (JL.stepA hb J.swap hk h).swap
def Res (lt : Keyed → Keyed → Bool) (a b r : List Keyed) : Prop := r.Perm (a ++ b) ∧ Srt lt r
theorem JL.endB (ha : Srt lt a) (J : JL lt a b out ia b.length) : Res lt a b (out ++ a.drop ia) := by
  have J' := JL.stepA (k := a.length - ia) ha J (by have := J.hia; omega) (by intro x _ y hy; rw [List.drop_length] at hy; cases hy)
  have e : (a.drop ia).take (a.length - ia) = a.drop ia := List.take_of_length_le (by rw [List.length_drop]; exact Nat.le_refl _)
  rw [e] at J'
  have e2 : ia + (a.length - ia) = a.length := by have := J.hia; omega
  rw [e2] at J'
  have p := J'.perm
  rw [List.take_length, List.take_length] at p
  exact ⟨p, J'.srt⟩
theorem JL.endA (hb : Srt lt b) (J : JL lt a b out a.length ib) : Res lt a b (out ++ b.drop ib) := by
  have r := JL.endB hb J.swap
  exact ⟨r.1.trans List.perm_append_comm, r.2⟩
/-- of a the last one alone is left, and it is behind all of b -/
theorem JL.last (ha : Srt lt a) (hb : Srt lt b) (J : JL lt a b out ia ib) (hl : ia + 1 = a.length) (hx : ∀ x ∈ b, ∀ y ∈ a.drop ia, lt y x = false) : Res lt a b (out ++ b.drop ib ++ a.drop ia) := by
  have J' := JL.stepB (k := b.length - ib) hb J (by have := J.hib; omega) (fun x h y hy => hx x (List.mem_of_mem_drop (List.mem_of_mem_take h)) y hy)
  have e : (b.drop ib).take (b.length - ib) = b.drop ib := List.take_of_length_le (by rw [List.length_drop]; exact Nat.le_refl _)
  have e2 : ib + (b.length - ib) = b.length := by have := J.hib; omega
  rw [e, e2] at J'
  exact J'.endB ha
end
theorem drop_cons_get {l : List Keyed} {i : Nat} {x : Keyed} (h : l[i]? = some x) : l.drop i = x :: l.drop (i + 1) := by
  obtain ⟨hi, rfl⟩ := List.getElem?_eq_some_iff.mp h
  exact List.drop_eq_getElem_cons hi
theorem take1_get {l : List Keyed} {i : Nat} {x : Keyed} (h : l[i]? = some x) : (l.drop i).take 1 = [x] := by
  rw [drop_cons_get h]
  rfl
/-- the least of what is left is its first one -/
theorem Srt.first {lt : Keyed → Keyed → Bool} {l : List Keyed} {i : Nat} {x : Keyed} (h : Srt lt l) (hi : l[i]? = some x) (hr : lt x x = false) : ∀ y ∈ l.drop i, lt y x = false := by
  intro y hy
  have h' := h.drop i
  rw [drop_cons_get hi] at h' hy
  rcases List.mem_cons.mp hy with rfl | hy
  · exact hr
  · exact (List.pairwise_cons.mp h').1 y hy

section
variable {M : Model} {A : Around} {E : Value → Shared → Prop} {s : Shared} {κ : SortKind} {P : Keyed → Prop} {lt : Keyed → Keyed → Bool}
theorem Cmp.irrefl (C : Cmp M A E s κ P lt) (x : Keyed) : lt x x = false := by
  cases h : lt x x with
  | false => rfl
  | true => have := C.asym x x h; rw [h] at this; cases this
/-- x below y, y at most z -/
theorem Cmp.le_of_lt (C : Cmp M A E s κ P lt) {x y z : Keyed} (h1 : lt x y = true) (h2 : lt z y = false) : lt z x = false := C.trans x y z (C.asym x y h1) h2
/-- all but the gallop's number stays -/
structure Alike (st st' : SortSt) : Prop where
  k : kindOf st' = kindOf st
  a : arrOf st' = arrOf st
  p : pendingOf st' = pendingOf st
  f : failedOf st' = failedOf st
theorem Alike.refl (st : SortSt) : Alike st st := ⟨rfl, rfl, rfl, rfl⟩
theorem Alike.setG {st st' : SortSt} (h : Alike st st') (g : Nat) : Alike st (setG st' g) := ⟨h.k, h.a, h.p, h.f⟩
theorem wpS_rule {n : String} {Q : Unit → SortSt → Prop} {st : SortSt} (h : Q () st) : wpS M A E s (liftM (rule n) : StateT SortSt Sem Unit) Q st := wpS_lift (wpAny_rule ⟨rfl, h⟩)

theorem iteBoth {c : Prop} [Decidable c] {α : Type} {x y : StateT SortSt Sem α} {Q : α → SortSt → Prop} {st : SortSt} (h1 : wpS M A E s x Q st) (h2 : wpS M A E s y Q st) : wpS M A E s (if c then x else y) Q st := by
  split
  · exact h1
  · exact h2
/-- the arrays' own forms -/
theorem toL_push (o : Array Keyed) (l : List Keyed) (i : Nat) (x : Keyed) (h : l[i]? = some x) : (o.push x).toList = o.toList ++ (l.drop i).take 1 := by
  rw [take1_get h, Array.toList_push]
theorem toL_ext (o a : Array Keyed) (i k : Nat) : (o ++ a.extract i (i + k)).toList = o.toList ++ (a.toList.drop i).take k := by
  rw [Array.toList_append, Array.toList_extract]
  simp [List.extract_eq_drop_take]
theorem toL_rest (a : Array Keyed) (i : Nat) : (a.extract i a.size).toList = a.toList.drop i := by
  rw [Array.toList_extract]
  simp only [List.extract_eq_drop_take]
  exact List.take_of_length_le (by rw [List.length_drop, Array.length_toList]; exact Nat.le_refl _)
section
variable (C : Cmp M A E s κ P lt) {a b : Array Keyed} (ha : Srt lt a.toList) (hb : Srt lt b.toList) (pa : ∀ x ∈ a.toList, P x) (pb : ∀ x ∈ b.toList, P x)
include C ha hb pa pb
theorem get_some {l : Array Keyed} {i : Nat} (h : i < l.size) : ∃ x, l[i]? = some x ∧ l.toList[i]? = some x ∧ x ∈ l.toList := ⟨l[i], by simp [h], by simp [h], by simp⟩
theorem wpS_mergeLo {st : SortSt} {Q : Array Keyed → SortSt → Prop} (hk : kindOf st = κ) (h1a : 0 < a.size) (h1b : 0 < b.size) (h0 : ∀ x ∈ a.toList, ∀ y, b[0]? = some y → lt y x = true)
    (hl : ∀ x ∈ b.toList, ∀ y, a[a.size - 1]? = some y → lt x y = true)
    (h : ∀ r st', Alike st st' → Res lt a.toList b.toList r.toList → Q r st') : wpS M A E s (mergeLo' a b) Q st := by
  have la : a.toList.length = a.size := by simp
  have lb : b.toList.length = b.size := by simp
  -- what is handed back
  have fDone : ∀ (out : Array Keyed) (ia ib : Nat), JL lt a.toList b.toList out.toList ia ib → ib = b.size → Res lt a.toList b.toList (out ++ a.extract ia a.size ++ b.extract ib b.size).toList := by
    intro out ia ib J e
    subst e
    rw [Array.toList_append, Array.toList_append, toL_rest, toL_rest]
    rw [← lb] at J ⊢
    rw [List.drop_length, List.append_nil]
    exact J.endB ha
  have hlast : ∀ ia, ia + 1 = a.size → ∀ x ∈ b.toList, ∀ y ∈ a.toList.drop ia, lt y x = false := by
    intro ia e x hx y hy
    obtain ⟨z, hz, hz2, _⟩ := get_some C ha hb pa pb (l := a) (i := ia) (by omega)
    rw [drop_cons_get hz2, List.drop_eq_nil_of_le (by omega)] at hy
    have : y = z := by simpa using hy
    subst this
    exact C.asym _ _ (hl x hx y (by rw [← e]; simpa using hz))
  have fLast : ∀ (out : Array Keyed) (ia ib : Nat), JL lt a.toList b.toList out.toList ia ib → ia + 1 = a.size → Res lt a.toList b.toList (out ++ b.extract ib b.size ++ a.extract ia a.size).toList := by
    intro out ia ib J e
    rw [Array.toList_append, Array.toList_append, toL_rest, toL_rest]
    exact J.last ha hb (by omega) (hlast ia e)
  -- one of b, one of a
  have pushB : ∀ (out : Array Keyed) (ia ib : Nat) (x y : Keyed), JL lt a.toList b.toList out.toList ia ib → a.toList[ia]? = some x → b.toList[ib]? = some y → lt y x = true → JL lt a.toList b.toList (out.push y).toList ia (ib + 1) := by
    intro out ia ib x y J hx hy hlt
    rw [toL_push out _ ib y hy]
    have hib : ib < b.toList.length := (List.getElem?_eq_some_iff.mp hy).1
    refine J.stepB hb (by omega) fun u hu v hv => ?_
    rw [take1_get hy] at hu
    have : u = y := by simpa using hu
    subst this
    exact C.le_of_lt hlt (ha.first hx (C.irrefl x) v hv)
  have pushA : ∀ (out : Array Keyed) (ia ib : Nat) (x y : Keyed), JL lt a.toList b.toList out.toList ia ib → a.toList[ia]? = some x → b.toList[ib]? = some y → lt y x = false → JL lt a.toList b.toList (out.push x).toList (ia + 1) ib := by
    intro out ia ib x y J hx hy hlt
    rw [toL_push out _ ia x hx]
    have hia : ia < a.toList.length := (List.getElem?_eq_some_iff.mp hx).1
    refine J.stepA ha (by omega) fun u hu v hv => ?_
    rw [take1_get hx] at hu
    have : u = x := by simpa using hu
    subst this
    exact C.trans _ _ _ hlt (hb.first hy (C.irrefl y) v hv)
  unfold mergeLo'
  refine wpS_bind (wpS_rule ?_)
  dsimp only
  obtain ⟨b0, hb0, hb0', mb0⟩ := get_some C ha hb pa pb (l := b) (i := 0) h1b
  refine wpS_bind (wpS_elem hb0 ?_)
  have J0 : JL lt a.toList b.toList (#[b0] : Array Keyed).toList 0 1 := by
    have J : JL lt a.toList b.toList [] 0 0 := ⟨Nat.zero_le _, Nat.zero_le _, by simp, List.Pairwise.nil, by simp⟩
    have J' := J.stepB (k := 1) hb (by omega) (fun x hx y hy => by
      rw [take1_get hb0'] at hx
      have : x = b0 := by simpa using hx
      subst this
      exact C.asym _ _ (h0 y (by simpa using hy) x hb0))
    rw [take1_get hb0'] at J'
    exact J'
  by_cases c1 : 1 = b.size
  · rw [if_pos (by simpa using c1)]
    exact wpS_pure (h _ st (Alike.refl st) (fDone _ _ _ J0 c1))
  rw [if_neg (by simpa using c1)]
  by_cases c2 : 0 + 1 = a.size
  · rw [if_pos (by simpa using c2)]
    exact wpS_pure (h _ st (Alike.refl st) (fLast _ _ _ J0 c2))
  rw [if_neg (by simpa using c2)]
  refine wpS_bind (wpS_get ?_)
  refine wpS_bind (wpS_mono (wpS_forRange (fun i (c : Option (Array Keyed) × Array Keyed × Nat × Nat × Nat) st' => c.1 = none ∧ Alike st st' ∧ JL lt a.toList b.toList c.2.1.toList c.2.2.1 c.2.2.2.1 ∧ c.2.2.1 + 1 < a.size ∧ c.2.2.2.1 < b.size ∧ i + 1 ≤ c.2.1.size)
    (Q := fun c st' => Alike st st' ∧ ∃ r, c.1 = some r ∧ Res lt a.toList b.toList r.toList) ?_ ?_ ⟨rfl, Alike.refl st, J0, by dsimp only; omega, by dsimp only; omega, by simp⟩) ?_)
  rotate_left
  · rintro ⟨r, out, ia, ib, mg⟩ st' ⟨rfl, al, J, a1, a2, a3⟩
    dsimp only at al J a1 a2 a3 ⊢
    have := J.len
    have e : out.toList.length = out.size := by simp
    omega
  · rintro ⟨r, out, ia, ib, mg⟩ st' ⟨al, r', e, hr⟩
    dsimp only at e
    subst e
    exact wpS_pure (h _ st' al hr)
  rintro i ⟨r, out, ia, ib, mg⟩ st' _ hit ⟨rfl, al, J, a1, a2, a3⟩
  dsimp only at al J a1 a2 a3 ⊢
  -- the first loop
  refine wpS_bind (wpS_mono (wpS_forRange (fun j (c : Option (Array Keyed) × Array Keyed × Nat × Nat × Nat × Nat) st2 => st2 = st' ∧ c.1 = none ∧ JL lt a.toList b.toList c.2.1.toList c.2.2.1 c.2.2.2.1 ∧ c.2.2.1 + 1 < a.size ∧ c.2.2.2.1 < b.size ∧ out.size ≤ c.2.1.size ∧ (0 < j → out.size < c.2.1.size))
    (Q := fun c st2 => st2 = st' ∧ ((∃ r, c.1 = some r ∧ Res lt a.toList b.toList r.toList) ∨ (c.1 = none ∧ JL lt a.toList b.toList c.2.1.toList c.2.2.1 c.2.2.2.1 ∧ c.2.2.1 + 1 < a.size ∧ c.2.2.2.1 < b.size ∧ out.size < c.2.1.size)))
    ?_ ?_ ⟨rfl, rfl, J, a1, a2, Nat.le_refl _, by simp⟩) ?_)
  · rintro j ⟨r, o, xa, xb, ac, bc⟩ st2 _ _ ⟨rfl, rfl, J, b1, b2, b3, b4⟩
    dsimp only at J b1 b2 b3 b4 ⊢
    obtain ⟨y, hy, hy', my⟩ := get_some C ha hb pa pb (l := b) (i := xb) b2
    obtain ⟨x, hx, hx', mx⟩ := get_some C ha hb pa pb (l := a) (i := xa) (by omega)
    refine wpS_bind (wpS_elem hy (wpS_bind (wpS_elem hx (wpS_bind (C.run y x st2 _ (pb y my) (pa x mx) (al.k.trans hk) ?_)))))
    dsimp only
    cases hlt : lt y x with
    | true =>
      rw [if_pos rfl]
      refine wpS_bind (wpS_elem hy ?_)
      have J' := pushB o xa xb x y J hx' hy' hlt
      have hsz : (o.push y).size = o.size + 1 := by simp
      by_cases e : xb + 1 = b.size
      · rw [if_pos (by simpa using e)]
        exact wpS_pure ⟨rfl, .inl ⟨_, rfl, fDone _ _ _ J' e⟩⟩
      · rw [if_neg (by simpa using e)]
        split
        · exact wpS_pure ⟨rfl, .inr ⟨rfl, J', b1, by dsimp only; omega, by dsimp only; omega⟩⟩
        · exact wpS_pure ⟨rfl, rfl, J', b1, by dsimp only; omega, by dsimp only; omega, fun _ => by dsimp only; omega⟩
    | false =>
      rw [if_neg (by simp)]
      refine wpS_bind (wpS_elem hx ?_)
      have J' := pushA o xa xb x y J hx' hy' hlt
      have hsz : (o.push x).size = o.size + 1 := by simp
      by_cases e : xa + 1 + 1 = a.size
      · rw [if_pos (by simpa using e)]
        exact wpS_pure ⟨rfl, .inl ⟨_, rfl, fLast _ _ _ J' e⟩⟩
      · rw [if_neg (by simpa using e)]
        split
        · exact wpS_pure ⟨rfl, .inr ⟨rfl, J', by dsimp only; omega, b2, by dsimp only; omega⟩⟩
        · exact wpS_pure ⟨rfl, rfl, J', by dsimp only; omega, b2, by dsimp only; omega, fun _ => by dsimp only; omega⟩
  · rintro ⟨r, o, xa, xb, ac, bc⟩ st2 ⟨rfl, rfl, J, b1, b2, b3, b4⟩
    dsimp only at J b1 b2 b3 b4 ⊢
    exact ⟨rfl, .inr ⟨rfl, J, b1, b2, b4 (by omega)⟩⟩
  rintro ⟨r, o, xa, xb, ac, bc⟩ st2 ⟨rfl, hc⟩
  dsimp only at hc ⊢
  rcases hc with ⟨r', e, hr⟩ | ⟨e, J1, b1, b2, b3⟩
  · subst e
    exact wpS_pure ⟨al, r', rfl, hr⟩
  subst e
  dsimp only
  clear J a1 a2
  refine wpS_bind (wpS_rule ?_)
  -- the second loop
  refine wpS_bind (wpS_mono (wpS_forRange (fun j (c : Option (Array Keyed) × Array Keyed × Nat × Nat × Nat × Nat × Nat) st3 => Alike st st3 ∧ c.1 = none ∧ JL lt a.toList b.toList c.2.1.toList c.2.2.1 c.2.2.2.1 ∧ c.2.2.1 + 1 < a.size ∧ c.2.2.2.1 < b.size ∧ out.size < c.2.1.size)
    (Q := fun c st3 => Alike st st3 ∧ ((∃ r, c.1 = some r ∧ Res lt a.toList b.toList r.toList) ∨ (c.1 = none ∧ JL lt a.toList b.toList c.2.1.toList c.2.2.1 c.2.2.2.1 ∧ c.2.2.1 + 1 < a.size ∧ c.2.2.2.1 < b.size ∧ out.size < c.2.1.size)))
    ?_ ?_ ⟨al, rfl, J1, b1, b2, b3⟩) ?_)
  rotate_left
  · rintro ⟨r, o, xa, xb, mg, ac, bc⟩ st3 ⟨al3, rfl, J, b1, b2, b3⟩
    exact ⟨al3, .inr ⟨rfl, J, b1, b2, b3⟩⟩
  · rintro ⟨r, o, xa, xb, mg, ac, bc⟩ st3 ⟨al3, hc⟩
    dsimp only at hc ⊢
    rcases hc with ⟨r', e, hr⟩ | ⟨e, J, b1, b2, b3⟩
    · subst e
      exact wpS_pure ⟨al3, r', rfl, hr⟩
    · subst e
      dsimp only
      exact wpS_bind (wpS_modify (wpS_pure ⟨rfl, al3.setG _, J, b1, b2, by dsimp only; omega⟩))
  rintro j ⟨r, o, xa, xb, mg, ac, bc⟩ st3 _ _ ⟨al3, rfl, J, b1, b2, b3⟩
  dsimp only at J b1 b2 b3 ⊢
  obtain ⟨y, hy, hy', my⟩ := get_some C ha hb pa pb (l := b) (i := xb) b2
  refine iteBoth ?_ ?_
  all_goals
    refine wpS_bind (wpS_modify ?_)
    have al4 : ∀ g, Alike st (setG st3 g) := fun g => al3.setG g
    refine wpS_bind (wpS_elem hy ?_)
    refine wpS_bind (wpS_gallop C (B := fun i => !lt y (a.toList.getD (xa + i) y)) ((al4 _).k.trans hk) (pb y my) ?_ ?_ (Nat.sub_pos_of_lt (Nat.lt_of_succ_lt b1)) fun k p1 p2 p3 => ?_)
    · intro i hi
      obtain ⟨z, hz, hz', mz⟩ := get_some C ha hb pa pb (l := a) (i := xa + i) (by omega)
      refine ⟨z, hz, pa z mz, ?_⟩
      show (!lt y z) = !lt y (a.toList.getD (xa + i) y)
      rw [List.getD_eq_getElem?_getD, hz']
      rfl
    · intro i' j' hij hj hbj
      obtain ⟨u, hu, hu', mu⟩ := get_some C ha hb pa pb (l := a) (i := xa + i') (by omega)
      obtain ⟨v, hv, hv', mv⟩ := get_some C ha hb pa pb (l := a) (i := xa + j') (by omega)
      rw [List.getD_eq_getElem?_getD, hv'] at hbj
      rw [List.getD_eq_getElem?_getD, hu']
      replace hbj : (!lt y v) = true := hbj
      show (!lt y u) = true
      have hle : lt v u = false := ha.first hu' (C.irrefl u) v (by
        have := List.mem_of_getElem? (l := a.toList.drop (xa + i')) (i := j' - i') (a := v) (by rw [List.getElem?_drop]; rw [show xa + i' + (j' - i') = xa + j' by omega]; exact hv')
        exact this)
      have hyv : lt y v = false := by simpa using hbj
      rw [C.trans _ _ _ hle hyv]
      rfl
    have hkl : xa + k + 1 ≤ a.size := by
      rcases Nat.lt_or_ge (a.size - 1 - xa) k with hlt | hge
      · have q := p2 (a.size - 1 - xa) hlt
        obtain ⟨z, hz, hz', mz⟩ := get_some C ha hb pa pb (l := a) (i := a.size - 1) (by omega)
        rw [show xa + (a.size - 1 - xa) = a.size - 1 by omega, List.getD_eq_getElem?_getD, hz'] at q
        have := hl y my z hz
        simp [this] at q
      · omega
    have J1' : JL lt a.toList b.toList (o ++ a.extract xa (xa + k)).toList (xa + k) xb := by
      rw [toL_ext]
      refine J.stepA ha (by omega) fun u hu v hv => ?_
      obtain ⟨n, hn, rfl⟩ := List.mem_iff_getElem.mp hu
      rw [List.length_take, List.length_drop] at hn
      have q := p2 n (by omega)
      have e : ((a.toList.drop xa).take k)[n] = a.toList.getD (xa + n) y := by
        rw [List.getElem_take, List.getElem_drop, List.getD_eq_getElem?_getD, List.getElem?_eq_getElem (by omega)]
        rfl
      rw [e]
      exact C.trans _ _ _ (by simpa using q) (hb.first hy' (C.irrefl y) v hv)
    have hszA : (o ++ a.extract xa (xa + k)).size = o.size + k := by
      have h1 := J1'.len
      have h2 := J.len
      rw [Array.length_toList] at h1 h2
      omega
    obtain ⟨x2, hx2, hx2', mx2⟩ := get_some C ha hb pa pb (l := a) (i := xa + k) (by omega)
    have hlt2 : lt y x2 = true := by
      have q := p3 k (Nat.le_refl _) (by omega)
      rw [List.getD_eq_getElem?_getD, hx2'] at q
      simpa using q
    dsimp only
    rcases Nat.eq_zero_or_pos k with ek | pk
    · subst ek
      rw [if_neg (Nat.lt_irrefl 0)]
      rw [Nat.add_zero] at hx2 hx2'

      refine wpS_bind (wpS_elem hy ?_)
      have J2 := pushB o xa xb x2 y J hx2' hy' hlt2
      have hsz2 : ((o).push y).size = (o).size + 1 := by rw [Array.size_push]
      by_cases e2 : xb + 1 = b.size
      · rw [if_pos (by simpa using e2)]
        exact wpS_pure ⟨al4 _, .inl ⟨_, rfl, fDone _ _ _ J2 e2⟩⟩
      rw [if_neg (by simpa using e2)]
      refine wpS_bind (wpS_elem hx2 ?_)
      refine wpS_bind (wpS_gallop C (B := fun i => lt (b.toList.getD (xb + 1 + i) y) x2) ((al4 _).k.trans hk) (pa x2 mx2) ?_ ?_ (Nat.sub_pos_of_lt (Nat.lt_of_le_of_ne b2 e2)) fun k2 q1 q2 q3 => ?_)
      · intro i hi
        obtain ⟨z, hz, hz', mz⟩ := get_some C ha hb pa pb (l := b) (i := xb + 1 + i) (by omega)
        refine ⟨z, hz, pb z mz, ?_⟩
        show lt z x2 = lt (b.toList.getD (xb + 1 + i) y) x2
        rw [List.getD_eq_getElem?_getD, hz']
        rfl
      · intro i' j' hij hj hbj
        obtain ⟨u, hu, hu', mu⟩ := get_some C ha hb pa pb (l := b) (i := xb + 1 + i') (by omega)
        obtain ⟨v, hv, hv', mv⟩ := get_some C ha hb pa pb (l := b) (i := xb + 1 + j') (by omega)
        rw [List.getD_eq_getElem?_getD, hv'] at hbj
        rw [List.getD_eq_getElem?_getD, hu']
        replace hbj : lt v x2 = true := hbj
        show lt u x2 = true
        cases hlu : lt u x2 with
        | true => rfl
        | false =>
          have hle : lt v u = false := hb.first hu' (C.irrefl u) v (by
            have := List.mem_of_getElem? (l := b.toList.drop (xb + 1 + i')) (i := j' - i') (a := v) (by rw [List.getElem?_drop]; rw [show xb + 1 + i' + (j' - i') = xb + 1 + j' by omega]; exact hv')
            exact this)
          have := C.trans _ _ _ hlu hle
          rw [hbj] at this
          cases this
      have J3 : JL lt a.toList b.toList ((o).push y ++ b.extract (xb + 1) (xb + 1 + k2)).toList xa (xb + 1 + k2) := by
        rw [toL_ext]
        refine J2.stepB hb (by omega) fun u hu v hv => ?_
        obtain ⟨n, hn, rfl⟩ := List.mem_iff_getElem.mp hu
        rw [List.length_take, List.length_drop] at hn
        have q := q2 n (by omega)
        have e : ((b.toList.drop (xb + 1)).take k2)[n] = b.toList.getD (xb + 1 + n) y := by
          rw [List.getElem_take, List.getElem_drop, List.getD_eq_getElem?_getD, List.getElem?_eq_getElem (by omega)]
          rfl
        rw [e]
        exact C.le_of_lt q (ha.first hx2' (C.irrefl x2) v hv)
      have hsz3 : ((o).push y ++ b.extract (xb + 1) (xb + 1 + k2)).size = (o).size + 1 + k2 := by
        have h1 := J3.len
        have h2 := J2.len
        rw [Array.length_toList] at h1 h2
        omega
      have fin2 : ∀ (o3 : Array Keyed) (ib3 : Nat), JL lt a.toList b.toList o3.toList xa ib3 → ib3 = xb + 1 + k2 → ib3 < b.size → out.size < o3.size → JL lt a.toList b.toList (o3.push x2).toList (xa + 1) ib3 ∧ (o3.push x2).size = o3.size + 1 := by
        intro o3 ib3 J3 e3 l3 s3
        obtain ⟨z, hz, hz', mz⟩ := get_some C ha hb pa pb (l := b) (i := ib3) l3
        refine ⟨pushA o3 xa ib3 x2 z J3 hx2' hz' ?_, by simp⟩
        have q := q3 k2 (Nat.le_refl _) (by omega)
        rw [List.getD_eq_getElem?_getD, ← e3, hz'] at q
        exact q
      dsimp only
      rcases Nat.eq_zero_or_pos k2 with ek2 | pk2
      · subst ek2
        rw [if_neg (Nat.lt_irrefl 0)]
        refine wpS_bind (wpS_elem hx2 ?_)
        have J2' : JL lt a.toList b.toList ((o).push y).toList xa (xb + 1) := J2
        obtain ⟨J4, s4⟩ := fin2 ((o).push y) (xb + 1) J2' rfl (by omega) (by omega)
        by_cases e4 : xa + 1 + 1 = a.size
        · rw [if_pos (by simpa using e4)]
          exact wpS_pure ⟨al4 _, .inl ⟨_, rfl, fLast _ _ _ J4 e4⟩⟩
        rw [if_neg (by simpa using e4)]
        split
        · exact wpS_pure ⟨al4 _, .inr ⟨rfl, J4, by dsimp only; omega, by dsimp only; omega, by dsimp only; omega⟩⟩
        · exact wpS_pure ⟨al4 _, rfl, J4, by dsimp only; omega, by dsimp only; omega, by dsimp only; omega⟩
      rw [if_pos pk2]
      by_cases e5 : xb + 1 + k2 = b.size
      · rw [if_pos (by simpa using e5)]
        exact wpS_pure ⟨al4 _, .inl ⟨_, rfl, fDone _ _ _ J3 e5⟩⟩
      rw [if_neg (by simpa using e5)]
      refine wpS_bind (wpS_elem hx2 ?_)
      obtain ⟨J4, s4⟩ := fin2 _ _ J3 rfl (by omega) (by omega)
      by_cases e4 : xa + 1 + 1 = a.size
      · rw [if_pos (by simpa using e4)]
        exact wpS_pure ⟨al4 _, .inl ⟨_, rfl, fLast _ _ _ J4 e4⟩⟩
      rw [if_neg (by simpa using e4)]
      split
      · exact wpS_pure ⟨al4 _, .inr ⟨rfl, J4, by dsimp only; omega, by dsimp only; omega, by dsimp only; omega⟩⟩
      · exact wpS_pure ⟨al4 _, rfl, J4, by dsimp only; omega, by dsimp only; omega, by dsimp only; omega⟩
    rw [if_pos pk]
    by_cases e6 : xa + k + 1 = a.size
    · rw [if_pos (by simpa using e6)]
      exact wpS_pure ⟨al4 _, .inl ⟨_, rfl, fLast _ _ _ J1' e6⟩⟩
    rw [if_neg (by simpa using e6), if_neg (by simp; omega)]

    refine wpS_bind (wpS_elem hy ?_)
    have J2 := pushB (o ++ a.extract xa (xa + k)) (xa + k) xb x2 y J1' hx2' hy' hlt2
    have hsz2 : (((o ++ a.extract xa (xa + k))).push y).size = ((o ++ a.extract xa (xa + k))).size + 1 := by rw [Array.size_push]
    by_cases e2 : xb + 1 = b.size
    · rw [if_pos (by simpa using e2)]
      exact wpS_pure ⟨al4 _, .inl ⟨_, rfl, fDone _ _ _ J2 e2⟩⟩
    rw [if_neg (by simpa using e2)]
    refine wpS_bind (wpS_elem hx2 ?_)
    refine wpS_bind (wpS_gallop C (B := fun i => lt (b.toList.getD (xb + 1 + i) y) x2) ((al4 _).k.trans hk) (pa x2 mx2) ?_ ?_ (Nat.sub_pos_of_lt (Nat.lt_of_le_of_ne b2 e2)) fun k2 q1 q2 q3 => ?_)
    · intro i hi
      obtain ⟨z, hz, hz', mz⟩ := get_some C ha hb pa pb (l := b) (i := xb + 1 + i) (by omega)
      refine ⟨z, hz, pb z mz, ?_⟩
      show lt z x2 = lt (b.toList.getD (xb + 1 + i) y) x2
      rw [List.getD_eq_getElem?_getD, hz']
      rfl
    · intro i' j' hij hj hbj
      obtain ⟨u, hu, hu', mu⟩ := get_some C ha hb pa pb (l := b) (i := xb + 1 + i') (by omega)
      obtain ⟨v, hv, hv', mv⟩ := get_some C ha hb pa pb (l := b) (i := xb + 1 + j') (by omega)
      rw [List.getD_eq_getElem?_getD, hv'] at hbj
      rw [List.getD_eq_getElem?_getD, hu']
      replace hbj : lt v x2 = true := hbj
      show lt u x2 = true
      cases hlu : lt u x2 with
      | true => rfl
      | false =>
        have hle : lt v u = false := hb.first hu' (C.irrefl u) v (by
          have := List.mem_of_getElem? (l := b.toList.drop (xb + 1 + i')) (i := j' - i') (a := v) (by rw [List.getElem?_drop]; rw [show xb + 1 + i' + (j' - i') = xb + 1 + j' by omega]; exact hv')
          exact this)
        have := C.trans _ _ _ hlu hle
        rw [hbj] at this
        cases this
    have J3 : JL lt a.toList b.toList (((o ++ a.extract xa (xa + k))).push y ++ b.extract (xb + 1) (xb + 1 + k2)).toList (xa + k) (xb + 1 + k2) := by
      rw [toL_ext]
      refine J2.stepB hb (by omega) fun u hu v hv => ?_
      obtain ⟨n, hn, rfl⟩ := List.mem_iff_getElem.mp hu
      rw [List.length_take, List.length_drop] at hn
      have q := q2 n (by omega)
      have e : ((b.toList.drop (xb + 1)).take k2)[n] = b.toList.getD (xb + 1 + n) y := by
        rw [List.getElem_take, List.getElem_drop, List.getD_eq_getElem?_getD, List.getElem?_eq_getElem (by omega)]
        rfl
      rw [e]
      exact C.le_of_lt q (ha.first hx2' (C.irrefl x2) v hv)
    have hsz3 : (((o ++ a.extract xa (xa + k))).push y ++ b.extract (xb + 1) (xb + 1 + k2)).size = ((o ++ a.extract xa (xa + k))).size + 1 + k2 := by
      have h1 := J3.len
      have h2 := J2.len
      rw [Array.length_toList] at h1 h2
      omega
    have fin2 : ∀ (o3 : Array Keyed) (ib3 : Nat), JL lt a.toList b.toList o3.toList (xa + k) ib3 → ib3 = xb + 1 + k2 → ib3 < b.size → out.size < o3.size → JL lt a.toList b.toList (o3.push x2).toList ((xa + k) + 1) ib3 ∧ (o3.push x2).size = o3.size + 1 := by
      intro o3 ib3 J3 e3 l3 s3
      obtain ⟨z, hz, hz', mz⟩ := get_some C ha hb pa pb (l := b) (i := ib3) l3
      refine ⟨pushA o3 (xa + k) ib3 x2 z J3 hx2' hz' ?_, by simp⟩
      have q := q3 k2 (Nat.le_refl _) (by omega)
      rw [List.getD_eq_getElem?_getD, ← e3, hz'] at q
      exact q
    dsimp only
    rcases Nat.eq_zero_or_pos k2 with ek2 | pk2
    · subst ek2
      rw [if_neg (Nat.lt_irrefl 0)]
      refine wpS_bind (wpS_elem hx2 ?_)
      have J2' : JL lt a.toList b.toList (((o ++ a.extract xa (xa + k))).push y).toList (xa + k) (xb + 1) := J2
      obtain ⟨J4, s4⟩ := fin2 (((o ++ a.extract xa (xa + k))).push y) (xb + 1) J2' rfl (by omega) (by omega)
      by_cases e4 : (xa + k) + 1 + 1 = a.size
      · rw [if_pos (by simpa using e4)]
        exact wpS_pure ⟨al4 _, .inl ⟨_, rfl, fLast _ _ _ J4 e4⟩⟩
      rw [if_neg (by simpa using e4)]
      split
      · exact wpS_pure ⟨al4 _, .inr ⟨rfl, J4, by dsimp only; omega, by dsimp only; omega, by dsimp only; omega⟩⟩
      · exact wpS_pure ⟨al4 _, rfl, J4, by dsimp only; omega, by dsimp only; omega, by dsimp only; omega⟩
    rw [if_pos pk2]
    by_cases e5 : xb + 1 + k2 = b.size
    · rw [if_pos (by simpa using e5)]
      exact wpS_pure ⟨al4 _, .inl ⟨_, rfl, fDone _ _ _ J3 e5⟩⟩
    rw [if_neg (by simpa using e5)]
    refine wpS_bind (wpS_elem hx2 ?_)
    obtain ⟨J4, s4⟩ := fin2 _ _ J3 rfl (by omega) (by omega)
    by_cases e4 : (xa + k) + 1 + 1 = a.size
    · rw [if_pos (by simpa using e4)]
      exact wpS_pure ⟨al4 _, .inl ⟨_, rfl, fLast _ _ _ J4 e4⟩⟩
    rw [if_neg (by simpa using e4)]
    split
    · exact wpS_pure ⟨al4 _, .inr ⟨rfl, J4, by dsimp only; omega, by dsimp only; omega, by dsimp only; omega⟩⟩
    · exact wpS_pure ⟨al4 _, rfl, J4, by dsimp only; omega, by dsimp only; omega, by dsimp only; omega⟩
end
end
end Tim

set_option Elab.async false
set_option linter.all false
set_option maxRecDepth 100000
set_option maxHeartbeats 4000000
namespace Tim
open PySem PyProof.Rows
section
variable {M : Model} {A : Around} {E : Value → Shared → Prop} {s : Shared} {κ : SortKind} {P : Keyed → Prop} {lt : Keyed → Keyed → Bool}
abbrev flt (lt : Keyed → Keyed → Bool) : Keyed → Keyed → Bool := fun x y => lt y x
theorem srt_rev {l : List Keyed} (h : Srt lt l) : Srt (flt lt) l.reverse := List.pairwise_reverse.mpr h
theorem srt_unrev {l : List Keyed} (h : Srt (flt lt) l) : Srt lt l.reverse := List.pairwise_reverse.mpr h
/-- what is taken of both from behind -/
structure JH (lt : Keyed → Keyed → Bool) (a b out : Array Keyed) (na nb : Nat) : Prop where
  hna : na ≤ a.size
  hnb : nb ≤ b.size
  j : JL (flt lt) b.toList.reverse a.toList.reverse out.toList (b.size - nb) (a.size - na)
theorem rev_drop (l : Array Keyed) {n : Nat} (h : n ≤ l.size) : l.toList.reverse.drop (l.size - n) = (l.toList.take n).reverse := by
  rw [List.drop_reverse, Array.length_toList]
  congr 2
  omega
theorem rev_seg (l : Array Keyed) {n i : Nat} (h : n ≤ l.size) (hi : i ≤ n) : (l.toList.reverse.drop (l.size - n)).take (n - i) = (l.extract i n).reverse.toList := by
  rw [rev_drop l h, List.take_reverse, List.length_take, Array.length_toList, Array.toList_reverse, Array.toList_extract, List.extract_eq_drop_take, List.drop_take]
  congr 1
  rw [show min n l.size - (n - i) = i by omega]
theorem rev_get (l : Array Keyed) {n : Nat} {x : Keyed} (h : n ≤ l.size) (h1 : 1 ≤ n) (hx : l[n - 1]? = some x) : l.toList.reverse[l.size - n]? = some x := by
  rw [List.getElem?_reverse (by rw [Array.length_toList]; omega), Array.length_toList, Array.getElem?_toList, ← hx]
  congr 1
  omega
theorem JH.len {a b out : Array Keyed} {na nb : Nat} (J : JH lt a b out na nb) : out.size + na + nb = a.size + b.size := by
  have h := J.j.len
  have h1 := J.hna
  have h2 := J.hnb
  rw [Array.length_toList] at h
  omega
section
variable (C : Cmp M A E s κ P lt) {a b out : Array Keyed} (ha : Srt lt a.toList) (hb : Srt lt b.toList) {na nb : Nat}
include C ha hb
theorem JH.stepA (J : JH lt a b out na nb) {k : Nat} {x : Keyed} (hk : k ≤ na) (h1 : 1 ≤ nb) (hx : b[nb - 1]? = some x) (h : ∀ i y, k ≤ i → i < na → a[i]? = some y → lt x y = true) : JH lt a b (out ++ (a.extract k na).reverse) k nb := by
  have hna := J.hna
  refine ⟨by omega, J.hnb, ?_⟩
  rw [Array.toList_append, ← rev_seg a hna hk]
  have e : a.size - k = (a.size - na) + (na - k) := by omega
  rw [e]
  refine J.j.stepB (srt_rev ha) (by rw [List.length_reverse, Array.length_toList]; omega) fun u hu v hv => ?_
  rw [rev_seg a hna hk] at hu
  obtain ⟨i, hi, e⟩ := Array.mem_iff_getElem.mp (Array.mem_toList_iff.mp hu)
  rw [Array.size_reverse, Array.size_extract] at hi
  have hv' := (srt_rev hb).first (rev_get b J.hnb h1 hx) (C.irrefl x) v hv
  have hau : ∃ n, k ≤ n ∧ n < na ∧ a[n]? = some u := by
    have hu2 : u ∈ a.extract k na := Array.mem_reverse.mp (Array.mem_toList_iff.mp hu)
    obtain ⟨n, hn, en⟩ := Array.mem_iff_getElem.mp hu2
    rw [Array.size_extract] at hn
    rw [Array.getElem_extract] at en
    exact ⟨k + n, by omega, by omega, by rw [← en]; simp⟩
  obtain ⟨n, n1, n2, n3⟩ := hau
  have hlt := h n u n1 n2 n3
  exact C.trans v x u hv' (C.asym _ _ hlt)
theorem JH.stepB (J : JH lt a b out na nb) {k : Nat} {y : Keyed} (hk : k ≤ nb) (h1 : 1 ≤ na) (hy : a[na - 1]? = some y) (h : ∀ i x, k ≤ i → i < nb → b[i]? = some x → lt x y = false) : JH lt a b (out ++ (b.extract k nb).reverse) na k := by
  have hnb := J.hnb
  refine ⟨J.hna, by omega, ?_⟩
  rw [Array.toList_append, ← rev_seg b hnb hk]
  have e : b.size - k = (b.size - nb) + (nb - k) := by omega
  rw [e]
  refine J.j.stepA (srt_rev hb) (by rw [List.length_reverse, Array.length_toList]; omega) fun u hu v hv => ?_
  rw [rev_seg b hnb hk] at hu
  have hv' := (srt_rev ha).first (rev_get a J.hna h1 hy) (C.irrefl y) v hv
  have hau : ∃ n, k ≤ n ∧ n < nb ∧ b[n]? = some u := by
    have hu2 : u ∈ b.extract k nb := Array.mem_reverse.mp (Array.mem_toList_iff.mp hu)
    obtain ⟨n, hn, en⟩ := Array.mem_iff_getElem.mp hu2
    rw [Array.size_extract] at hn
    rw [Array.getElem_extract] at en
    exact ⟨k + n, by omega, by omega, by rw [← en]; simp⟩
  obtain ⟨n, n1, n2, n3⟩ := hau
  exact C.trans v y u hv' (h n u n1 n2 n3)
theorem seg1 (l : Array Keyed) {n : Nat} {x : Keyed} (h1 : 1 ≤ n) (hx : l[n - 1]? = some x) : (l.extract (n - 1) n).reverse = #[x] := by
  obtain ⟨hi, e⟩ := Array.getElem?_eq_some_iff.mp hx
  apply Array.ext
  · rw [Array.size_reverse, Array.size_extract]
    show _ = 1
    omega
  · intro i h2 h3
    have : i = 0 := by
      have : (#[x] : Array Keyed).size = 1 := rfl
      omega
    subst this
    rw [Array.getElem_reverse, Array.getElem_extract]
    rw [← e]
    have hs : (l.extract (n - 1) n).size = 1 := by rw [Array.size_extract]; omega
    simp only [hs]
    rfl
theorem JH.pushA (J : JH lt a b out na nb) {x y : Keyed} (h1 : 1 ≤ na) (h2 : 1 ≤ nb) (hy : a[na - 1]? = some y) (hx : b[nb - 1]? = some x) (h : lt x y = true) : JH lt a b (out.push y) (na - 1) nb := by
  have q := JH.stepA C ha hb J (k := na - 1) (by omega) h2 hx (fun i z i1 i2 hz => by
    have : i = na - 1 := by omega
    subst this
    rw [hy] at hz
    cases hz
    exact h)
  rw [seg1 C ha hb a h1 hy] at q
  exact q
theorem JH.pushB (J : JH lt a b out na nb) {x y : Keyed} (h1 : 1 ≤ na) (h2 : 1 ≤ nb) (hy : a[na - 1]? = some y) (hx : b[nb - 1]? = some x) (h : lt x y = false) : JH lt a b (out.push x) na (nb - 1) := by
  have q := JH.stepB C ha hb J (k := nb - 1) (by omega) h1 hy (fun i z i1 i2 hz => by
    have : i = nb - 1 := by omega
    subst this
    rw [hx] at hz
    cases hz
    exact h)
  rw [seg1 C ha hb b h2 hx] at q
  exact q
theorem ext0 (l : Array Keyed) {n : Nat} (h : n ≤ l.size) : (l.extract 0 n).toList = (l.toList.reverse.drop (l.size - n)).reverse := by
  rw [rev_drop l h, List.reverse_reverse, Array.toList_extract, List.extract_eq_drop_take]
  simp
theorem res_rev {r : List Keyed} (h : Res (flt lt) b.toList.reverse a.toList.reverse r) : Res lt a.toList b.toList r.reverse := by
  refine ⟨?_, srt_unrev h.2⟩
  refine (List.reverse_perm _).trans (h.1.trans ?_)
  refine (List.Perm.append (List.reverse_perm _) (List.reverse_perm _)).trans List.perm_append_comm
theorem JH.done (J : JH lt a b out na nb) (h : na = 0) : Res lt a.toList b.toList (a.extract 0 na ++ b.extract 0 nb ++ out.reverse).toList := by
  subst h
  have q := J.j
  rw [Nat.sub_zero] at q
  have e : a.size = a.toList.reverse.length := by simp
  rw [e] at q
  have r := res_rev C ha hb (q.endB (srt_rev hb))
  rw [List.reverse_append] at r
  rw [Array.toList_append, Array.toList_append, Array.toList_reverse, ext0 C ha hb b J.hnb]
  simpa using r
theorem JH.first (J : JH lt a b out na nb) (h : nb = 1) (h0 : ∀ x ∈ a.toList, ∀ y, b[0]? = some y → lt y x = true) : Res lt a.toList b.toList (b.extract 0 nb ++ a.extract 0 na ++ out.reverse).toList := by
  subst h
  have hnb := J.hnb
  have r := res_rev C ha hb (J.j.last (srt_rev hb) (srt_rev ha) (by rw [List.length_reverse, Array.length_toList]; omega) (fun x hx y hy => by
    obtain ⟨b0, hb0⟩ : ∃ b0, b[0]? = some b0 := ⟨b[0], by simp⟩
    have g := rev_get b hnb (Nat.le_refl 1) hb0
    rw [drop_cons_get g, List.drop_eq_nil_of_le (by rw [List.length_reverse, Array.length_toList]; omega)] at hy
    have : y = b0 := by simpa using hy
    subst this
    exact C.asym _ _ (h0 x (List.mem_reverse.mp hx) y hb0)))
  rw [List.reverse_append, List.reverse_append] at r
  rw [Array.toList_append, Array.toList_append, Array.toList_reverse, ext0 C ha hb b J.hnb, ext0 C ha hb a J.hna, List.append_assoc]
  exact r
end
end
end Tim

set_option Elab.async false
set_option linter.all false
set_option maxRecDepth 100000
set_option maxHeartbeats 8000000
namespace Tim
open PySem PyProof.Rows
section
variable {M : Model} {A : Around} {E : Value → Shared → Prop} {s : Shared} {κ : SortKind} {P : Keyed → Prop} {lt : Keyed → Keyed → Bool}
section
variable (C : Cmp M A E s κ P lt) {a b : Array Keyed} (ha : Srt lt a.toList) (hb : Srt lt b.toList) (pa : ∀ x ∈ a.toList, P x) (pb : ∀ x ∈ b.toList, P x)
include C ha hb pa pb
theorem wpS_mergeHi {st : SortSt} {Q : Array Keyed → SortSt → Prop} (hk : kindOf st = κ) (h1a : 0 < a.size) (h1b : 0 < b.size) (h0 : ∀ x ∈ a.toList, ∀ y, b[0]? = some y → lt y x = true)
    (hl : ∀ x ∈ b.toList, ∀ y, a[a.size - 1]? = some y → lt x y = true)
    (h : ∀ r st', Alike st st' → Res lt a.toList b.toList r.toList → Q r st') : wpS M A E s (mergeHi' a b) Q st := by
  unfold mergeHi'
  refine wpS_bind (wpS_rule ?_)
  dsimp only
  obtain ⟨a0, ha0, ha0', ma0⟩ := get_some C ha hb pa pb (l := a) (i := a.size - 1) (by omega)
  obtain ⟨bz, hbz, hbz', mbz⟩ := get_some C ha hb pa pb (l := b) (i := b.size - 1) (by omega)
  refine wpS_bind (wpS_elem ha0 ?_)
  have J0 : JH lt a b (#[a0] : Array Keyed) (a.size - 1) b.size := by
    have J : JH lt a b #[] a.size b.size := ⟨Nat.le_refl _, Nat.le_refl _, by
      rw [Nat.sub_self, Nat.sub_self]
      exact ⟨Nat.zero_le _, Nat.zero_le _, by simp, List.Pairwise.nil, by simp⟩⟩
    exact J.pushA C ha hb h1a h1b ha0 hbz (hl bz mbz a0 ha0)
  by_cases c1 : a.size - 1 = 0
  · rw [if_pos (by simpa using c1)]
    exact wpS_pure (h _ st (Alike.refl st) (J0.done C ha hb c1))
  rw [if_neg (by simpa using c1)]
  by_cases c2 : b.size = 1
  · rw [if_pos (by simpa using c2)]
    exact wpS_pure (h _ st (Alike.refl st) (J0.first C ha hb c2 h0))
  rw [if_neg (by simpa using c2)]
  refine wpS_bind (wpS_get ?_)
  refine wpS_bind (wpS_mono (wpS_forRange (fun i (c : Option (Array Keyed) × Nat × Nat × Array Keyed × Nat) st' => c.1 = none ∧ Alike st st' ∧ JH lt a b c.2.2.2.1 c.2.1 c.2.2.1 ∧ 1 ≤ c.2.1 ∧ 2 ≤ c.2.2.1 ∧ i + 1 ≤ c.2.2.2.1.size)
    (Q := fun c st' => Alike st st' ∧ ∃ r, c.1 = some r ∧ Res lt a.toList b.toList r.toList) ?_ ?_ ⟨rfl, Alike.refl st, J0, by dsimp only; omega, by dsimp only; omega, by simp⟩) ?_)
  rotate_left
  · rintro ⟨r, na, nb, out, mg⟩ st' ⟨rfl, al, J, a1, a2, a3⟩
    dsimp only at al J a1 a2 a3 ⊢
    have := J.len
    omega
  · rintro ⟨r, na, nb, out, mg⟩ st' ⟨al, r', e, hr⟩
    dsimp only at e
    subst e
    exact wpS_pure (h _ st' al hr)
  rintro i ⟨r, na, nb, out, mg⟩ st' _ hit ⟨rfl, al, J, a1, a2, a3⟩
  dsimp only at al J a1 a2 a3 ⊢
  -- the first loop
  refine wpS_bind (wpS_mono (wpS_forRange (fun j (c : Option (Array Keyed) × Nat × Nat × Array Keyed × Nat × Nat) st2 => st2 = st' ∧ c.1 = none ∧ JH lt a b c.2.2.2.1 c.2.1 c.2.2.1 ∧ 1 ≤ c.2.1 ∧ 2 ≤ c.2.2.1 ∧ out.size ≤ c.2.2.2.1.size ∧ (0 < j → out.size < c.2.2.2.1.size))
    (Q := fun c st2 => st2 = st' ∧ ((∃ r, c.1 = some r ∧ Res lt a.toList b.toList r.toList) ∨ (c.1 = none ∧ JH lt a b c.2.2.2.1 c.2.1 c.2.2.1 ∧ 1 ≤ c.2.1 ∧ 2 ≤ c.2.2.1 ∧ out.size < c.2.2.2.1.size)))
    ?_ ?_ ⟨rfl, rfl, J, a1, a2, Nat.le_refl _, by simp⟩) ?_)
  · rintro j ⟨r, xa, xb, o, ac, bc⟩ st2 _ _ ⟨rfl, rfl, J, b1, b2, b3, b4⟩
    dsimp only at J b1 b2 b3 b4 ⊢
    have hxa := J.hna
    have hxb := J.hnb
    obtain ⟨x, hx, hx', mx⟩ := get_some C ha hb pa pb (l := b) (i := xb - 1) (by omega)
    obtain ⟨y, hy, hy', my⟩ := get_some C ha hb pa pb (l := a) (i := xa - 1) (by omega)
    refine wpS_bind (wpS_elem hx (wpS_bind (wpS_elem hy (wpS_bind (C.run x y st2 _ (pb x mx) (pa y my) (al.k.trans hk) ?_)))))
    dsimp only
    cases hlt : lt x y with
    | true =>
      rw [if_pos rfl]
      refine wpS_bind (wpS_elem hy ?_)
      have J' := J.pushA C ha hb b1 (by omega) hy hx hlt
      have hsz : (o.push y).size = o.size + 1 := by rw [Array.size_push]
      by_cases e : xa - 1 = 0
      · rw [if_pos (by simpa using e)]
        exact wpS_pure ⟨rfl, .inl ⟨_, rfl, J'.done C ha hb e⟩⟩
      · rw [if_neg (by simpa using e)]
        split
        · exact wpS_pure ⟨rfl, .inr ⟨rfl, J', by dsimp only; omega, b2, by dsimp only; omega⟩⟩
        · exact wpS_pure ⟨rfl, rfl, J', by dsimp only; omega, b2, by dsimp only; omega, fun _ => by dsimp only; omega⟩
    | false =>
      rw [if_neg (by simp)]
      refine wpS_bind (wpS_elem hx ?_)
      have J' := J.pushB C ha hb b1 (by omega) hy hx hlt
      have hsz : (o.push x).size = o.size + 1 := by rw [Array.size_push]
      by_cases e : xb - 1 = 1
      · rw [if_pos (by simpa using e)]
        exact wpS_pure ⟨rfl, .inl ⟨_, rfl, J'.first C ha hb e h0⟩⟩
      · rw [if_neg (by simpa using e)]
        split
        · exact wpS_pure ⟨rfl, .inr ⟨rfl, J', b1, by dsimp only; omega, by dsimp only; omega⟩⟩
        · exact wpS_pure ⟨rfl, rfl, J', b1, by dsimp only; omega, by dsimp only; omega, fun _ => by dsimp only; omega⟩
  · rintro ⟨r, xa, xb, o, ac, bc⟩ st2 ⟨rfl, rfl, J, b1, b2, b3, b4⟩
    dsimp only at J b1 b2 b3 b4 ⊢
    exact ⟨rfl, .inr ⟨rfl, J, b1, b2, b4 (by omega)⟩⟩
  rintro ⟨r, xa, xb, o, ac, bc⟩ st2 ⟨rfl, hc⟩
  dsimp only at hc ⊢
  rcases hc with ⟨r', e, hr⟩ | ⟨e, J1, b1, b2, b3⟩
  · subst e
    exact wpS_pure ⟨al, r', rfl, hr⟩
  subst e
  dsimp only
  clear J a1 a2
  refine wpS_bind (wpS_rule ?_)
  -- the second loop
  refine wpS_bind (wpS_mono (wpS_forRange (fun j (c : Option (Array Keyed) × Nat × Nat × Array Keyed × Nat × Nat × Nat) st3 => Alike st st3 ∧ c.1 = none ∧ JH lt a b c.2.2.2.1 c.2.1 c.2.2.1 ∧ 1 ≤ c.2.1 ∧ 2 ≤ c.2.2.1 ∧ out.size < c.2.2.2.1.size)
    (Q := fun c st3 => Alike st st3 ∧ ((∃ r, c.1 = some r ∧ Res lt a.toList b.toList r.toList) ∨ (c.1 = none ∧ JH lt a b c.2.2.2.1 c.2.1 c.2.2.1 ∧ 1 ≤ c.2.1 ∧ 2 ≤ c.2.2.1 ∧ out.size < c.2.2.2.1.size)))
    ?_ ?_ ⟨al, rfl, J1, b1, b2, b3⟩) ?_)
  rotate_left
  · rintro ⟨r, xa, xb, o, mg, ac, bc⟩ st3 ⟨al3, rfl, J, b1, b2, b3⟩
    exact ⟨al3, .inr ⟨rfl, J, b1, b2, b3⟩⟩
  · rintro ⟨r, xa, xb, o, mg, ac, bc⟩ st3 ⟨al3, hc⟩
    dsimp only at hc ⊢
    rcases hc with ⟨r', e, hr⟩ | ⟨e, J, b1, b2, b3⟩
    · subst e
      exact wpS_pure ⟨al3, r', rfl, hr⟩
    · subst e
      dsimp only
      exact wpS_bind (wpS_modify (wpS_pure ⟨rfl, al3.setG _, J, b1, b2, by dsimp only; omega⟩))
  rintro j ⟨r, xa, xb, o, mg, ac, bc⟩ st3 _ _ ⟨al3, rfl, J, b1, b2, b3⟩
  dsimp only at J b1 b2 b3 ⊢
  have hxa := J.hna
  have hxb := J.hnb
  obtain ⟨x, hx, hx', mx⟩ := get_some C ha hb pa pb (l := b) (i := xb - 1) (by omega)
  refine iteBoth ?_ ?_
  all_goals
    refine wpS_bind (wpS_modify ?_)
    have al4 : ∀ g, Alike st (setG st3 g) := fun g => al3.setG g
    refine wpS_bind (wpS_elem hx ?_)
    refine wpS_bind (wpS_gallop C (B := fun i => !lt x (a.toList.getD i x)) ((al4 _).k.trans hk) (pb x mx) ?_ ?_ (Nat.sub_lt b1 (by decide)) fun k p1 p2 p3 => ?_)
    · intro i hi
      obtain ⟨z, hz, hz', mz⟩ := get_some C ha hb pa pb (l := a) (i := i) (by omega)
      refine ⟨z, by rw [Nat.zero_add]; exact hz, pa z mz, ?_⟩
      show (!lt x z) = !lt x (a.toList.getD i x)
      rw [List.getD_eq_getElem?_getD, hz']
      rfl
    · intro i' j' hij hj hbj
      obtain ⟨u, hu, hu', mu⟩ := get_some C ha hb pa pb (l := a) (i := i') (by omega)
      obtain ⟨v, hv, hv', mv⟩ := get_some C ha hb pa pb (l := a) (i := j') (by omega)
      rw [List.getD_eq_getElem?_getD, hv'] at hbj
      rw [List.getD_eq_getElem?_getD, hu']
      replace hbj : (!lt x v) = true := hbj
      show (!lt x u) = true
      have hle : lt v u = false := ha.first hu' (C.irrefl u) v (by
        have := List.mem_of_getElem? (l := a.toList.drop i') (i := j' - i') (a := v) (by rw [List.getElem?_drop]; rw [show i' + (j' - i') = j' by omega]; exact hv')
        exact this)
      have hyv : lt x v = false := by simpa using hbj
      rw [C.trans _ _ _ hle hyv]
      rfl
    have J1' : JH lt a b (o ++ (a.extract k xa).reverse) k xb := J.stepA C ha hb p1 (by omega) hx (fun i z i1 i2 hz => by
      have q := p3 i i1 i2
      rw [List.getD_eq_getElem?_getD, Array.getElem?_toList, hz] at q
      simpa using q)
    have hlenA := J1'.len
    have hlenJ := J.len
    dsimp only
    rcases Nat.eq_zero_or_pos (xa - k) with ek | pk
    · have ek' : k = xa := by omega
      rw [if_neg (by omega)]
      obtain ⟨y2, hy2, hy2', my2⟩ := get_some C ha hb pa pb (l := a) (i := xa - 1) (by omega)
      have hlt2 : lt x y2 = false := by
        have q := p2 (xa - 1) (by omega)
        rw [List.getD_eq_getElem?_getD, hy2'] at q
        simpa using q

      refine wpS_bind (wpS_elem hx ?_)
      have J2 := J.pushB C ha hb b1 (by omega) hy2 hx hlt2
      have hsz2 : ((o).push x).size = (o).size + 1 := by rw [Array.size_push]
      by_cases e2 : xb - 1 = 1
      · rw [if_pos (by simpa using e2)]
        exact wpS_pure ⟨al4 _, .inl ⟨_, rfl, J2.first C ha hb e2 h0⟩⟩
      rw [if_neg (by simpa using e2)]
      refine wpS_bind (wpS_elem hy2 ?_)
      have hxb2 : 2 ≤ xb - 1 := by omega
      have hxbs : xb - 1 ≤ b.size := J2.hnb
      refine wpS_bind (wpS_gallop C (B := fun i => lt (b.toList.getD i y2) y2) ((al4 _).k.trans hk) (pa y2 my2) ?_ ?_ (Nat.sub_lt (Nat.lt_of_lt_of_le (by decide) hxb2) (by decide)) fun k2 q1 q2 q3 => ?_)
      · intro i hi
        obtain ⟨z, hz, hz', mz⟩ := get_some C ha hb pa pb (l := b) (i := i) (by omega)
        refine ⟨z, by rw [Nat.zero_add]; exact hz, pb z mz, ?_⟩
        show lt z y2 = lt (b.toList.getD i y2) y2
        rw [List.getD_eq_getElem?_getD, hz']
        rfl
      · intro i' j' hij hj hbj
        obtain ⟨u, hu, hu', mu⟩ := get_some C ha hb pa pb (l := b) (i := i') (by omega)
        obtain ⟨v, hv, hv', mv⟩ := get_some C ha hb pa pb (l := b) (i := j') (by omega)
        rw [List.getD_eq_getElem?_getD, hv'] at hbj
        rw [List.getD_eq_getElem?_getD, hu']
        replace hbj : lt v y2 = true := hbj
        show lt u y2 = true
        cases hlu : lt u y2 with
        | true => rfl
        | false =>
          have hle : lt v u = false := hb.first hu' (C.irrefl u) v (by
            have := List.mem_of_getElem? (l := b.toList.drop i') (i := j' - i') (a := v) (by rw [List.getElem?_drop]; rw [show i' + (j' - i') = j' by omega]; exact hv')
            exact this)
          have := C.trans _ _ _ hlu hle
          rw [hbj] at this
          cases this
      have hk1 : 1 ≤ k2 := by
        rcases Nat.eq_zero_or_pos k2 with e | e
        · have q := q3 0 (by omega) (by omega)
          obtain ⟨z, hz, hz', mz⟩ := get_some C ha hb pa pb (l := b) (i := 0) (by omega)
          rw [List.getD_eq_getElem?_getD, hz'] at q
          have := h0 y2 my2 z hz
          rw [show (some z : Option Keyed).getD y2 = z from rfl] at q
          rw [this] at q
          cases q
        · exact e
      obtain ⟨x3, hx3, hx3', mx3⟩ := get_some C ha hb pa pb (l := b) (i := k2 - 1) (by omega)
      have hlt3 : lt x3 y2 = true := by
        have q := q2 (k2 - 1) (by omega)
        rw [List.getD_eq_getElem?_getD, hx3'] at q
        exact q
      have J3 : JH lt a b ((o).push x ++ (b.extract k2 (xb - 1)).reverse) xa k2 := J2.stepB C ha hb (by omega) b1 hy2 (fun i z i1 i2 hz => by
        have q := q3 i i1 i2
        rw [List.getD_eq_getElem?_getD, Array.getElem?_toList, hz] at q
        exact q)
      have hsz3 := J3.len
      have hlen2 := J2.len
      have hlen1 := J.len
      dsimp only
      rcases Nat.eq_zero_or_pos (xb - 1 - k2) with ek2 | pk2
      · have ek3 : k2 = xb - 1 := by omega
        rw [if_neg (by omega)]
        refine wpS_bind (wpS_elem hy2 ?_)
        subst ek3
        have J4 := J2.pushA C ha hb b1 (by omega) hy2 hx3 hlt3
        have s4 : (((o).push x).push y2).size = (o).size + 1 + 1 := by rw [Array.size_push, Array.size_push]
        by_cases e4 : xa - 1 = 0
        · rw [if_pos (by simpa using e4)]
          exact wpS_pure ⟨al4 _, .inl ⟨_, rfl, J4.done C ha hb e4⟩⟩
        rw [if_neg (by simpa using e4)]
        split
        · exact wpS_pure ⟨al4 _, .inr ⟨rfl, J4, by dsimp only; omega, by dsimp only; omega, by dsimp only; omega⟩⟩
        · exact wpS_pure ⟨al4 _, rfl, J4, by dsimp only; omega, by dsimp only; omega, by dsimp only; omega⟩
      rw [if_pos pk2]
      by_cases e5 : k2 = 1
      · rw [if_pos (by simpa using e5)]
        exact wpS_pure ⟨al4 _, .inl ⟨_, rfl, J3.first C ha hb e5 h0⟩⟩
      rw [if_neg (by simpa using e5), if_neg (by simp; omega)]
      refine wpS_bind (wpS_elem hy2 ?_)
      have J4 := J3.pushA C ha hb b1 (by omega) hy2 hx3 hlt3
      have hlen4 := J4.len
      by_cases e4 : xa - 1 = 0
      · rw [if_pos (by simpa using e4)]
        exact wpS_pure ⟨al4 _, .inl ⟨_, rfl, J4.done C ha hb e4⟩⟩
      rw [if_neg (by simpa using e4)]
      split
      · exact wpS_pure ⟨al4 _, .inr ⟨rfl, J4, by dsimp only; omega, by dsimp only; omega, by dsimp only; omega⟩⟩
      · exact wpS_pure ⟨al4 _, rfl, J4, by dsimp only; omega, by dsimp only; omega, by dsimp only; omega⟩
    rw [if_pos pk]
    by_cases e6 : k = 0
    · rw [if_pos (by simpa using e6)]
      exact wpS_pure ⟨al4 _, .inl ⟨_, rfl, J1'.done C ha hb e6⟩⟩
    rw [if_neg (by simpa using e6)]
    have hk1' : 1 ≤ k := by omega
    obtain ⟨y2, hy2, hy2', my2⟩ := get_some C ha hb pa pb (l := a) (i := k - 1) (by omega)
    have hlt2 : lt x y2 = false := by
      have q := p2 (k - 1) (by omega)
      rw [List.getD_eq_getElem?_getD, hy2'] at q
      simpa using q

    refine wpS_bind (wpS_elem hx ?_)
    have J2 := J1'.pushB C ha hb hk1' (by omega) hy2 hx hlt2
    have hsz2 : (((o ++ (a.extract k xa).reverse)).push x).size = ((o ++ (a.extract k xa).reverse)).size + 1 := by rw [Array.size_push]
    by_cases e2 : xb - 1 = 1
    · rw [if_pos (by simpa using e2)]
      exact wpS_pure ⟨al4 _, .inl ⟨_, rfl, J2.first C ha hb e2 h0⟩⟩
    rw [if_neg (by simpa using e2)]
    refine wpS_bind (wpS_elem hy2 ?_)
    have hxb2 : 2 ≤ xb - 1 := by omega
    have hxbs : xb - 1 ≤ b.size := J2.hnb
    refine wpS_bind (wpS_gallop C (B := fun i => lt (b.toList.getD i y2) y2) ((al4 _).k.trans hk) (pa y2 my2) ?_ ?_ (Nat.sub_lt (Nat.lt_of_lt_of_le (by decide) hxb2) (by decide)) fun k2 q1 q2 q3 => ?_)
    · intro i hi
      obtain ⟨z, hz, hz', mz⟩ := get_some C ha hb pa pb (l := b) (i := i) (by omega)
      refine ⟨z, by rw [Nat.zero_add]; exact hz, pb z mz, ?_⟩
      show lt z y2 = lt (b.toList.getD i y2) y2
      rw [List.getD_eq_getElem?_getD, hz']
      rfl
    · intro i' j' hij hj hbj
      obtain ⟨u, hu, hu', mu⟩ := get_some C ha hb pa pb (l := b) (i := i') (by omega)
      obtain ⟨v, hv, hv', mv⟩ := get_some C ha hb pa pb (l := b) (i := j') (by omega)
      rw [List.getD_eq_getElem?_getD, hv'] at hbj
      rw [List.getD_eq_getElem?_getD, hu']
      replace hbj : lt v y2 = true := hbj
      show lt u y2 = true
      cases hlu : lt u y2 with
      | true => rfl
      | false =>
        have hle : lt v u = false := hb.first hu' (C.irrefl u) v (by
          have := List.mem_of_getElem? (l := b.toList.drop i') (i := j' - i') (a := v) (by rw [List.getElem?_drop]; rw [show i' + (j' - i') = j' by omega]; exact hv')
          exact this)
        have := C.trans _ _ _ hlu hle
        rw [hbj] at this
        cases this
    have hk1 : 1 ≤ k2 := by
      rcases Nat.eq_zero_or_pos k2 with e | e
      · have q := q3 0 (by omega) (by omega)
        obtain ⟨z, hz, hz', mz⟩ := get_some C ha hb pa pb (l := b) (i := 0) (by omega)
        rw [List.getD_eq_getElem?_getD, hz'] at q
        have := h0 y2 my2 z hz
        rw [show (some z : Option Keyed).getD y2 = z from rfl] at q
        rw [this] at q
        cases q
      · exact e
    obtain ⟨x3, hx3, hx3', mx3⟩ := get_some C ha hb pa pb (l := b) (i := k2 - 1) (by omega)
    have hlt3 : lt x3 y2 = true := by
      have q := q2 (k2 - 1) (by omega)
      rw [List.getD_eq_getElem?_getD, hx3'] at q
      exact q
    have J3 : JH lt a b (((o ++ (a.extract k xa).reverse)).push x ++ (b.extract k2 (xb - 1)).reverse) k k2 := J2.stepB C ha hb (by omega) hk1' hy2 (fun i z i1 i2 hz => by
      have q := q3 i i1 i2
      rw [List.getD_eq_getElem?_getD, Array.getElem?_toList, hz] at q
      exact q)
    have hsz3 := J3.len
    have hlen2 := J2.len
    have hlen1 := J1'.len
    dsimp only
    rcases Nat.eq_zero_or_pos (xb - 1 - k2) with ek2 | pk2
    · have ek3 : k2 = xb - 1 := by omega
      rw [if_neg (by omega)]
      refine wpS_bind (wpS_elem hy2 ?_)
      subst ek3
      have J4 := J2.pushA C ha hb hk1' (by omega) hy2 hx3 hlt3
      have s4 : ((((o ++ (a.extract k xa).reverse)).push x).push y2).size = ((o ++ (a.extract k xa).reverse)).size + 1 + 1 := by rw [Array.size_push, Array.size_push]
      by_cases e4 : k - 1 = 0
      · rw [if_pos (by simpa using e4)]
        exact wpS_pure ⟨al4 _, .inl ⟨_, rfl, J4.done C ha hb e4⟩⟩
      rw [if_neg (by simpa using e4)]
      split
      · exact wpS_pure ⟨al4 _, .inr ⟨rfl, J4, by dsimp only; omega, by dsimp only; omega, by dsimp only; omega⟩⟩
      · exact wpS_pure ⟨al4 _, rfl, J4, by dsimp only; omega, by dsimp only; omega, by dsimp only; omega⟩
    rw [if_pos pk2]
    by_cases e5 : k2 = 1
    · rw [if_pos (by simpa using e5)]
      exact wpS_pure ⟨al4 _, .inl ⟨_, rfl, J3.first C ha hb e5 h0⟩⟩
    rw [if_neg (by simpa using e5), if_neg (by simp; omega)]
    refine wpS_bind (wpS_elem hy2 ?_)
    have J4 := J3.pushA C ha hb hk1' (by omega) hy2 hx3 hlt3
    have hlen4 := J4.len
    by_cases e4 : k - 1 = 0
    · rw [if_pos (by simpa using e4)]
      exact wpS_pure ⟨al4 _, .inl ⟨_, rfl, J4.done C ha hb e4⟩⟩
    rw [if_neg (by simpa using e4)]
    split
    · exact wpS_pure ⟨al4 _, .inr ⟨rfl, J4, by dsimp only; omega, by dsimp only; omega, by dsimp only; omega⟩⟩
    · exact wpS_pure ⟨al4 _, rfl, J4, by dsimp only; omega, by dsimp only; omega, by dsimp only; omega⟩
end
end
end Tim

set_option Elab.async false
set_option linter.all false
set_option maxRecDepth 100000
set_option maxHeartbeats 8000000
namespace Tim
open PySem PyProof.Rows
abbrev Asc (lt : Keyed → Keyed → Bool) (xs : Array Keyed) (lo hi : Nat) : Prop := ∀ i j x y, lo ≤ i → i < j → j < hi → xs[i]? = some x → xs[j]? = some y → lt y x = false
abbrev Dsc (lt : Keyed → Keyed → Bool) (xs : Array Keyed) (lo hi : Nat) : Prop := ∀ i j x y, lo ≤ i → i < j → j < hi → xs[i]? = some x → xs[j]? = some y → lt x y = false
abbrev Eqv (lt : Keyed → Keyed → Bool) (xs : Array Keyed) (lo hi : Nat) : Prop := ∀ i j x y, lo ≤ i → i < hi → lo ≤ j → j < hi → xs[i]? = some x → xs[j]? = some y → lt x y = false
/-- only the places from lo to hi have changed theirs among them -/
structure Seg (xs ys : Array Keyed) (lo hi : Nat) : Prop where
  perm : ys.Perm xs
  out : ∀ i : Nat, i < lo ∨ hi ≤ i → ys[i]? = xs[i]?
theorem Seg.refl (xs : Array Keyed) (lo hi : Nat) : Seg xs xs lo hi := ⟨Array.Perm.refl _, fun _ _ => rfl⟩
theorem Seg.trans {xs ys zs : Array Keyed} {lo hi : Nat} (a : Seg xs ys lo hi) (b : Seg ys zs lo hi) : Seg xs zs lo hi := ⟨b.perm.trans a.perm, fun i h => (b.out i h).trans (a.out i h)⟩
theorem Seg.wide {xs ys : Array Keyed} {lo hi lo' hi' : Nat} (a : Seg xs ys lo hi) (h1 : lo' ≤ lo) (h2 : hi ≤ hi') : Seg xs ys lo' hi' := ⟨a.perm, fun i h => a.out i (by omega)⟩
theorem Seg.size {xs ys : Array Keyed} {lo hi : Nat} (a : Seg xs ys lo hi) : ys.size = xs.size := a.perm.size_eq
theorem seg_mirror {xs : Array Keyed} {i j : Nat} (hj : j ≤ xs.size) : Seg xs (mirror xs i j ((j - i) / 2)) i j :=
  ⟨mirror_perm _ _ _ _, fun k h => by rw [getElem?_mirror_all hj, if_neg (by omega)]⟩
theorem Asc.congr {lt : Keyed → Keyed → Bool} {xs ys : Array Keyed} {lo hi : Nat} (h : Asc lt xs lo hi) (e : ∀ i : Nat, lo ≤ i → i < hi → ys[i]? = xs[i]?) : Asc lt ys lo hi := fun i j x y a b c d f => h i j x y a b c (by rw [← e i a (by omega)]; exact d) (by rw [← e j (by omega) c]; exact f)
section
variable {M : Model} {A : Around} {E : Value → Shared → Prop} {s : Shared} {κ : SortKind} {P : Keyed → Prop} {lt : Keyed → Keyed → Bool}
section
variable (C : Cmp M A E s κ P lt) {xs : Array Keyed} {lo hi n : Nat} {x y : Keyed}
include C
theorem Asc.more (h : Asc lt xs lo (lo + n)) (h1 : 1 ≤ n) (hx : xs[lo + n - 1]? = some x) (hy : xs[lo + n]? = some y) (hl : lt y x = false) : Asc lt xs lo (lo + (n + 1)) := by
  intro i j u v a b c d f
  rcases Nat.lt_or_ge j (lo + n) with hj | hj
  · exact h i j u v a b hj d f
  · have : j = lo + n := by omega
    subst this
    rw [hy] at f
    cases f
    rcases Nat.lt_or_ge i (lo + n - 1) with hi | hi
    · exact C.trans u x y (h i (lo + n - 1) u x a hi (by omega) d hx) hl
    · have : i = lo + n - 1 := by omega
      subst this
      rw [hx] at d
      cases d
      exact hl
theorem Dsc.more (h : Dsc lt xs lo (lo + n)) (h1 : 1 ≤ n) (hx : xs[lo + n - 1]? = some x) (hy : xs[lo + n]? = some y) (hl : lt x y = false) : Dsc lt xs lo (lo + (n + 1)) := by
  intro i j u v a b c d f
  rcases Nat.lt_or_ge j (lo + n) with hj | hj
  · exact h i j u v a b hj d f
  · have : j = lo + n := by omega
    subst this
    rw [hy] at f
    cases f
    rcases Nat.lt_or_ge i (lo + n - 1) with hi | hi
    · exact C.trans y x u hl (h i (lo + n - 1) u x a hi (by omega) d hx)
    · have : i = lo + n - 1 := by omega
      subst this
      rw [hx] at d
      cases d
      exact hl
theorem Dsc.flip (h : Dsc lt xs lo hi) (hs : hi ≤ xs.size) : Asc lt (mirror xs lo hi ((hi - lo) / 2)) lo hi := by
  intro i j u v a b c d f
  rw [getElem?_mirror_all hs, if_pos (by omega)] at d f
  exact h _ _ v u (by omega) (by omega) (by omega) f d
theorem Dsc.block {p : Nat} (h : Dsc lt xs lo hi) (e : Eqv lt xs p hi) (hp : lo ≤ p) (hs : hi ≤ xs.size) : Dsc lt (mirror xs p hi ((hi - p) / 2)) lo hi := by
  intro i j u v a b c d f
  rw [getElem?_mirror_all hs] at d f
  by_cases hj : p ≤ j ∧ j < hi
  · rw [if_pos hj] at f
    by_cases hi' : p ≤ i ∧ i < hi
    · rw [if_pos hi'] at d
      exact e _ _ u v (by omega) (by omega) (by omega) (by omega) d f
    · rw [if_neg hi'] at d
      exact h i _ u v a (by omega) (by omega) d f
  · rw [if_neg hj] at f
    rw [if_neg (by omega)] at d
    exact h i j u v a b c d f
/-- rising and falling at once: all alike -/
theorem Asc.eqv (h : Asc lt xs lo (lo + n)) (h1 : 1 ≤ n) (hn : lo + n ≤ xs.size) (hx : xs[lo]? = some x) (hy : xs[lo + n - 1]? = some y) (hl : lt x y = false) : Eqv lt xs lo (lo + n) := by
  have lox : ∀ i u, lo ≤ i → i < lo + n → xs[i]? = some u → lt u x = false := fun i u a b c => by
    rcases Nat.lt_or_ge lo i with hi | hi
    · exact h lo i x u (Nat.le_refl _) hi b hx c
    · have : i = lo := by omega
      subst this
      rw [hx] at c
      cases c
      exact C.irrefl x
  have hiy : ∀ i u, lo ≤ i → i < lo + n → xs[i]? = some u → lt y u = false := fun i u a b c => by
    rcases Nat.lt_or_ge i (lo + n - 1) with hi | hi
    · exact h i (lo + n - 1) u y a hi (by omega) c hy
    · have : i = lo + n - 1 := by omega
      subst this
      rw [hy] at c
      cases c
      exact C.irrefl y
  intro i j u v a b c d f g
  -- v at most y at most x at most u
  exact C.trans v y u (hiy j v c d g) (C.trans y x u hl (lox i u a b f))
theorem Eqv.dsc (h : Eqv lt xs lo hi) : Dsc lt xs lo hi := fun i j x y a b c d f => h i j x y a (by omega) (by omega) c d f
theorem Eqv.flip (h : Eqv lt xs lo hi) (hs : hi ≤ xs.size) : Eqv lt (mirror xs lo hi ((hi - lo) / 2)) lo hi := by
  intro i j u v a b c d f g
  rw [getElem?_mirror_all hs, if_pos (by omega)] at f g
  exact h _ _ u v (by omega) (by omega) (by omega) (by omega) f g
theorem Eqv.more {p : Nat} (h : Eqv lt xs p (lo + n)) (hp : p + 1 ≤ lo + n) (hx : xs[lo + n - 1]? = some x) (hy : xs[lo + n]? = some y) (h1 : lt y x = false) (h2 : lt x y = false) : Eqv lt xs p (lo + (n + 1)) := by
  have up : ∀ i u, p ≤ i → i < lo + n → xs[i]? = some u → lt u y = false ∧ lt y u = false := fun i u a b c =>
    ⟨C.trans y x u h2 (h i (lo + n - 1) u x a b (by omega) (by omega) c hx), C.trans u x y (h (lo + n - 1) i x u (by omega) (by omega) a b hx c) h1⟩
  intro i j u v a b c d f g
  rcases Nat.lt_or_ge i (lo + n) with hi | hi
  · rcases Nat.lt_or_ge j (lo + n) with hj | hj
    · exact h i j u v a hi c hj f g
    · have : j = lo + n := by omega
      subst this
      rw [hy] at g
      cases g
      exact (up i u a hi f).1
  · have : i = lo + n := by omega
    subst this
    rw [hy] at f
    cases f
    rcases Nat.lt_or_ge j (lo + n) with hj | hj
    · exact (up j v c hj g).2
    · have : j = lo + n := by omega
      subst this
      rw [hy] at g
      cases g
      exact C.irrefl y
theorem wpS_ltAt2 {st : SortSt} {i j : Nat} {Q : Option Bool → SortSt → Prop} (hk : kindOf st = κ) (hx : (arrOf st)[i]? = some x) (hy : (arrOf st)[j]? = some y) (px : P x) (py : P y) (q : Q (some (lt x y)) st) : wpS M A E s (ltAt' i j) Q st := by
  rw [ltAt'_eq]
  refine wpS_bind (wpS_get ?_)
  exact wpS_bind (wpS_elem hx (wpS_bind (wpS_elem hy (C.run x y st Q px py hk q))))
theorem wpS_rev {st : SortSt} {i j : Nat} {Q : Unit → SortSt → Prop} (q : Q () (setArr st (mirror (arrOf st) i j ((j - i) / 2)))) : wpS M A E s (reverseSlice' i j) Q st := by
  rw [reverseSlice'_eq]
  exact wpS_modify q
end
theorem get_at {xs : Array Keyed} {i : Nat} (h : i < xs.size) (pp : ∀ x ∈ xs.toList, P x) : ∃ x, xs[i]? = some x ∧ P x := ⟨xs[i], by simp [h], pp _ (by simp)⟩
theorem all_perm {xs ys : Array Keyed} (h : ys.Perm xs) (pp : ∀ x ∈ xs.toList, P x) : ∀ x ∈ ys.toList, P x := fun x hx => pp x ((Array.perm_iff_toList_perm.mp h).mem_iff.mp hx)
section
variable (C : Cmp M A E s κ P lt)
include C
/-- a run is counted, and turned round where it falls -/
theorem wpS_countRun {st : SortSt} {lo nrem : Nat} {Q : Option Nat → SortSt → Prop} (hk : kindOf st = κ) (pp : ∀ x ∈ (arrOf st).toList, P x) (h1 : 1 ≤ nrem) (hs : lo + nrem ≤ (arrOf st).size)
    (h : ∀ n xs, 1 ≤ n → n ≤ nrem → Seg (arrOf st) xs lo (lo + nrem) → Asc lt xs lo (lo + n) → Q (some n) (setArr st xs)) : wpS M A E s (countRun' lo nrem) Q st := by
  have up : ∀ {xs : Array Keyed} {n : Nat}, Seg (arrOf st) xs lo (lo + nrem) → n < nrem → ∃ y, xs[lo + n]? = some y ∧ P y := fun sg hn => get_at (by rw [sg.size]; omega) (all_perm sg.perm pp)
  rw [countRun'_eq]
  dsimp only
  refine wpS_bind (wpS_mono (wpS_forRange (fun i (c : Option (Option Nat) × Nat) st' => st' = st ∧ c.1 = none ∧ c.2 = i ∧ Asc lt (arrOf st) lo (lo + c.2))
    (Q := fun c st' => st' = st ∧ c.1 = none ∧ 1 ≤ c.2 ∧ c.2 ≤ nrem ∧ Asc lt (arrOf st) lo (lo + c.2) ∧ (c.2 < nrem → ∃ x y, (arrOf st)[lo + c.2 - 1]? = some x ∧ (arrOf st)[lo + c.2]? = some y ∧ lt y x = true))
    ?_ ?_ ⟨rfl, rfl, rfl, fun i j x y a b c => by dsimp only at c; omega⟩) ?_)
  · rintro i ⟨r, n⟩ st' g1 g2 ⟨rfl, rfl, rfl, hA⟩
    dsimp only at g1 g2 hA ⊢
    obtain ⟨y, hy, py⟩ := up (Seg.refl _ _ _) g2
    obtain ⟨x, hx, px⟩ := up (n := n - 1) (Seg.refl _ _ _) (by omega)
    rw [show lo + (n - 1) = lo + n - 1 by omega] at hx
    refine wpS_bind (wpS_ltAt2 C hk hy hx py px ?_)
    dsimp only
    cases hlt : lt y x with
    | true => exact wpS_pure ⟨rfl, rfl, g1, by dsimp only; omega, hA, fun _ => ⟨x, y, hx, hy, hlt⟩⟩
    | false => exact wpS_pure ⟨rfl, rfl, rfl, hA.more C g1 hx hy hlt⟩
  · rintro ⟨r, n⟩ st' ⟨rfl, rfl, rfl, hA⟩
    dsimp only at hA ⊢
    exact ⟨rfl, rfl, by omega, by omega, hA, fun _ => by omega⟩
  rintro ⟨r, n⟩ st' ⟨rfl, rfl, n1, n2, hA, hn⟩
  dsimp only at n1 n2 hA hn ⊢
  by_cases e : n = nrem
  · rw [if_pos (by simpa using e)]
    exact wpS_pure (h n (arrOf st') n1 n2 (Seg.refl _ _ _) hA)
  rw [if_neg (by simpa using e)]
  have hlt : n < nrem := by omega
  obtain ⟨x, y, hx, hy, hyx⟩ := hn hlt
  by_cases hn1 : n > 1
  · rw [if_pos hn1]
    obtain ⟨z, hz, pz⟩ := up (n := 0) (Seg.refl _ _ _) (by omega)
    obtain ⟨x', hx', px'⟩ := up (n := n - 1) (Seg.refl _ _ _) (by omega)
    rw [show lo + (n - 1) = lo + n - 1 by omega] at hx'
    rw [hx] at hx'
    cases hx'
    rw [Nat.add_zero] at hz
    refine wpS_bind (wpS_ltAt2 C hk hz hx pz px' ?_)
    dsimp only
    cases h3 : lt z x with
    | true => exact wpS_pure (h n (arrOf st') n1 n2 (Seg.refl _ _ _) hA)
    | false =>
      rw [if_neg (by simp)]
      have hE := hA.eqv C n1 (by omega) hz hx h3
      have hms : lo + n ≤ (arrOf st').size := by omega
      refine wpS_bind (wpS_rev C ?_)
      have sg := (seg_mirror (i := lo) hms).wide (lo' := lo) (hi' := lo + nrem) (Nat.le_refl _) (by omega)
      have hD : Dsc lt (mirror (arrOf st') lo (lo + n) ((lo + n - lo) / 2)) lo (lo + (n + 1)) := by
        have hE2 := hE.flip C hms
        have hD2 := Eqv.dsc C hE
        have hD3 := hD2.more C n1 hx hy (C.asym _ _ hyx)
        intro i j a b c1 c2 c3 c4 c5
        rcases Nat.lt_or_ge j (lo + n) with hj | hj
        · exact Eqv.dsc C hE2 i j a b c1 c2 hj c4 c5
        · have ej : j = lo + n := by omega
          subst ej
          rw [getElem?_mirror_all hms, if_neg (by omega)] at c5
          rw [getElem?_mirror_all hms, if_pos (by omega)] at c4
          exact hD3 _ (lo + n) a b (by omega) (by omega) (by omega) c4 c5
      generalize mirror (arrOf st') lo (lo + n) ((lo + n - lo) / 2) = xs at sg hD
      refine wpS_bind (wpS_rule ?_)
      refine wpS_bind (wpS_mono (wpS_forRange (fun i (c : Option (Option Nat) × Nat × Nat) st2 => ∃ ys, st2 = setArr st' ys ∧ c.1 = none ∧ c.2.1 = i ∧ n + 1 ≤ i ∧ i ≤ nrem ∧ c.2.2 + 1 ≤ c.2.1 ∧ Seg (arrOf st') ys lo (lo + nrem) ∧ Dsc lt ys lo (lo + c.2.1) ∧ Eqv lt ys (lo + c.2.1 - (c.2.2 + 1)) (lo + c.2.1))
        (Q := fun c st2 => ∃ ys, st2 = setArr st' ys ∧ c.1 = none ∧ n + 1 ≤ c.2.1 ∧ c.2.1 ≤ nrem ∧ c.2.2 + 1 ≤ c.2.1 ∧ Seg (arrOf st') ys lo (lo + nrem) ∧ Dsc lt ys lo (lo + c.2.1) ∧ Eqv lt ys (lo + c.2.1 - (c.2.2 + 1)) (lo + c.2.1))
        ?_ ?_ ⟨xs, rfl, rfl, rfl, Nat.le_refl _, hlt, by dsimp only; omega, sg, hD, fun i j u v a b c d f g => by
          have : i = j := by dsimp only at a b c d; omega
          subst this
          rw [f] at g
          cases g
          exact C.irrefl u⟩) ?_)
      · rintro i ⟨r, m, q⟩ st2 g1 g2 ⟨ys, rfl, rfl, rfl, g3, g4, g5, sgy, hD, hE⟩
        dsimp only at g1 g2 g3 g4 g5 hD hE ⊢
        obtain ⟨v, hv, pv⟩ := up sgy g2
        obtain ⟨u, hu, pu⟩ := up (n := m - 1) sgy (by omega)
        rw [show lo + (m - 1) = lo + m - 1 by omega] at hu
        refine wpS_bind (wpS_ltAt2 C hk (st := setArr st' ys) hv hu pv pu ?_)
        dsimp only
        have hms : lo + m ≤ ys.size := by rw [sgy.size]; omega
        cases h2 : lt v u with
        | true =>
          rw [if_pos rfl]
          have hD2 := hD.more C (by omega) hu hv (C.asym _ _ h2)
          have one : ∀ (zs : Array Keyed), Eqv lt zs (lo + (m + 1) - (0 + 1)) (lo + (m + 1)) := fun zs i j a b c1 c2 c3 c4 c5 c6 => by
            have : i = j := by omega
            subst this
            rw [c5] at c6
            cases c6
            exact C.irrefl a
          by_cases hq : q > 0
          · rw [if_pos hq]
            refine wpS_bind (wpS_rev C (wpS_pure ?_))
            have sgm := seg_mirror (xs := ys) (i := lo + m - (q + 1)) hms
            refine ⟨_, rfl, rfl, rfl, by omega, by omega, by dsimp only; omega, sgy.trans (sgm.wide (by omega) (by omega)), ?_, one _⟩
            -- the new one lies behind all of them
            intro i j a b c1 c2 c3 c4 c5
            dsimp only at c3
            have hb := hD.block C hE (by omega) hms
            rcases Nat.lt_or_ge j (lo + m) with hj | hj
            · exact hb i j a b c1 c2 hj c4 c5
            · have ej : j = lo + m := by omega
              subst ej
              have e5 : ys[lo + m]? = some b := by rw [← sgm.out (lo + m) (.inr (Nat.le_refl _))]; exact c5
              have c4' : (mirror ys (lo + m - (q + 1)) (lo + m) ((lo + m - (lo + m - (q + 1))) / 2))[i]? = some a := c4
              rw [getElem?_mirror_all hms] at c4'
              by_cases hi : lo + m - (q + 1) ≤ i ∧ i < lo + m
              · rw [if_pos hi] at c4'
                exact hD2 _ (lo + m) a b (by omega) (by omega) (by omega) c4' e5
              · rw [if_neg hi] at c4'
                exact hD2 i (lo + m) a b c1 (by omega) (by omega) c4' e5
          · rw [if_neg hq]
            exact wpS_pure ⟨ys, rfl, rfl, rfl, by omega, by omega, by dsimp only; omega, sgy, hD2, one _⟩
        | false =>
          rw [if_neg (by simp)]
          refine wpS_bind (wpS_ltAt2 C hk (st := setArr st' ys) hu hv pu pv ?_)
          dsimp only
          cases h3 : lt u v with
          | true => exact wpS_pure ⟨ys, rfl, rfl, g3, by dsimp only; omega, g5, sgy, hD, hE⟩
          | false =>
            refine wpS_pure ⟨ys, rfl, rfl, rfl, by omega, by omega, by dsimp only; omega, sgy, hD.more C (by omega) hu hv h3, ?_⟩
            have := hE.more C (by omega) hu hv h2 h3
            dsimp only
            rw [show lo + (m + 1) - (q + 1 + 1) = lo + m - (q + 1) by omega]
            exact this
      · rintro ⟨r, m, q⟩ st2 ⟨ys, rfl, rfl, g2, g3, g4, g5, sgy, hD, hE⟩
        dsimp only at g2 g3 g4 g5 hD hE ⊢
        exact ⟨ys, rfl, rfl, by omega, by omega, g5, sgy, hD, hE⟩
      · rintro ⟨r, m, q⟩ st2 ⟨ys, rfl, rfl, g3, g4, g5, sgy, hD, hE⟩
        dsimp only at g3 g4 g5 hD hE ⊢
        have hms : lo + m ≤ ys.size := by rw [sgy.size]; omega
        by_cases hq : q > 0
        · rw [if_pos hq]
          refine wpS_bind (wpS_rev C ?_)
          have sgz := sgy.trans ((seg_mirror (xs := ys) (i := lo + m - (q + 1)) hms).wide (lo' := lo) (hi' := lo + nrem) (by omega) (by omega))
          have hDz := hD.block C hE (by omega) hms
          show wpS M A E s _ Q (setArr st' (mirror ys (lo + m - (q + 1)) (lo + m) ((lo + m - (lo + m - (q + 1))) / 2)))
          generalize mirror ys (lo + m - (q + 1)) (lo + m) ((lo + m - (lo + m - (q + 1))) / 2) = ws at sgz hDz
          have hms : lo + m ≤ ws.size := by rw [sgz.size]; omega
          refine wpS_bind (wpS_rev C ?_)
          have sg2 : Seg (arrOf st') (mirror ws lo (lo + m) ((lo + m - lo) / 2)) lo (lo + nrem) := sgz.trans ((seg_mirror hms).wide (Nat.le_refl _) (by omega))
          have hA2 := Dsc.flip C hDz hms
          show wpS M A E s _ Q (setArr st' (mirror ws lo (lo + m) ((lo + m - lo) / 2)))
          generalize mirror ws lo (lo + m) ((lo + m - lo) / 2) = zs at sg2 hA2
          refine wpS_bind (wpS_forRange (fun i (c : Option (Option Nat) × Nat) st2 => st2 = setArr st' zs ∧ c.1 = none ∧ c.2 = i ∧ 1 ≤ i ∧ i ≤ nrem ∧ Asc lt zs lo (lo + c.2)) ?_ ?_ ⟨rfl, rfl, rfl, by omega, g4, hA2⟩)
          · rintro i ⟨r, n⟩ st2 g1 g2 ⟨rfl, rfl, rfl, g3, g4, hA⟩
            dsimp only at g1 g2 hA ⊢
            obtain ⟨y, hy, py⟩ := up sg2 g2
            obtain ⟨x, hx, px⟩ := up (n := n - 1) sg2 (by omega)
            rw [show lo + (n - 1) = lo + n - 1 by omega] at hx
            refine wpS_bind (wpS_ltAt2 C hk (st := setArr st' zs) hy hx py px ?_)
            dsimp only
            cases hlt : lt y x with
            | true => exact wpS_pure (wpS_pure (h n zs g3 g4 sg2 hA))
            | false => exact wpS_pure ⟨rfl, rfl, rfl, by omega, by omega, hA.more C g3 hx hy hlt⟩
          · rintro ⟨r, n⟩ st2 ⟨rfl, rfl, rfl, g3, g4, hA⟩
            exact wpS_pure (h _ zs g3 g4 sg2 hA)
        · rw [if_neg hq]
          have hms : lo + m ≤ ys.size := by rw [sgy.size]; omega
          refine wpS_bind (wpS_rev C ?_)
          have sg2 : Seg (arrOf st') (mirror ys lo (lo + m) ((lo + m - lo) / 2)) lo (lo + nrem) := sgy.trans ((seg_mirror hms).wide (Nat.le_refl _) (by omega))
          have hA2 := Dsc.flip C hD hms
          show wpS M A E s _ Q (setArr st' (mirror ys lo (lo + m) ((lo + m - lo) / 2)))
          generalize mirror ys lo (lo + m) ((lo + m - lo) / 2) = zs at sg2 hA2
          refine wpS_bind (wpS_forRange (fun i (c : Option (Option Nat) × Nat) st2 => st2 = setArr st' zs ∧ c.1 = none ∧ c.2 = i ∧ 1 ≤ i ∧ i ≤ nrem ∧ Asc lt zs lo (lo + c.2)) ?_ ?_ ⟨rfl, rfl, rfl, by omega, g4, hA2⟩)
          · rintro i ⟨r, n⟩ st2 g1 g2 ⟨rfl, rfl, rfl, g3, g4, hA⟩
            dsimp only at g1 g2 hA ⊢
            obtain ⟨y, hy, py⟩ := up sg2 g2
            obtain ⟨x, hx, px⟩ := up (n := n - 1) sg2 (by omega)
            rw [show lo + (n - 1) = lo + n - 1 by omega] at hx
            refine wpS_bind (wpS_ltAt2 C hk (st := setArr st' zs) hy hx py px ?_)
            dsimp only
            cases hlt : lt y x with
            | true => exact wpS_pure (wpS_pure (h n zs g3 g4 sg2 hA))
            | false => exact wpS_pure ⟨rfl, rfl, rfl, by omega, by omega, hA.more C g3 hx hy hlt⟩
          · rintro ⟨r, n⟩ st2 ⟨rfl, rfl, rfl, g3, g4, hA⟩
            exact wpS_pure (h _ zs g3 g4 sg2 hA)
  · rw [if_neg hn1]
    have en : n = 1 := by omega
    have sg := Seg.refl (arrOf st') lo (lo + nrem)
    have hD : Dsc lt (arrOf st') lo (lo + (n + 1)) := by
      subst en
      intro i j a b c1 c2 c3 c4 c5
      have ei : i = lo := by omega
      have ej : j = lo + 1 := by omega
      subst ei ej
      rw [hy] at c5
      cases c5
      rw [show i + 1 - 1 = i by omega, c4] at hx
      cases hx
      exact C.asym _ _ hyx
    obtain ⟨xs, exs⟩ : ∃ xs, xs = arrOf st' := ⟨_, rfl⟩
    show wpS M A E s _ Q (setArr st' (arrOf st'))
    have sg' : Seg (arrOf st') xs lo (lo + nrem) := by rw [exs]; exact sg
    have hD' : Dsc lt xs lo (lo + (n + 1)) := by rw [exs]; exact hD
    have est : setArr st' (arrOf st') = setArr st' xs := by rw [exs]
    rw [est]
    clear sg hD est exs
    have sg := sg'
    have hD := hD'
    refine wpS_bind (wpS_rule ?_)
    refine wpS_bind (wpS_mono (wpS_forRange (fun i (c : Option (Option Nat) × Nat × Nat) st2 => ∃ ys, st2 = setArr st' ys ∧ c.1 = none ∧ c.2.1 = i ∧ n + 1 ≤ i ∧ i ≤ nrem ∧ c.2.2 + 1 ≤ c.2.1 ∧ Seg (arrOf st') ys lo (lo + nrem) ∧ Dsc lt ys lo (lo + c.2.1) ∧ Eqv lt ys (lo + c.2.1 - (c.2.2 + 1)) (lo + c.2.1))
      (Q := fun c st2 => ∃ ys, st2 = setArr st' ys ∧ c.1 = none ∧ n + 1 ≤ c.2.1 ∧ c.2.1 ≤ nrem ∧ c.2.2 + 1 ≤ c.2.1 ∧ Seg (arrOf st') ys lo (lo + nrem) ∧ Dsc lt ys lo (lo + c.2.1) ∧ Eqv lt ys (lo + c.2.1 - (c.2.2 + 1)) (lo + c.2.1))
      ?_ ?_ ⟨xs, rfl, rfl, rfl, Nat.le_refl _, hlt, by dsimp only; omega, sg, hD, fun i j u v a b c d f g => by
        have : i = j := by dsimp only at a b c d; omega
        subst this
        rw [f] at g
        cases g
        exact C.irrefl u⟩) ?_)
    · rintro i ⟨r, m, q⟩ st2 g1 g2 ⟨ys, rfl, rfl, rfl, g3, g4, g5, sgy, hD, hE⟩
      dsimp only at g1 g2 g3 g4 g5 hD hE ⊢
      obtain ⟨v, hv, pv⟩ := up sgy g2
      obtain ⟨u, hu, pu⟩ := up (n := m - 1) sgy (by omega)
      rw [show lo + (m - 1) = lo + m - 1 by omega] at hu
      refine wpS_bind (wpS_ltAt2 C hk (st := setArr st' ys) hv hu pv pu ?_)
      dsimp only
      have hms : lo + m ≤ ys.size := by rw [sgy.size]; omega
      cases h2 : lt v u with
      | true =>
        rw [if_pos rfl]
        have hD2 := hD.more C (by omega) hu hv (C.asym _ _ h2)
        have one : ∀ (zs : Array Keyed), Eqv lt zs (lo + (m + 1) - (0 + 1)) (lo + (m + 1)) := fun zs i j a b c1 c2 c3 c4 c5 c6 => by
          have : i = j := by omega
          subst this
          rw [c5] at c6
          cases c6
          exact C.irrefl a
        by_cases hq : q > 0
        · rw [if_pos hq]
          refine wpS_bind (wpS_rev C (wpS_pure ?_))
          have sgm := seg_mirror (xs := ys) (i := lo + m - (q + 1)) hms
          refine ⟨_, rfl, rfl, rfl, by omega, by omega, by dsimp only; omega, sgy.trans (sgm.wide (by omega) (by omega)), ?_, one _⟩
          -- the new one lies behind all of them
          intro i j a b c1 c2 c3 c4 c5
          dsimp only at c3
          have hb := hD.block C hE (by omega) hms
          rcases Nat.lt_or_ge j (lo + m) with hj | hj
          · exact hb i j a b c1 c2 hj c4 c5
          · have ej : j = lo + m := by omega
            subst ej
            have e5 : ys[lo + m]? = some b := by rw [← sgm.out (lo + m) (.inr (Nat.le_refl _))]; exact c5
            have c4' : (mirror ys (lo + m - (q + 1)) (lo + m) ((lo + m - (lo + m - (q + 1))) / 2))[i]? = some a := c4
            rw [getElem?_mirror_all hms] at c4'
            by_cases hi : lo + m - (q + 1) ≤ i ∧ i < lo + m
            · rw [if_pos hi] at c4'
              exact hD2 _ (lo + m) a b (by omega) (by omega) (by omega) c4' e5
            · rw [if_neg hi] at c4'
              exact hD2 i (lo + m) a b c1 (by omega) (by omega) c4' e5
        · rw [if_neg hq]
          exact wpS_pure ⟨ys, rfl, rfl, rfl, by omega, by omega, by dsimp only; omega, sgy, hD2, one _⟩
      | false =>
        rw [if_neg (by simp)]
        refine wpS_bind (wpS_ltAt2 C hk (st := setArr st' ys) hu hv pu pv ?_)
        dsimp only
        cases h3 : lt u v with
        | true => exact wpS_pure ⟨ys, rfl, rfl, g3, by dsimp only; omega, g5, sgy, hD, hE⟩
        | false =>
          refine wpS_pure ⟨ys, rfl, rfl, rfl, by omega, by omega, by dsimp only; omega, sgy, hD.more C (by omega) hu hv h3, ?_⟩
          have := hE.more C (by omega) hu hv h2 h3
          dsimp only
          rw [show lo + (m + 1) - (q + 1 + 1) = lo + m - (q + 1) by omega]
          exact this
    · rintro ⟨r, m, q⟩ st2 ⟨ys, rfl, rfl, g2, g3, g4, g5, sgy, hD, hE⟩
      dsimp only at g2 g3 g4 g5 hD hE ⊢
      exact ⟨ys, rfl, rfl, by omega, by omega, g5, sgy, hD, hE⟩
    · rintro ⟨r, m, q⟩ st2 ⟨ys, rfl, rfl, g3, g4, g5, sgy, hD, hE⟩
      dsimp only at g3 g4 g5 hD hE ⊢
      have hms : lo + m ≤ ys.size := by rw [sgy.size]; omega
      by_cases hq : q > 0
      · rw [if_pos hq]
        refine wpS_bind (wpS_rev C ?_)
        have sgz := sgy.trans ((seg_mirror (xs := ys) (i := lo + m - (q + 1)) hms).wide (lo' := lo) (hi' := lo + nrem) (by omega) (by omega))
        have hDz := hD.block C hE (by omega) hms
        show wpS M A E s _ Q (setArr st' (mirror ys (lo + m - (q + 1)) (lo + m) ((lo + m - (lo + m - (q + 1))) / 2)))
        generalize mirror ys (lo + m - (q + 1)) (lo + m) ((lo + m - (lo + m - (q + 1))) / 2) = ws at sgz hDz
        have hms : lo + m ≤ ws.size := by rw [sgz.size]; omega
        refine wpS_bind (wpS_rev C ?_)
        have sg2 : Seg (arrOf st') (mirror ws lo (lo + m) ((lo + m - lo) / 2)) lo (lo + nrem) := sgz.trans ((seg_mirror hms).wide (Nat.le_refl _) (by omega))
        have hA2 := Dsc.flip C hDz hms
        show wpS M A E s _ Q (setArr st' (mirror ws lo (lo + m) ((lo + m - lo) / 2)))
        generalize mirror ws lo (lo + m) ((lo + m - lo) / 2) = zs at sg2 hA2
        refine wpS_bind (wpS_forRange (fun i (c : Option (Option Nat) × Nat) st2 => st2 = setArr st' zs ∧ c.1 = none ∧ c.2 = i ∧ 1 ≤ i ∧ i ≤ nrem ∧ Asc lt zs lo (lo + c.2)) ?_ ?_ ⟨rfl, rfl, rfl, by omega, g4, hA2⟩)
        · rintro i ⟨r, n⟩ st2 g1 g2 ⟨rfl, rfl, rfl, g3, g4, hA⟩
          dsimp only at g1 g2 hA ⊢
          obtain ⟨y, hy, py⟩ := up sg2 g2
          obtain ⟨x, hx, px⟩ := up (n := n - 1) sg2 (by omega)
          rw [show lo + (n - 1) = lo + n - 1 by omega] at hx
          refine wpS_bind (wpS_ltAt2 C hk (st := setArr st' zs) hy hx py px ?_)
          dsimp only
          cases hlt : lt y x with
          | true => exact wpS_pure (wpS_pure (h n zs g3 g4 sg2 hA))
          | false => exact wpS_pure ⟨rfl, rfl, rfl, by omega, by omega, hA.more C g3 hx hy hlt⟩
        · rintro ⟨r, n⟩ st2 ⟨rfl, rfl, rfl, g3, g4, hA⟩
          exact wpS_pure (h _ zs g3 g4 sg2 hA)
      · rw [if_neg hq]
        have hms : lo + m ≤ ys.size := by rw [sgy.size]; omega
        refine wpS_bind (wpS_rev C ?_)
        have sg2 : Seg (arrOf st') (mirror ys lo (lo + m) ((lo + m - lo) / 2)) lo (lo + nrem) := sgy.trans ((seg_mirror hms).wide (Nat.le_refl _) (by omega))
        have hA2 := Dsc.flip C hD hms
        show wpS M A E s _ Q (setArr st' (mirror ys lo (lo + m) ((lo + m - lo) / 2)))
        generalize mirror ys lo (lo + m) ((lo + m - lo) / 2) = zs at sg2 hA2
        refine wpS_bind (wpS_forRange (fun i (c : Option (Option Nat) × Nat) st2 => st2 = setArr st' zs ∧ c.1 = none ∧ c.2 = i ∧ 1 ≤ i ∧ i ≤ nrem ∧ Asc lt zs lo (lo + c.2)) ?_ ?_ ⟨rfl, rfl, rfl, by omega, g4, hA2⟩)
        · rintro i ⟨r, n⟩ st2 g1 g2 ⟨rfl, rfl, rfl, g3, g4, hA⟩
          dsimp only at g1 g2 hA ⊢
          obtain ⟨y, hy, py⟩ := up sg2 g2
          obtain ⟨x, hx, px⟩ := up (n := n - 1) sg2 (by omega)
          rw [show lo + (n - 1) = lo + n - 1 by omega] at hx
          refine wpS_bind (wpS_ltAt2 C hk (st := setArr st' zs) hy hx py px ?_)
          dsimp only
          cases hlt : lt y x with
          | true => exact wpS_pure (wpS_pure (h n zs g3 g4 sg2 hA))
          | false => exact wpS_pure ⟨rfl, rfl, rfl, by omega, by omega, hA.more C g3 hx hy hlt⟩
        · rintro ⟨r, n⟩ st2 ⟨rfl, rfl, rfl, g3, g4, hA⟩
          exact wpS_pure (h _ zs g3 g4 sg2 hA)
end
end
end Tim

set_option Elab.async false
set_option linter.all false
set_option maxRecDepth 100000
set_option maxHeartbeats 8000000
namespace Tim
open PySem PyProof.Rows
section
variable {M : Model} {A : Around} {E : Value → Shared → Prop} {s : Shared} {κ : SortKind} {P : Keyed → Prop} {lt : Keyed → Keyed → Bool}
theorem wpS_set {st st1 : SortSt} {Q : PUnit → SortSt → Prop} (h : Q ⟨⟩ st1) : wpS M A E s (set st1 : StateT SortSt Sem PUnit) Q st := by
  unfold wpS
  rw [StateT.run_set]
  exact wpAny_pure ⟨rfl, h⟩
section
variable (C : Cmp M A E s κ P lt)
include C
/-- insertion: what stands sorted grows by one at a time -/
theorem wpS_binarySort {st : SortSt} {lo n ok : Nat} {Q : Bool → SortSt → Prop} (hk : kindOf st = κ) (pp : ∀ x ∈ (arrOf st).toList, P x) (hs : lo + n ≤ (arrOf st).size) (h1 : 1 ≤ ok) (hok : ok ≤ n) (hA : Asc lt (arrOf st) lo (lo + ok))
    (h : ∀ xs, Seg (arrOf st) xs lo (lo + n) → Asc lt xs lo (lo + n) → Q true (setArr st xs)) : wpS M A E s (binarySort' lo n ok) Q st := by
  have up : ∀ {xs : Array Keyed} {m : Nat}, Seg (arrOf st) xs lo (lo + n) → m < n → ∃ y, xs[lo + m]? = some y ∧ P y := fun sg hn => get_at (by rw [sg.size]; omega) (all_perm sg.perm pp)
  rw [binarySort'_eq]
  have em : max ok 1 = ok := by omega
  rw [em]
  refine wpS_bind (wpS_mono (wpS_forRange (fun k (c : Option Bool × Unit) st' => c.1 = none ∧ ∃ xs, st' = setArr st xs ∧ Seg (arrOf st) xs lo (lo + n) ∧ Asc lt xs lo (lo + k))
    (Q := fun c st' => c.1 = none ∧ ∃ xs, st' = setArr st xs ∧ Seg (arrOf st) xs lo (lo + n) ∧ Asc lt xs lo (lo + n)) ?_ ?_ ⟨rfl, arrOf st, rfl, Seg.refl _ _ _, hA⟩) ?_)
  · rintro k ⟨r, u⟩ st' g1 g2 ⟨rfl, xs, rfl, sg, hA⟩
    dsimp only at hA ⊢
    obtain ⟨p, hp, pp1⟩ := up sg g2
    have hsz : lo + n ≤ xs.size := by rw [sg.size]; exact hs
    refine wpS_bind (wpS_mono (wpS_forRange (fun i (c : Option Bool × Nat × Nat) st2 => st2 = setArr st xs ∧ c.1 = none ∧ c.2.1 ≤ c.2.2 ∧ c.2.2 ≤ k ∧ c.2.2 - c.2.1 + i ≤ k ∧ (∀ j x, j < c.2.1 → xs[lo + j]? = some x → lt p x = false) ∧ (∀ j x, c.2.2 ≤ j → j < k → xs[lo + j]? = some x → lt p x = true))
      (Q := fun c st2 => st2 = setArr st xs ∧ c.1 = none ∧ c.2.1 ≤ k ∧ (∀ j x, j < c.2.1 → xs[lo + j]? = some x → lt p x = false) ∧ (∀ j x, c.2.1 ≤ j → j < k → xs[lo + j]? = some x → lt p x = true))
      ?_ ?_ ⟨rfl, rfl, Nat.zero_le _, Nat.le_refl _, by dsimp only; omega, fun j x a => by dsimp only at a; omega, fun j x a b => by dsimp only at a; omega⟩) ?_)
    · rintro i ⟨r, l, m⟩ st2 _ hi ⟨rfl, rfl, b1, b2, b3, b4, b5⟩
      dsimp only at b1 b2 b3 b4 b5 ⊢
      by_cases hge : l ≥ m
      · rw [if_pos hge]
        have e : l = m := by omega
        subst e
        exact wpS_pure ⟨rfl, rfl, b2, b4, b5⟩
      · rw [if_neg hge]
        obtain ⟨x, hx, px⟩ := up sg (m := (l + m) / 2) (by omega)
        refine wpS_bind (wpS_ltAt2 C hk (st := setArr st xs) hp hx pp1 px ?_)
        dsimp only
        cases hlt : lt p x with
        | true =>
          refine wpS_pure ⟨rfl, rfl, by dsimp only; omega, by dsimp only; omega, by dsimp only; omega, b4, fun j y c1 c2 c3 => ?_⟩
          dsimp only at c1
          rcases Nat.lt_or_ge ((l + m) / 2) j with c4 | c4
          · have := hA (lo + (l + m) / 2) (lo + j) x y (by omega) (by omega) (by omega) hx c3
            cases hpy : lt p y with
            | true => rfl
            | false =>
              have z := C.trans x y p this hpy
              rw [hlt] at z
              cases z
          · have : j = (l + m) / 2 := by omega
            subst this
            rw [hx] at c3
            cases c3
            exact hlt
        | false =>
          refine wpS_pure ⟨rfl, rfl, by dsimp only; omega, b2, by dsimp only; omega, fun j y c1 c3 => ?_, b5⟩
          dsimp only at c1
          rcases Nat.lt_or_ge j ((l + m) / 2) with c4 | c4
          · exact C.trans y x p (hA (lo + j) (lo + (l + m) / 2) y x (by omega) (by omega) (by omega) c3 hx) hlt
          · have : j = (l + m) / 2 := by omega
            subst this
            rw [hx] at c3
            cases c3
            exact hlt
    · rintro ⟨r, l, m⟩ st2 ⟨rfl, rfl, b1, b2, b3, b4, b5⟩
      dsimp only at b1 b2 b3 b4 b5 ⊢
      have e : l = m := by omega
      subst e
      exact ⟨rfl, rfl, b2, b4, b5⟩
    · rintro ⟨r, l, m⟩ st2 ⟨rfl, rfl, b1, b2, b3⟩
      dsimp only at b1 b2 b3 ⊢
      rw [moveDown'_eq]
      refine wpS_bind (wpS_modify (wpS_pure ⟨rfl, bubble xs (lo + k) (lo + k - (lo + l)), rfl, ?_, ?_⟩))
      · refine sg.trans ⟨bubble_perm _ _ _, fun i hi => ?_⟩
        rw [getElem?_bubble (by omega) _ (by omega), if_neg (by omega), if_neg (by omega)]
      · intro i j x y c1 c2 c3 c4 c5
        rw [getElem?_bubble (by omega) _ (by omega)] at c4 c5
        have e1 : lo + k - (lo + k - (lo + l)) = lo + l := by omega
        rw [e1] at c4 c5
        by_cases i1 : i = lo + l
        · rw [if_pos i1, hp] at c4
          cases c4
          rw [if_neg (by omega), if_pos (by omega)] at c5
          exact C.asym _ _ (b3 (j - 1 - lo) y (by omega) (by omega) (by rw [show lo + (j - 1 - lo) = j - 1 by omega]; exact c5))
        · rw [if_neg i1] at c4
          by_cases j1 : j = lo + l
          · rw [if_pos j1, hp] at c5
            cases c5
            rw [if_neg (by omega)] at c4
            exact b2 (i - lo) x (by omega) (by rw [show lo + (i - lo) = i by omega]; exact c4)
          · rw [if_neg j1] at c5
            by_cases i2 : lo + l < i ∧ i ≤ lo + k
            · rw [if_pos i2] at c4
              rw [if_pos (by omega)] at c5
              exact hA (i - 1) (j - 1) x y (by omega) (by omega) (by omega) c4 c5
            · rw [if_neg i2] at c4
              by_cases j2 : lo + l < j ∧ j ≤ lo + k
              · rw [if_pos j2] at c5
                exact hA i (j - 1) x y c1 (by omega) (by omega) c4 c5
              · rw [if_neg j2] at c5
                exact hA i j x y c1 c2 (by omega) c4 c5
  · rintro ⟨r, u⟩ st' ⟨rfl, xs, rfl, sg, hA⟩
    have e : max ok n = n := by omega
    rw [e] at hA
    exact ⟨rfl, xs, rfl, sg, hA⟩
  · rintro ⟨r, u⟩ st' ⟨rfl, xs, rfl, sg, hA⟩
    exact wpS_pure (h xs sg hA)
end
/-! ### writing back -/
theorem write_get : ∀ (l : List Keyed) (xs : Array Keyed) (o n : Nat), o + n + l.length ≤ xs.size → ∀ i : Nat,
    ((l.zipIdx n).foldl (fun a (p : Keyed × Nat) => a.setIfInBounds (o + p.2) p.1) xs)[i]? = if o + n ≤ i ∧ i < o + n + l.length then l[i - (o + n)]? else xs[i]?
  | [], xs, o, n, _, i => by
    show xs[i]? = _
    rw [if_neg (by rw [List.length_nil]; omega)]
  | x :: l, xs, o, n, h, i => by
    rw [List.zipIdx_cons, List.foldl_cons]
    rw [List.length_cons] at h ⊢
    rw [write_get l _ o (n + 1) (by rw [Array.size_setIfInBounds]; omega) i]
    by_cases c1 : o + (n + 1) ≤ i ∧ i < o + (n + 1) + l.length
    · rw [if_pos c1, if_pos (by omega)]
      rw [show i - (o + n) = (i - (o + (n + 1))) + 1 by omega, List.getElem?_cons_succ]
    · rw [if_neg c1]
      by_cases c2 : i = o + n
      · subst c2
        rw [if_pos (by omega), Nat.sub_self, Array.getElem?_setIfInBounds, if_pos rfl, if_pos (by omega)]
        rfl
      · rw [if_neg (by omega), Array.getElem?_setIfInBounds, if_neg (by omega)]
theorem write_toList {l : List Keyed} {xs ys : Array Keyed} {o : Nat} (h : o + l.length ≤ xs.size) (hy : ∀ i : Nat, ys[i]? = if o ≤ i ∧ i < o + l.length then l[i - o]? else xs[i]?) : ys.toList = xs.toList.take o ++ l ++ xs.toList.drop (o + l.length) := by
  have hl : xs.toList.length = xs.size := by simp
  apply List.ext_getElem?
  intro i
  rw [Array.getElem?_toList, hy i]
  by_cases c1 : i < o
  · rw [if_neg (by omega), List.append_assoc, List.getElem?_append_left (by rw [List.length_take, hl]; omega), List.getElem?_take_of_lt c1, Array.getElem?_toList]
  · by_cases c2 : i < o + l.length
    · rw [if_pos (by omega), List.getElem?_append_left (by rw [List.length_append, List.length_take, hl]; omega), List.getElem?_append_right (by rw [List.length_take, hl]; omega)]
      rw [List.length_take, hl]
      congr 1
      omega
    · rw [if_neg (by omega), List.getElem?_append_right (by rw [List.length_append, List.length_take, hl]; omega), List.getElem?_drop, Array.getElem?_toList]
      rw [List.length_append, List.length_take, hl]
      congr 1
      omega
theorem srt_of_asc {xs : Array Keyed} {lo hi : Nat} (h : Asc lt xs lo hi) (hs : hi ≤ xs.size) : Srt lt (xs.extract lo hi).toList := by
  rw [Array.toList_extract, List.extract_eq_drop_take]
  refine List.pairwise_iff_getElem.mpr fun i j h1 h2 hij => ?_
  rw [List.length_take, List.length_drop, Array.length_toList] at h1 h2
  have e : ∀ n (hn : n < (List.take (hi - lo) (List.drop lo xs.toList)).length), xs[lo + n]? = some (List.take (hi - lo) (List.drop lo xs.toList))[n] := by
    intro n hn
    rw [← Array.getElem?_toList, ← List.getElem?_drop, List.getElem_take]
    exact List.getElem?_eq_getElem _
  exact h (lo + i) (lo + j) _ _ (by omega) (by omega) (by omega) (e i _) (e j _)
theorem mem_ext {xs : Array Keyed} {lo hi : Nat} {u : Keyed} (h : u ∈ (xs.extract lo hi).toList) : ∃ n, lo ≤ n ∧ n < hi ∧ n < xs.size ∧ xs[n]? = some u := by
  obtain ⟨n, hn, en⟩ := Array.mem_iff_getElem.mp (Array.mem_toList_iff.mp h)
  rw [Array.size_extract] at hn
  rw [Array.getElem_extract] at en
  exact ⟨lo + n, by omega, by omega, by omega, by rw [← en]; simp⟩
theorem ext_get {xs : Array Keyed} {lo hi n : Nat} (h : n < hi - lo) (hs : hi ≤ xs.size) : (xs.extract lo hi)[n]? = xs[lo + n]? := by
  rw [Array.getElem?_extract, if_pos (by omega)]
end
end Tim

set_option Elab.async false
set_option linter.all false
set_option maxRecDepth 100000
set_option maxHeartbeats 8000000
namespace Tim
open PySem PyProof.Rows
section
variable {M : Model} {A : Around} {E : Value → Shared → Prop} {s : Shared} {κ : SortKind} {P : Keyed → Prop} {lt : Keyed → Keyed → Bool}
section
variable (C : Cmp M A E s κ P lt)
include C
/-- two runs that stand one behind the other, the one at most the other -/
theorem Asc.join {xs : Array Keyed} {lo mid hi : Nat} (h1 : Asc lt xs lo mid) (h2 : Asc lt xs mid hi) (hc : ∀ i j x y, lo ≤ i → i < mid → mid ≤ j → j < hi → xs[i]? = some x → xs[j]? = some y → lt y x = false) : Asc lt xs lo hi := by
  intro i j x y a b c d f
  rcases Nat.lt_or_ge j mid with hj | hj
  · exact h1 i j x y a b hj d f
  · rcases Nat.lt_or_ge i mid with hi | hi
    · exact hc i j x y a hi hj c d f
    · exact h2 i j x y hi b c d f
theorem Asc.sub {xs : Array Keyed} {lo hi lo' hi' : Nat} (h : Asc lt xs lo hi) (h1 : lo ≤ lo') (h2 : hi' ≤ hi) : Asc lt xs lo' hi' := fun i j x y a b c d f => h i j x y (by omega) b (by omega) d f
theorem Asc.le {xs : Array Keyed} {lo hi i j : Nat} {x y : Keyed} (h : Asc lt xs lo hi) (a : lo ≤ i) (b : i ≤ j) (c : j < hi) (d : xs[i]? = some x) (f : xs[j]? = some y) : lt y x = false := by
  rcases Nat.lt_or_ge i j with hij | hij
  · exact h i j x y a hij c d f
  · have : i = j := by omega
    subst this
    rw [d] at f
    cases f
    exact C.irrefl x
theorem wpS_mergeAt {st : SortSt} {i sa na pw sb nb pw2 : Nat} {Q : Bool → SortSt → Prop} (hk : kindOf st = κ) (pp : ∀ x ∈ (arrOf st).toList, P x) (hf : failedOf st = none)
    (hpi : (pendingOf st)[i]? = some (sa, na, pw)) (hpj : (pendingOf st)[i + 1]? = some (sb, nb, pw2)) (hsb : sb = sa + na) (h1 : 1 ≤ na) (h2 : 1 ≤ nb) (hs : sb + nb ≤ (arrOf st).size)
    (hA : Asc lt (arrOf st) sa sb) (hB : Asc lt (arrOf st) sb (sb + nb))
    (h : ∀ st', kindOf st' = κ → failedOf st' = none → pendingOf st' = ((pendingOf st).setIfInBounds i (sa, na + nb, pw)).eraseIdxIfInBounds (i + 1) → Seg (arrOf st) (arrOf st') sa (sb + nb) → Asc lt (arrOf st') sa (sb + nb) → Q true st') :
    wpS M A E s (mergeAt' i) Q st := by
  have ga : ∀ n, n < (arrOf st).size → ∃ x, (arrOf st)[n]? = some x ∧ P x := fun n hn => get_at hn pp
  unfold mergeAt'
  refine wpS_bind (wpS_get ?_)
  rw [hpi, hpj]
  refine wpS_bind (wpS_set ?_)
  obtain ⟨b0, hb0, pb0⟩ := ga sb (by omega)
  refine wpS_bind (wpS_elem hb0 ?_)
  refine wpS_bind (wpS_gallop C (st := setPending st (((pendingOf st).setIfInBounds i (sa, na + nb, pw)).eraseIdxIfInBounds (i + 1))) (B := fun n => !lt b0 (((arrOf st)[sa + n]?).getD b0)) hk pb0 ?_ ?_ h1 fun k p1 p2 p3 => ?_)
  · intro n hn
    obtain ⟨z, hz, pz⟩ := ga (sa + n) (by omega)
    exact ⟨z, hz, pz, by rw [hz]; rfl⟩
  · intro n m hnm hm hb
    obtain ⟨u, hu, pu⟩ := ga (sa + n) (by omega)
    obtain ⟨v, hv, pv⟩ := ga (sa + m) (by omega)
    rw [hv] at hb
    rw [hu]
    replace hb : (!lt b0 v) = true := hb
    show (!lt b0 u) = true
    have z : lt b0 v = false := by simpa using hb
    rw [C.trans u v b0 (hA.le C (by omega) (by omega) (by omega) hu hv) z]
    rfl
  dsimp only
  have lowA : ∀ n u, sa ≤ n → n < sa + k → (arrOf st)[n]? = some u → lt b0 u = false := fun n u c1 c2 c3 => by
    have q := p2 (n - sa) (by omega)
    rw [show sa + (n - sa) = n by omega, c3] at q
    simpa using q
  have highA : ∀ n u, sa + k ≤ n → n < sb → (arrOf st)[n]? = some u → lt b0 u = true := fun n u c1 c2 c3 => by
    have q := p3 (n - sa) (by omega) (by omega)
    rw [show sa + (n - sa) = n by omega, c3] at q
    simpa using q
  by_cases e0 : na - k = 0
  · rw [if_pos (by simpa using e0)]
    refine wpS_pure (h _ hk hf rfl (Seg.refl _ _ _) ?_)
    refine Asc.join C hA hB fun n m u v c1 c2 c3 c4 c5 c6 => ?_
    exact C.trans u b0 v (lowA n u c1 (by omega) c5) (hB.le C (Nat.le_refl _) c3 c4 hb0 c6)
  rw [if_neg (by simpa using e0)]
  have hkn : k < na := by omega
  obtain ⟨al, hal, pal⟩ := ga (sa + k + (na - k) - 1) (by omega)
  have ela : sa + k + (na - k) - 1 = sb - 1 := by omega
  refine wpS_bind (wpS_elem hal ?_)
  refine wpS_bind (wpS_gallop C (st := setPending st (((pendingOf st).setIfInBounds i (sa, na + nb, pw)).eraseIdxIfInBounds (i + 1))) (B := fun n => lt (((arrOf st)[sb + n]?).getD al) al) hk pal ?_ ?_ (Nat.sub_lt h2 (by decide)) fun m q1 q2 q3 => ?_)
  · intro n hn
    obtain ⟨z, hz, pz⟩ := ga (sb + n) (by omega)
    exact ⟨z, hz, pz, by rw [hz]; rfl⟩
  · intro n j hnj hj hb
    obtain ⟨u, hu, pu⟩ := ga (sb + n) (by omega)
    obtain ⟨v, hv, pv⟩ := ga (sb + j) (by omega)
    rw [hv] at hb
    rw [hu]
    replace hb : lt v al = true := hb
    show lt u al = true
    cases hu2 : lt u al with
    | true => rfl
    | false =>
      have z := C.trans al u v hu2 (hB.le C (by omega) (by omega) (by omega) hu hv)
      rw [hb] at z
      cases z
  rw [ela] at hal
  dsimp only
  have lowB : ∀ n u, sb ≤ n → n < sb + m → (arrOf st)[n]? = some u → lt u al = true := fun n u c1 c2 c3 => by
    have q := q2 (n - sb) (by omega)
    rw [show sb + (n - sb) = n by omega, c3] at q
    exact q
  have highB : ∀ n u, sb + m ≤ n → n < sb + nb → (arrOf st)[n]? = some u → lt u al = false := fun n u c1 c2 c3 => by
    have q := q3 (n - sb) (by omega) (by omega)
    rw [show sb + (n - sb) = n by omega, c3] at q
    exact q
  have hm : 1 ≤ m := by
    rcases Nat.eq_zero_or_pos m with e | e
    · have z := highB sb b0 (by omega) (by omega) hb0
      rw [highA (sb - 1) al (by omega) (by omega) hal] at z
      cases z
    · exact e
  rw [if_neg (by simp; omega)]
  -- the merge
  have hx := srt_of_asc (hA.sub C (lo' := sa + k) (hi' := sb) (by omega) (Nat.le_refl _)) (by omega)
  have hy := srt_of_asc (hB.sub C (lo' := sb) (hi' := sb + m) (Nat.le_refl _) (by omega)) (by omega)
  have px : ∀ u ∈ ((arrOf st).extract (sa + k) sb).toList, P u := fun u hu => by
    obtain ⟨n, _, _, _, e⟩ := mem_ext hu
    exact pp u (by rw [← Array.getElem?_toList] at e; exact List.mem_of_getElem? e)
  have py : ∀ u ∈ ((arrOf st).extract sb (sb + m)).toList, P u := fun u hu => by
    obtain ⟨n, _, _, _, e⟩ := mem_ext hu
    exact pp u (by rw [← Array.getElem?_toList] at e; exact List.mem_of_getElem? e)
  have sx : ((arrOf st).extract (sa + k) sb).size = na - k := by rw [Array.size_extract]; omega
  have sy : ((arrOf st).extract sb (sb + m)).size = m := by rw [Array.size_extract]; omega
  have f0 : ∀ u ∈ ((arrOf st).extract (sa + k) sb).toList, ∀ v, ((arrOf st).extract sb (sb + m))[0]? = some v → lt v u = true := fun u hu v hv => by
    obtain ⟨n, c1, c2, _, e⟩ := mem_ext hu
    rw [ext_get (by omega) (by omega), Nat.add_zero, hb0] at hv
    cases hv
    exact highA n u c1 c2 e
  have fl : ∀ u ∈ ((arrOf st).extract sb (sb + m)).toList, ∀ v, ((arrOf st).extract (sa + k) sb)[((arrOf st).extract (sa + k) sb).size - 1]? = some v → lt u v = true := fun u hu v hv => by
    obtain ⟨n, c1, c2, _, e⟩ := mem_ext hu
    rw [sx, ext_get (by omega) (by omega), show sa + k + (na - k - 1) = sb - 1 by omega, hal] at hv
    cases hv
    exact lowB n u c1 c2 e
  have fin : ∀ (r : Array Keyed) (st2 : SortSt), Alike (setPending st (((pendingOf st).setIfInBounds i (sa, na + nb, pw)).eraseIdxIfInBounds (i + 1))) st2 → Res lt ((arrOf st).extract (sa + k) sb).toList ((arrOf st).extract sb (sb + m)).toList r.toList →
      wpS M A E s (do
        modify fun s => setArr s (r.toList.zipIdx.foldl (fun a (p : Keyed × Nat) => a.setIfInBounds (sa + k + p.2) p.1) (arrOf s))
        return (failedOf (← get)).isNone) Q st2 := by
    intro r st2 al2 res
    refine wpS_bind (wpS_modify (wpS_bind (wpS_get (wpS_pure ?_))))
    have er : r.toList.length = (na - k) + m := by
      have := res.1.length_eq
      rw [List.length_append, Array.length_toList (xs := (arrOf st).extract (sa + k) sb), Array.length_toList (xs := (arrOf st).extract sb (sb + m)), sx, sy] at this
      exact this
    have ea : arrOf st2 = arrOf st := al2.a
    have wr := write_get r.toList (arrOf st) (sa + k) 0 (by omega)
    rw [Nat.add_zero, er] at wr
    have wl := write_toList (l := r.toList) (xs := arrOf st) (ys := r.toList.zipIdx.foldl (fun a (p : Keyed × Nat) => a.setIfInBounds (sa + k + p.2) p.1) (arrOf st)) (o := sa + k) (by omega) (by rw [er]; exact wr)
    have hsplit : (arrOf st).toList = (arrOf st).toList.take (sa + k) ++ (((arrOf st).extract (sa + k) sb).toList ++ ((arrOf st).extract sb (sb + m)).toList) ++ (arrOf st).toList.drop (sa + k + r.toList.length) := by
      rw [er, Array.toList_extract, Array.toList_extract, List.extract_eq_drop_take, List.extract_eq_drop_take]
      have t1 : (arrOf st).toList = (arrOf st).toList.take (sa + k) ++ (arrOf st).toList.drop (sa + k) := (List.take_append_drop _ _).symm
      have t2 : (arrOf st).toList.drop (sa + k) = ((arrOf st).toList.drop (sa + k)).take (sb - (sa + k)) ++ (arrOf st).toList.drop sb := by
        have := (List.take_append_drop (sb - (sa + k)) ((arrOf st).toList.drop (sa + k))).symm
        rw [List.drop_drop, show sa + k + (sb - (sa + k)) = sb by omega] at this
        exact this
      have t3 : (arrOf st).toList.drop sb = ((arrOf st).toList.drop sb).take (sb + m - sb) ++ (arrOf st).toList.drop (sb + m) := by
        have := (List.take_append_drop (sb + m - sb) ((arrOf st).toList.drop sb)).symm
        rw [List.drop_drop, show sb + (sb + m - sb) = sb + m by omega] at this
        exact this
      rw [show sa + k + (na - k + m) = sb + m by omega]
      rw [List.append_assoc, List.append_assoc, ← t3, ← t2]
      exact t1
    rw [show failedOf (setArr st2 (r.toList.zipIdx.foldl (fun a (p : Keyed × Nat) => a.setIfInBounds (sa + k + p.2) p.1) (arrOf st2))) = none from al2.f.trans hf]
    refine h _ (al2.k.trans hk) (al2.f.trans hf) al2.p ?_ ?_
    · show Seg (arrOf st) (r.toList.zipIdx.foldl (fun a (p : Keyed × Nat) => a.setIfInBounds (sa + k + p.2) p.1) (arrOf st2)) sa (sb + nb)
      rw [ea]
      refine ⟨Array.perm_iff_toList_perm.mpr ?_, fun n hn => ?_⟩
      · rw [wl]
        refine List.Perm.trans ?_ (List.Perm.of_eq hsplit.symm)
        exact List.Perm.append_right _ (List.Perm.append_left _ res.1)
      · rw [wr n, if_neg (by omega)]
    · show Asc lt (r.toList.zipIdx.foldl (fun a (p : Keyed × Nat) => a.setIfInBounds (sa + k + p.2) p.1) (arrOf st2)) sa (sb + nb)
      rw [ea]
      -- what stands in the middle is of both
      have mid : ∀ n u, sa + k ≤ n → n < sb + m → r.toList[n - (sa + k)]? = some u → (∃ j, sa + k ≤ j ∧ j < sb ∧ (arrOf st)[j]? = some u) ∨ (∃ j, sb ≤ j ∧ j < sb + m ∧ (arrOf st)[j]? = some u) := fun n u c1 c2 c3 => by
        have mu := res.1.mem_iff.mp (List.mem_of_getElem? c3)
        rcases List.mem_append.mp mu with z | z
        · obtain ⟨j, d1, d2, _, d3⟩ := mem_ext z
          exact .inl ⟨j, d1, d2, d3⟩
        · obtain ⟨j, d1, d2, _, d3⟩ := mem_ext z
          exact .inr ⟨j, d1, d2, d3⟩
      intro n j u v c1 c2 c3 c4 c5
      rw [wr n] at c4
      rw [wr j] at c5
      have b0le : ∀ j v, sb ≤ j → j < sb + nb → (arrOf st)[j]? = some v → lt v b0 = false := fun j v d1 d2 d3 => hB.le C (Nat.le_refl _) d1 d2 hb0 d3
      have alge : ∀ j v, sa ≤ j → j < sb → (arrOf st)[j]? = some v → lt al v = false := fun j v d1 d2 d3 => hA.le C d1 (by omega) (by omega) d3 hal
      by_cases n1 : n < sa + k
      · rw [if_neg (by omega)] at c4
        have un := lowA n u c1 n1 c4
        by_cases j1 : j < sa + k
        · rw [if_neg (by omega)] at c5
          exact hA n j u v c1 c2 (by omega) c4 c5
        · by_cases j2 : j < sb + m
          · rw [if_pos (by omega)] at c5
            rcases mid j v (by omega) j2 c5 with ⟨j', d1, d2, d3⟩ | ⟨j', d1, d2, d3⟩
            · exact hA n j' u v c1 (by omega) d2 c4 d3
            · exact C.trans u b0 v un (b0le j' v d1 (by omega) d3)
          · rw [if_neg (by omega)] at c5
            exact C.trans u b0 v un (b0le j v (by omega) (by omega) c5)
      · by_cases n2 : n < sb + m
        · rw [if_pos (by omega)] at c4
          by_cases j2 : j < sb + m
          · rw [if_pos (by omega)] at c5
            obtain ⟨hn', en⟩ := List.getElem?_eq_some_iff.mp c4
            obtain ⟨hj', ej⟩ := List.getElem?_eq_some_iff.mp c5
            rw [← en, ← ej]
            exact List.pairwise_iff_getElem.mp res.2 _ _ hn' hj' (by omega)
          · rw [if_neg (by omega)] at c5
            rcases mid n u (by omega) n2 c4 with ⟨n', d1, d2, d3⟩ | ⟨n', d1, d2, d3⟩
            · exact C.trans u al v (alge n' u (by omega) d2 d3) (highB j v (by omega) (by omega) c5)
            · exact hB n' j u v d1 (by omega) (by omega) d3 c5
        · rw [if_neg (by omega)] at c4 c5
          exact hB n j u v (by omega) c2 c3 c4 c5
  by_cases hle : na - k ≤ m
  · rw [if_pos hle]
    exact wpS_bind (wpS_mergeLo C hx hy px py (st := setPending st (((pendingOf st).setIfInBounds i (sa, na + nb, pw)).eraseIdxIfInBounds (i + 1))) hk (by omega) (by omega) f0 fl fin)
  · rw [if_neg hle]
    exact wpS_bind (wpS_mergeHi C hx hy px py (st := setPending st (((pendingOf st).setIfInBounds i (sa, na + nb, pw)).eraseIdxIfInBounds (i + 1))) hk (by omega) (by omega) f0 fl fin)
end
end
end Tim

set_option Elab.async false
set_option linter.all false
set_option maxRecDepth 100000
set_option maxHeartbeats 8000000
namespace Tim
open PySem PyProof.Rows
/-- runs, one behind the other, from lo to hi -/
def Runs (lt : Keyed → Keyed → Bool) (xs : Array Keyed) : List (Nat × Nat × Nat) → Nat → Nat → Prop
  | [], lo, hi => lo = hi
  | r :: l, lo, hi => r.1 = lo ∧ 1 ≤ r.2.1 ∧ Asc lt xs lo (lo + r.2.1) ∧ Runs lt xs l (lo + r.2.1) hi
section
variable {lt : Keyed → Keyed → Bool} {xs ys : Array Keyed}
theorem Runs.le : ∀ {l : List (Nat × Nat × Nat)} {lo hi : Nat}, Runs lt xs l lo hi → lo + l.length ≤ hi
  | [], lo, hi, h => by
    have : lo = hi := h
    simp; omega
  | r :: l, lo, hi, h => by
    obtain ⟨_, h1, _, h2⟩ := h
    have := Runs.le h2
    rw [List.length_cons]
    omega
theorem Runs.append : ∀ {l1 l2 : List (Nat × Nat × Nat)} {lo hi : Nat}, Runs lt xs (l1 ++ l2) lo hi ↔ ∃ mid, Runs lt xs l1 lo mid ∧ Runs lt xs l2 mid hi
  | [], l2, lo, hi => ⟨fun h => ⟨lo, rfl, h⟩, fun ⟨mid, h1, h2⟩ => by
      have : lo = mid := h1
      subst this
      exact h2⟩
  | r :: l1, l2, lo, hi => by
    constructor
    · rintro ⟨a, b, c, d⟩
      obtain ⟨mid, h1, h2⟩ := Runs.append.mp d
      exact ⟨mid, ⟨a, b, c, h1⟩, h2⟩
    · rintro ⟨mid, ⟨a, b, c, h1⟩, h2⟩
      exact ⟨a, b, c, Runs.append.mpr ⟨mid, h1, h2⟩⟩
theorem Runs.congr : ∀ {l : List (Nat × Nat × Nat)} {lo hi : Nat}, Runs lt xs l lo hi → (∀ i : Nat, lo ≤ i → i < hi → ys[i]? = xs[i]?) → Runs lt ys l lo hi
  | [], _, _, h, _ => h
  | r :: l, lo, hi, ⟨a, b, c, d⟩, e => by
    have hl := Runs.le d
    exact ⟨a, b, c.congr fun i h1 h2 => e i h1 (by omega), Runs.congr d fun i h1 h2 => e i (by omega) h2⟩
end
theorem split2 {p : Array (Nat × Nat × Nat)} {i : Nat} (h : i + 1 < p.size) : ∃ l1 x y l2, p.toList = l1 ++ x :: y :: l2 ∧ l1.length = i ∧ p[i]? = some x ∧ p[i + 1]? = some y := by
  have hl : p.toList.length = p.size := by simp
  refine ⟨p.toList.take i, p.toList[i]'(by omega), p.toList[i + 1]'(by omega), p.toList.drop (i + 2), ?_, by rw [List.length_take]; omega, by simp, by simp⟩
  rw [← List.drop_eq_getElem_cons (by omega : i + 1 < p.toList.length), ← List.drop_eq_getElem_cons (by omega : i < p.toList.length), List.take_append_drop]
theorem merged2 {p : Array (Nat × Nat × Nat)} {l1 l2 : List (Nat × Nat × Nat)} {x y v : Nat × Nat × Nat} (e : p.toList = l1 ++ x :: y :: l2) : ((p.setIfInBounds l1.length v).eraseIdxIfInBounds (l1.length + 1)).toList = l1 ++ v :: l2 := by
  have hl : p.toList.length = p.size := by simp
  have hlen : l1.length + 1 < p.size := by rw [← hl, e, List.length_append, List.length_cons, List.length_cons]; omega
  unfold Array.eraseIdxIfInBounds
  rw [dif_pos (by rw [Array.size_setIfInBounds]; exact hlen), Array.toList_eraseIdx, Array.toList_setIfInBounds, e]
  rw [List.set_append_right _ _ (Nat.le_refl _), Nat.sub_self, List.set_cons_zero]
  rw [List.eraseIdx_append_of_length_le (Nat.le_succ _), show l1.length + 1 - l1.length = 1 by omega]
  rfl
section
variable {M : Model} {A : Around} {E : Value → Shared → Prop} {s : Shared} {κ : SortKind} {P : Keyed → Prop} {lt : Keyed → Keyed → Bool}
section
variable (C : Cmp M A E s κ P lt)
include C
theorem wpS_mergeAtR {st : SortSt} {i hi : Nat} {Q : Bool → SortSt → Prop} (hk : kindOf st = κ) (pp : ∀ x ∈ (arrOf st).toList, P x) (hf : failedOf st = none) (hi' : i + 1 < (pendingOf st).size) (hs : hi ≤ (arrOf st).size)
    (R : Runs lt (arrOf st) (pendingOf st).toList 0 hi)
    (h : ∀ st', kindOf st' = κ → failedOf st' = none → (arrOf st').Perm (arrOf st) → (∀ j : Nat, hi ≤ j → (arrOf st')[j]? = (arrOf st)[j]?) → Runs lt (arrOf st') (pendingOf st').toList 0 hi → (pendingOf st').size + 1 = (pendingOf st).size → Q true st') :
    wpS M A E s (mergeAt' i) Q st := by
  obtain ⟨l1, ⟨sa, na, pa⟩, ⟨sb, nb, pb⟩, l2, e, el, hx, hy⟩ := split2 hi'
  subst el
  rw [e] at R
  obtain ⟨mid, R1, a1, a2, a3, b1, b2, b3, R2⟩ := Runs.append.mp R
  dsimp only at a1 a2 a3 b1 b2 b3 R2
  subst a1 b1
  have hl := Runs.le R2
  refine wpS_mergeAt C hk pp hf hx hy rfl a2 b2 (by omega) a3 b3 fun st' k1 f1 p1 sg hA => h st' k1 f1 sg.perm (fun j hj => sg.out j (.inr (by omega))) ?_ ?_
  · rw [p1, merged2 e]
    refine Runs.append.mpr ⟨sa, R1.congr fun j c1 c2 => sg.out j (.inl c2), ⟨rfl, by dsimp only; omega, ?_, ?_⟩⟩
    · dsimp only
      rw [← Nat.add_assoc]
      exact hA
    · dsimp only
      rw [← Nat.add_assoc]
      exact R2.congr fun j c1 c2 => sg.out j (.inr c1)
  · have h1 : (pendingOf st').toList.length = (pendingOf st').size := by simp
    have h2 : (pendingOf st).toList.length = (pendingOf st).size := by simp
    rw [p1] at h1 ⊢
    rw [merged2 e] at h1
    rw [e] at h2
    rw [← h1, ← h2]
    simp
    omega
/-- the whole: of any length -/
theorem wpS_sortRuns {st : SortSt} {Q : Unit → SortSt → Prop} (hk : kindOf st = κ) (pp : ∀ x ∈ (arrOf st).toList, P x) (hf : failedOf st = none) (hp : pendingOf st = #[])
    (h : ∀ st', kindOf st' = κ → failedOf st' = none → (arrOf st').Perm (arrOf st) → Asc lt (arrOf st') 0 (arrOf st).size → Q () st') : wpS M A E s sortRuns' Q st := by
  rw [sortRuns'_eq]
  refine wpS_bind (wpS_get ?_)
  dsimp only
  generalize hsz : (arrOf st).size = size
  generalize minRun' size size 0 = mr
  refine wpS_bind (wpS_mono (wpS_forRange (fun k (c : Option Unit × Nat) st' => c.1 = none ∧ k ≤ c.2 ∧ c.2 ≤ size ∧ kindOf st' = κ ∧ failedOf st' = none ∧ (arrOf st').Perm (arrOf st) ∧ Runs lt (arrOf st') (pendingOf st').toList 0 c.2)
    (Q := fun c st' => c.1 = none ∧ c.2 = size ∧ kindOf st' = κ ∧ failedOf st' = none ∧ (arrOf st').Perm (arrOf st) ∧ Runs lt (arrOf st') (pendingOf st').toList 0 size) ?_ ?_
    ⟨rfl, Nat.le_refl _, Nat.zero_le _, hk, hf, Array.Perm.refl _, by rw [hp]; rfl⟩) ?_)
  · rintro k ⟨r, lo⟩ st' _ hk' ⟨rfl, a1, a2, k1, f1, p1, R⟩
    dsimp only at a1 a2 R ⊢
    have s1 : (arrOf st').size = size := by rw [p1.size_eq, hsz]
    by_cases hge : lo ≥ size
    · rw [if_pos hge]
      have e : lo = size := by omega
      subst e
      exact wpS_pure ⟨rfl, rfl, k1, f1, p1, R⟩
    rw [if_neg hge]
    refine wpS_bind (wpS_countRun C k1 (all_perm p1 pp) (by omega) (by omega) fun n xs n1 n2 sg hA => ?_)
    dsimp only
    have sxs : xs.size = size := by rw [sg.size, s1]
    have R1 : Runs lt xs (pendingOf st').toList 0 lo := R.congr fun j _ c2 => sg.out j (.inl c2)
    -- from here on: the run [lo, lo + n) stands in the array ys
    have push : ∀ (n : Nat) (st2 : SortSt), 1 ≤ n → Asc lt (arrOf st2) lo (lo + n) → Runs lt (arrOf st2) (pendingOf st2).toList 0 lo → Runs lt (arrOf st2) ((pendingOf st2).push (lo, n, 0)).toList 0 (lo + n) := by
      intro n st2 h1 hA2 R2
      rw [Array.toList_push]
      exact Runs.append.mpr ⟨lo, R2, rfl, h1, hA2, rfl⟩
    have turn : ∀ (f : Nat × Nat × Nat → Nat × Nat × Nat), (∀ x, (f x).1 = x.1 ∧ (f x).2.1 = x.2.1) → ∀ st2 : SortSt, Runs lt (arrOf st2) (pendingOf st2).toList 0 lo → Runs lt (arrOf st2) ((pendingOf st2).modify ((pendingOf st2).size - 1) f).toList 0 lo := by
      intro f hf st2 R2
      rw [Array.toList_modify]
      have modR : ∀ (l : List (Nat × Nat × Nat)) (m a b : Nat), Runs lt (arrOf st2) l a b → Runs lt (arrOf st2) (l.modify m f) a b := by
        intro l
        induction l with
        | nil => intro m a b hR; simpa using hR
        | cons r l ih =>
          intro m a b hR
          obtain ⟨c1, c2, c3, c4⟩ := hR
          cases m with
          | zero =>
            rw [List.modify_zero_cons]
            obtain ⟨e1, e2⟩ := hf r
            exact ⟨by rw [e1]; exact c1, by rw [e2]; exact c2, by rw [e2]; exact c3, by rw [e2]; exact c4⟩
          | succ m =>
            rw [List.modify_succ_cons]
            exact ⟨c1, c2, c3, ih m _ _ c4⟩
      exact modR _ _ _ _ R2
    by_cases hmr : n < mr
    · rw [if_pos hmr]
      refine wpS_bind (wpS_rule ?_)
      refine wpS_bind (wpS_binarySort C (st := setArr st' xs) k1 (all_perm (sg.perm.trans p1) pp) (n := min (size - lo) mr) (by rw [show arrOf (setArr st' xs) = xs from rfl, sxs]; omega) n1 (by omega) hA fun ys sg2 hA2 => ?_)
      rw [if_neg (by simp)]
      have pz : ys.Perm (arrOf st) := sg2.perm.trans (sg.perm.trans p1)
      have szz : ys.size = size := by rw [pz.size_eq, hsz]
      have Rz : Runs lt ys (pendingOf st').toList 0 lo := R1.congr fun j _ c2 => sg2.out j (.inl c2)
      have hnN : 1 ≤ (min (size - lo) mr) ∧ lo + (min (size - lo) mr) ≤ size := by omega
      refine wpS_bind (wpS_get ?_)
      cases hbk : (pendingOf st').back? with
      | none =>
        dsimp only
        exact wpS_bind (wpS_modify (wpS_pure ⟨rfl, by dsimp only; omega, by dsimp only; omega, k1, f1, pz, push (min (size - lo) mr) (setArr st' ys) hnN.1 hA2 Rz⟩))
      | some z =>
        obtain ⟨q1, q2, q3⟩ := z
        dsimp only
        refine wpS_bind (wpS_mono (wpS_forRange (fun _ (c : Option Unit × Unit) st2 => c.1 = none ∧ kindOf st2 = κ ∧ failedOf st2 = none ∧ (arrOf st2).Perm (arrOf st) ∧ Runs lt (arrOf st2) (pendingOf st2).toList 0 lo ∧ (∀ j : Nat, lo ≤ j → (arrOf st2)[j]? = ys[j]?))
          (Q := fun c st2 => c.1 = none ∧ kindOf st2 = κ ∧ failedOf st2 = none ∧ (arrOf st2).Perm (arrOf st) ∧ Runs lt (arrOf st2) (pendingOf st2).toList 0 lo ∧ (∀ j : Nat, lo ≤ j → (arrOf st2)[j]? = ys[j]?)) ?_ (fun c st2 h => h) ⟨rfl, k1, f1, pz, Rz, fun _ _ => rfl⟩) ?_)
        · rintro i ⟨r, u⟩ st2 _ _ ⟨rfl, b1, b2, b3, b4, b5⟩
          refine wpS_bind (wpS_get ?_)
          by_cases hs1 : (pendingOf st2).size > 1
          · rw [if_pos hs1]
            obtain ⟨z, hz⟩ : ∃ z, (pendingOf st2)[(pendingOf st2).size - 2]? = some z := ⟨(pendingOf st2)[(pendingOf st2).size - 2]'(by omega), by simp⟩
            rw [hz]
            obtain ⟨z1, z2, older⟩ := z
            dsimp only
            refine iteBoth (wpS_pure ⟨rfl, b1, b2, b3, b4, b5⟩) ?_
            refine wpS_bind (wpS_mergeAtR C b1 (all_perm b3 pp) b2 (by omega) (by rw [b3.size_eq, hsz]; omega) b4 fun st3 c1 c2 c3 c4 c5 c6 => ?_)
            rw [if_neg (by simp)]
            exact wpS_pure ⟨rfl, c1, c2, c3.trans b3, c5, fun j hj => (c4 j hj).trans (b5 j hj)⟩
          · rw [if_neg hs1]
            exact wpS_pure ⟨rfl, b1, b2, b3, b4, b5⟩
        · rintro ⟨r, u⟩ st2 ⟨rfl, b1, b2, b3, b4, b5⟩
          dsimp only
          refine wpS_bind (wpS_modify (wpS_bind (wpS_modify (wpS_pure ⟨rfl, by dsimp only; omega, by dsimp only; omega, b1, b2, b3, ?_⟩))))
          refine push (min (size - lo) mr) (setPending st2 ((pendingOf st2).modify ((pendingOf st2).size - 1) fun (x : Nat × Nat × Nat) => (x.1, x.2.1, power' size (2 * q1 + q2) (2 * q1 + q2 + q2 + (min (size - lo) mr)) size))) hnN.1 ?_ (turn (fun (x : Nat × Nat × Nat) => (x.1, x.2.1, power' size (2 * q1 + q2) (2 * q1 + q2 + q2 + (min (size - lo) mr)) size)) (fun x => ⟨rfl, rfl⟩) st2 b4)
          exact Asc.congr hA2 fun j c1 c2 => b5 j c1
    · rw [if_neg hmr]
      have pz : xs.Perm (arrOf st) := sg.perm.trans p1
      have szz : xs.size = size := by rw [pz.size_eq, hsz]
      have Rz : Runs lt xs (pendingOf st').toList 0 lo := R1
      have hnN : 1 ≤ n ∧ lo + n ≤ size := by omega
      refine wpS_bind (wpS_get ?_)
      cases hbk : (pendingOf st').back? with
      | none =>
        dsimp only
        exact wpS_bind (wpS_modify (wpS_pure ⟨rfl, by dsimp only; omega, by dsimp only; omega, k1, f1, pz, push n (setArr st' xs) hnN.1 hA Rz⟩))
      | some z =>
        obtain ⟨q1, q2, q3⟩ := z
        dsimp only
        refine wpS_bind (wpS_mono (wpS_forRange (fun _ (c : Option Unit × Unit) st2 => c.1 = none ∧ kindOf st2 = κ ∧ failedOf st2 = none ∧ (arrOf st2).Perm (arrOf st) ∧ Runs lt (arrOf st2) (pendingOf st2).toList 0 lo ∧ (∀ j : Nat, lo ≤ j → (arrOf st2)[j]? = xs[j]?))
          (Q := fun c st2 => c.1 = none ∧ kindOf st2 = κ ∧ failedOf st2 = none ∧ (arrOf st2).Perm (arrOf st) ∧ Runs lt (arrOf st2) (pendingOf st2).toList 0 lo ∧ (∀ j : Nat, lo ≤ j → (arrOf st2)[j]? = xs[j]?)) ?_ (fun c st2 h => h) ⟨rfl, k1, f1, pz, Rz, fun _ _ => rfl⟩) ?_)
        · rintro i ⟨r, u⟩ st2 _ _ ⟨rfl, b1, b2, b3, b4, b5⟩
          refine wpS_bind (wpS_get ?_)
          by_cases hs1 : (pendingOf st2).size > 1
          · rw [if_pos hs1]
            obtain ⟨z, hz⟩ : ∃ z, (pendingOf st2)[(pendingOf st2).size - 2]? = some z := ⟨(pendingOf st2)[(pendingOf st2).size - 2]'(by omega), by simp⟩
            rw [hz]
            obtain ⟨z1, z2, older⟩ := z
            dsimp only
            refine iteBoth (wpS_pure ⟨rfl, b1, b2, b3, b4, b5⟩) ?_
            refine wpS_bind (wpS_mergeAtR C b1 (all_perm b3 pp) b2 (by omega) (by rw [b3.size_eq, hsz]; omega) b4 fun st3 c1 c2 c3 c4 c5 c6 => ?_)
            rw [if_neg (by simp)]
            exact wpS_pure ⟨rfl, c1, c2, c3.trans b3, c5, fun j hj => (c4 j hj).trans (b5 j hj)⟩
          · rw [if_neg hs1]
            exact wpS_pure ⟨rfl, b1, b2, b3, b4, b5⟩
        · rintro ⟨r, u⟩ st2 ⟨rfl, b1, b2, b3, b4, b5⟩
          dsimp only
          refine wpS_bind (wpS_modify (wpS_bind (wpS_modify (wpS_pure ⟨rfl, by dsimp only; omega, by dsimp only; omega, b1, b2, b3, ?_⟩))))
          refine push n (setPending st2 ((pendingOf st2).modify ((pendingOf st2).size - 1) fun (x : Nat × Nat × Nat) => (x.1, x.2.1, power' size (2 * q1 + q2) (2 * q1 + q2 + q2 + n) size))) hnN.1 ?_ (turn (fun (x : Nat × Nat × Nat) => (x.1, x.2.1, power' size (2 * q1 + q2) (2 * q1 + q2 + q2 + n) size)) (fun x => ⟨rfl, rfl⟩) st2 b4)
          exact Asc.congr hA fun j c1 c2 => b5 j c1
  · rintro ⟨r, lo⟩ st' ⟨rfl, a1, a2, k1, f1, p1, R⟩
    dsimp only at a1 a2 R ⊢
    have e : lo = size := by omega
    rw [e] at R
    exact ⟨rfl, e, k1, f1, p1, R⟩
  · rintro ⟨r, lo⟩ st' ⟨rfl, e, k1, f1, p1, R⟩
    dsimp only at e
    have s1 : (arrOf st').size = size := by rw [p1.size_eq, hsz]
    dsimp only
    have hlen : (pendingOf st').toList.length = (pendingOf st').size := by simp
    have hle := R.le
    refine wpS_bind (wpS_mono (wpS_forRange (fun k (c : Option Unit × Unit) st2 => c.1 = none ∧ (pendingOf st2).size ≤ max 1 (size - k) ∧ kindOf st2 = κ ∧ failedOf st2 = none ∧ (arrOf st2).Perm (arrOf st) ∧ Runs lt (arrOf st2) (pendingOf st2).toList 0 size)
      (Q := fun c st2 => c.1 = none ∧ (pendingOf st2).size ≤ 1 ∧ kindOf st2 = κ ∧ failedOf st2 = none ∧ (arrOf st2).Perm (arrOf st) ∧ Runs lt (arrOf st2) (pendingOf st2).toList 0 size) ?_ ?_ ⟨rfl, by omega, k1, f1, p1, R⟩) ?_)
    · rintro i ⟨r, u⟩ st2 _ hi ⟨rfl, b1, b2, b3, b4, b5⟩
      refine wpS_bind (wpS_get ?_)
      by_cases hs1 : (pendingOf st2).size ≤ 1
      · rw [if_pos hs1]
        exact wpS_pure ⟨rfl, hs1, b2, b3, b4, b5⟩
      rw [if_neg hs1]
      have go : ∀ m, m + 1 < (pendingOf st2).size → wpS M A E s (mergeAt' m) (fun b st3 => b = true ∧ (pendingOf st3).size ≤ max 1 (size - (i + 1)) ∧ kindOf st3 = κ ∧ failedOf st3 = none ∧ (arrOf st3).Perm (arrOf st) ∧ Runs lt (arrOf st3) (pendingOf st3).toList 0 size) st2 := fun m hm =>
        wpS_mergeAtR C b2 (all_perm b4 pp) b3 hm (by rw [b4.size_eq, hsz]; exact Nat.le_refl _) b5 fun st3 c1 c2 c3 c4 c5 c6 => ⟨rfl, by omega, c1, c2, c3.trans b4, c5⟩
      refine wpS_bind (wpS_mono (go _ ?_) fun b st3 hb => ?_)
      · (repeat' split) <;> omega
      · obtain ⟨rfl, d1, d2, d3, d4, d5⟩ := hb
        rw [if_neg (by simp)]
        exact wpS_pure ⟨rfl, d1, d2, d3, d4, d5⟩
    · rintro ⟨r, u⟩ st2 ⟨rfl, b1, b2, b3, b4, b5⟩
      exact ⟨rfl, by omega, b2, b3, b4, b5⟩
    · rintro ⟨r, u⟩ st2 ⟨rfl, b1, b2, b3, b4, b5⟩
      refine wpS_pure (h st2 b2 b3 b4 ?_)
      rw [hsz]
      cases hpl : (pendingOf st2).toList with
      | nil =>
        rw [hpl] at b5
        have e0 : 0 = size := b5
        intro i j x y c1 c2 c3
        omega
      | cons r l =>
        have hl2 : (pendingOf st2).toList.length = (pendingOf st2).size := by simp
        rw [hpl, List.length_cons] at hl2
        have el : l = [] := List.length_eq_zero_iff.mp (by omega)
        subst el
        rw [hpl] at b5
        obtain ⟨d1, d2, d3, d4⟩ := b5
        have e0 : 0 + r.2.1 = size := d4
        rw [e0] at d3
        exact d3
end
end
end Tim

set_option Elab.async false
set_option linter.all false
set_option maxRecDepth 100000
set_option maxHeartbeats 4000000
/-! ### sorted of a list of tuples of ints, of whatever length -/
namespace L2
open PySem PySem.Spec PyProof.Rows
/-- the order of tuples of ints -/
def lexB : List Int → List Int → Bool
  | [], [] => false
  | [], _ :: _ => true
  | _ :: _, [] => false
  | a :: r, b :: t => if a = b then lexB r t else decide (a < b)
theorem lexB_asym : ∀ a b : List Int, lexB a b = true → lexB b a = false
  | [], [], h => by simp [lexB] at h
  | [], _ :: _, _ => rfl
  | _ :: _, [], h => by simp [lexB] at h
  | a :: r, b :: t, h => by
    unfold lexB at h ⊢
    by_cases e : a = b
    · rw [if_pos e] at h
      rw [if_pos e.symm]
      exact lexB_asym r t h
    · rw [if_neg e] at h
      rw [if_neg (Ne.symm e)]
      have := of_decide_eq_true h
      exact decide_eq_false (by omega)
theorem lexB_trans : ∀ a b c : List Int, lexB b a = false → lexB c b = false → lexB c a = false
  | [], b, [], _, _ => rfl
  | _ :: _, [], c, h, _ => by simp [lexB] at h
  | [], [], _ :: _, _, _ => rfl
  | [], _ :: _, _ :: _, _, _ => rfl
  | _ :: _, _ :: _, [], _, k => by simp [lexB] at k
  | a :: r, b :: t, c :: v, h, k => by
    unfold lexB at h k ⊢
    by_cases e1 : b = a
    · rw [if_pos e1] at h
      by_cases e2 : c = b
      · rw [if_pos e2] at k
        rw [if_pos (e2.trans e1)]
        exact lexB_trans r t v h k
      · rw [if_neg e2] at k
        rw [if_neg (by omega)]
        have := of_decide_eq_false k
        exact decide_eq_false (by omega)
    · rw [if_neg e1] at h
      have h' := of_decide_eq_false h
      by_cases e2 : c = b
      · rw [if_pos e2] at k
        rw [if_neg (by omega)]
        exact decide_eq_false (by omega)
      · rw [if_neg e2] at k
        have k' := of_decide_eq_false k
        rw [if_neg (by omega)]
        exact decide_eq_false (by omega)
theorem lexB_irrefl (a : List Int) : lexB a a = false := by
  cases h : lexB a a with
  | false => rfl
  | true => have := lexB_asym a a h; rw [h] at this; exact this
theorem lexB_eq : ∀ a b : List Int, lexB a b = false → lexB b a = false → a = b
  | [], [], _, _ => rfl
  | [], _ :: _, h, _ => by simp [lexB] at h
  | _ :: _, [], _, h => by simp [lexB] at h
  | a :: r, b :: t, h, k => by
    unfold lexB at h k
    by_cases e : a = b
    · rw [if_pos e] at h
      rw [if_pos e.symm] at k
      rw [e, lexB_eq r t h k]
    · rw [if_neg e] at h
      rw [if_neg (Ne.symm e)] at k
      have := of_decide_eq_false h
      have := of_decide_eq_false k
      omega
/-- sorted -/
abbrev LSrt (l : List (List Int)) : Prop := l.Pairwise fun x y => lexB y x = false
theorem LSrt.ext : ∀ {l m : List (List Int)}, LSrt l → LSrt m → l.Perm m → l = m := by
  intro l m hl hm hp
  exact List.Perm.eq_of_pairwise (le := fun x y => lexB y x = false) (fun a b _ _ h1 h2 => lexB_eq a b h2 h1) hl hm hp
/-! the first difference, else fin -/
def lexZ (fin : Bool) : List Int → List Int → Bool
  | a :: r, b :: t => if a = b then lexZ fin r t else decide (a < b)
  | _, _ => fin
theorem lexZ_eq : ∀ a b : List Int, lexZ (decide (a.length < b.length)) a b = lexB a b
  | [], [] => by simp [lexZ, lexB]
  | [], _ :: _ => by simp [lexZ, lexB]
  | _ :: _, [] => by simp [lexZ, lexB]
  | a :: r, b :: t => by
    unfold lexZ lexB
    have h := lexZ_eq r t
    simp only [List.length_cons, Nat.add_lt_add_iff_right]
    rw [h]
section
variable {prog : Program} {w : World} {A : Around} {E : Value → Shared → Prop} {s : Shared}
theorem lex_ints {fin : Bool} {Q : Bool → Shared → Prop} : ∀ {us vs : List Value} {ns ms : List Int} (i : Nat), IntsAre us ns → IntsAre vs ms → Q (lexZ fin ns ms) s → PySem.W.KatLex prog w A true fin Q (us.zip vs) i s
  | [], _, _, _, i, h1, _, q => by
    cases h1
    rw [List.zip_nil_left]
    exact PySem.W.kat_nil (by simpa [lexZ] using q)
  | _ :: _, [], _, _, i, _, h2, q => by
    cases h2
    rw [List.zip_nil_right]
    refine PySem.W.kat_nil ?_
    revert q
    cases h : (‹List Int›) <;> simp [lexZ]
  | u :: us, v :: vs, _, _, i, h1, h2, q => by
    cases h1 with
    | @cons a t _ r h1 =>
      cases h2 with
      | @cons b t' _ r' h2 =>
        rw [List.zip_cons_cons]
        refine PySem.W.kat_cons (wpAny_eqBool_int ?_)
        unfold lexZ at q
        by_cases e : a = b
        · rw [if_pos e] at q
          rw [show (a == b) = true by simp [e]]
          exact PySem.W.kat_yes (lex_ints (i + 1) h1 h2 q)
        · rw [if_neg e] at q
          rw [show (a == b) = false by simp [e]]
          refine PySem.W.kat_no ?_
          cases hb : (true && i == 0) with
          | true => exact oneLt_int q
          | false => exact PySem.W.kat_one _ _ (lt_int q)
end
/-- the key of a value: the ints of a tuple -/
def keyV (h : Heap) (v : Value) : List Int := match v with
  | .ref a => match h.get? a with
    | some o => match o.data with
      | .seq xs _ => xs.toList.map fun u => match u with | .int i _ => i | _ => 0
      | _ => []
    | none => []
  | _ => []
def TupV (h : Heap) (v : Value) : Prop := ∃ a o xs n ns, v = .ref a ∧ h.get? a = some o ∧ o.cls = .type "tuple" ∧ o.data = .seq xs n ∧ IntsAre xs.toList ns ∧ ns ≠ []
theorem ints_map : ∀ {us : List Value} {ns : List Int}, IntsAre us ns → (us.map fun u => match u with | .int i _ => i | _ => 0) = ns
  | _, _, .nil => rfl
  | _, _, .cons _ _ h => by rw [List.map_cons, ints_map h]
theorem keyV_of {h : Heap} {a : Addr} {o : Obj} {xs : Array Value} {n : Nat} {ns : List Int} (ho : h.get? a = some o) (hd : o.data = .seq xs n) (hi : IntsAre xs.toList ns) : keyV h (.ref a) = ns := by
  unfold keyV
  simp only [ho, hd]
  exact ints_map hi
theorem TupV.keep {h h' : Heap} {v : Value} (t : TupV h v) (k : ∀ b o, h.get? b = some o → o.cls = .type "tuple" → h'.get? b = some o) : TupV h' v := by
  obtain ⟨a, o, xs, n, ns, e, ho, hc, r⟩ := t
  exact ⟨a, o, xs, n, ns, e, k a o ho hc, hc, r⟩
theorem keyV_keep {h h' : Heap} {v : Value} (t : TupV h v) (k : ∀ b o, h.get? b = some o → o.cls = .type "tuple" → h'.get? b = some o) : keyV h' v = keyV h v := by
  obtain ⟨a, o, xs, n, ns, rfl, ho, hc, hd, hi, _⟩ := t
  rw [keyV_of (k a o ho hc) hd hi, keyV_of ho hd hi]
section
variable {prog : Program} {w : World} {A : Around} {E : Value → Shared → Prop} {s : Shared}
theorem cmp_tups : Tim.Cmp (model prog w) A E s (tuples' true) (fun x => TupV s.heap x.1) (fun x y => lexB (keyV s.heap x.1) (keyV s.heap y.1)) where
  asym := fun x y h => lexB_asym _ _ h
  trans := fun x y z h k => lexB_trans _ _ _ h k
  run := fun x y st Q hx hy hk q => by
    obtain ⟨x, x2⟩ := x
    obtain ⟨y, y2⟩ := y
    obtain ⟨a, o, xs, n, ns, rfl, ho, hc, hd, hi, _⟩ := hx
    obtain ⟨b, o', ys, m, ms, rfl, ho', hc', hd', hi', _⟩ := hy
    dsimp only at q
    rw [keyV_of ho hd hi, keyV_of ho' hd' hi'] at q
    rw [lt'_eq]
    refine wpS_bind (wpS_get ?_)
    rw [hk]
    refine wpS_bind (wpS_lift (wpAny_attempt (PySem.W.kat_lt ho hd ho' hd' (lex_ints 0 hi hi' ⟨rfl, ?_⟩))))
    have e1 : xs.size = ns.length := by rw [← Array.length_toList]; exact hi.length
    have e2 : ys.size = ms.length := by rw [← Array.length_toList]; exact hi'.length
    rw [e1, e2, lexZ_eq]
    exact wpS_pure q
theorem katTups : ∀ {vs : List Value}, (∀ v ∈ vs, TupV s.heap v) → ∃ fs, PySem.W.KatTups s.heap vs fs ∧ fs.length = vs.length ∧ ∀ v ∈ fs, ∃ i t, v = Value.int i t
  | [], _ => ⟨[], trivial, rfl, fun v h => nomatch h⟩
  | v :: vs, h => by
    obtain ⟨fs, k, hl, hi⟩ := katTups fun u hu => h u (List.mem_cons_of_mem _ hu)
    obtain ⟨a, o, xs, n, ns, rfl, ho, hc, hd, his, hne⟩ := h v List.mem_cons_self
    obtain ⟨i, t, r, e⟩ : ∃ i t r, xs.toList = Value.int i t :: r := by
      cases his' : xs.toList with
      | nil => rw [his'] at his; cases his; exact absurd rfl hne
      | cons u r => rw [his'] at his; cases his with | @cons i t _ _ _ => exact ⟨i, t, r, rfl⟩
    refine ⟨.int i t :: fs, PySem.W.KatTups.cons ho hc hd ?_ k, by simp [hl], fun u hu => ?_⟩
    · rw [← Array.getElem?_toList, e]; rfl
    · rcases List.mem_cons.mp hu with rfl | hu
      · exact ⟨i, t, rfl⟩
      · exact hi u hu
theorem kind_tups {vs : List Value} {Q : SortKind → Shared → Prop} (hT : ∀ v ∈ vs, TupV s.heap v) (h0 : 0 < vs.length) (h : Q (tuples' true) s) : wpAny (model prog w) A (keyKind' vs.toArray) Q E s := by
  obtain ⟨fs, k, hl, hi⟩ := katTups hT
  refine PySem.W.kat_kind (T := .type "int") k (by omega) (fun v hv => ?_) (by rfl) h
  obtain ⟨i, t, rfl⟩ := hi v hv
  exact PySem.W.Looks.now
theorem zip_self : ∀ vs : List Value, vs.zip vs = vs.map fun v => (v, v)
  | [] => rfl
  | v :: vs => by rw [List.zip_cons_cons, List.map_cons, zip_self vs]
/-- what is told of the sorted values -/
def SortOut (h : Heap) (vs : List Value) (out : Array Value) : Prop := out.toList.Perm vs ∧ out.toList.Pairwise fun x y => lexB (keyV h y) (keyV h x) = false
theorem list_sort_tups {a : Addr} {vs : List Value} {n : Nat} {P : PySem.Fin → Shared → Prop} (ho : s.heap.get? a = some (seqObj "list" vs.toArray n))
    (hT : ∀ v ∈ vs, TupV s.heap v) (hz : vs.length ≤ sizeLine)
    (h : ∀ (out : Array Value), SortOut s.heap vs out → P (.done (.ret .none)) { s with heap := sortedHeap s.heap a vs out }) :
    wpAny (model prog w) A (Builtin.«list.sort» ⟨[.ref a], []⟩) P E s := by
  rw [list_sort_plain]
  have ha : a < s.heap.objs.size := Heap.lt_size ho
  refine wpAny_bind (listItems_at ho rfl ?_)
  refine wpAny_bind (listUpdate_at ho rfl ?_ (by simpa using hz) (Nat.zero_le _))
  obtain ⟨e1, ho1⟩ : ∃ e1, (s.heap.update a (Obj.mapSeq fun _ => #[])).get? a = some (seqObj "list" #[] e1) := ⟨_, get?_update_seq ho (fun _ => #[])⟩
  refine wpAny_bind (seqEpoch_at ho1 rfl ?_)
  refine wpAny_bind (wpAny_newTuple ?_ (by show vs.length ≤ _; exact hz))
  refine wpAny_bind (wpAny_newList ?_ (Nat.zero_le _))
  refine wpAny_holding ?_
  have ho6 : (((s.heap.update a (Obj.mapSeq fun _ => #[])).push (seqObj "tuple" vs.toArray 0)).push (seqObj "list" #[] 0)).get? a = some (seqObj "list" #[] e1) := by
    rw [Heap.get?_push_ne _ _ _ (by rw [size_push', Heap.size_update]; exact Nat.ne_of_lt (Nat.lt_succ_of_lt ha)), Heap.get?_push_ne _ _ _ (by rw [Heap.size_update]; exact Nat.ne_of_lt ha)]
    exact ho1
  show wpAny (model prog w) A _ P E { s with heap := ((s.heap.update a (Obj.mapSeq fun _ => #[])).push (seqObj "tuple" vs.toArray 0)).push (seqObj "list" #[] 0) }
  dsimp only
  have hsz : vs.toArray.size = vs.length := by simp
  have keep : ∀ b o, s.heap.get? b = some o → o.cls = .type "tuple" → (((s.heap.update a (Obj.mapSeq fun _ => #[])).push (seqObj "tuple" vs.toArray 0)).push (seqObj "list" #[] 0)).get? b = some o := fun b o q hc => by
    have hb : b ≠ a := by
      intro e
      rw [e, ho] at q
      cases q
      revert hc
      show ¬ Value.type "list" = Value.type "tuple"
      intro z
      injection z with z
      exact absurd z (by decide)
    refine Heap.get?_push_of_some _ (Heap.get?_push_of_some _ ?_)
    rw [Heap.get?_update_ne _ _ _ _ hb]
    exact q
  have fin : ∀ st' : SortSt, (arrOf st').Perm (pairsOf vs) → Tim.Srt (fun x y => lexB (keyV s.heap x.1) (keyV s.heap y.1)) (arrOf st').toList →
      P (.done (.ret .none)) { s with heap := sortedHeap s.heap a vs ((arrOf st').map (·.2)) } := by
    intro st' hp hs
    have same : ∀ x ∈ (arrOf st').toList, x.1 = x.2 := by
      intro x hx
      have hx' : x ∈ (pairsOf vs).toList := (hp.toList.mem_iff).mp hx
      have e : (pairsOf vs).toList = vs.map fun v => (v, v) := by
        unfold pairsOf
        rw [Array.toList_zip]
        exact zip_self vs
      rw [e] at hx'
      obtain ⟨v, _, rfl⟩ := List.mem_map.mp hx'
      rfl
    refine h _ ⟨?_, ?_⟩
    · rw [Array.toList_map]
      have := hp.toList.map (·.2)
      refine this.trans ?_
      have e : (pairsOf vs).toList.map (·.2) = vs := by
        unfold pairsOf
        rw [Array.toList_zip]
        show (vs.zip vs).map _ = vs
        rw [zip_self, List.map_map]
        exact List.map_id vs
      rw [e]
    · rw [Array.toList_map, List.pairwise_map]
      refine hs.imp_of_mem ?_
      intro x y hx hy hxy
      rw [← same x hx, ← same y hy]
      exact hxy
  by_cases h2 : vs.toArray.size < 2
  · rw [if_pos h2, if_pos h2]
    refine wpAny_bind (wpAny_pure ?_)
    rw [StateT.run_pure]
    refine wpAny_bind (wpAny_pure ?_)
    dsimp only
    refine wpAny_bind (seqEpoch_at ho6 rfl ?_)
    refine wpAny_bind (listUpdate_at ho6 rfl ?_ (Nat.zero_le _) (hsz2 := by rw [Array.size_map]; show (pairsOf vs).size ≤ _; rw [pairsOf_size]; omega))
    simp only [bne_self_eq_false, Bool.false_eq_true, if_false]
    refine wpAny_pure (fin (SortSt.mk' general' (vs.toArray.zip vs.toArray) #[] 7 none) (Array.Perm.refl _) ?_)
    show Tim.Srt _ (vs.toArray.zip vs.toArray).toList
    rw [Array.toList_zip]
    match vs, hsz, h2 with
    | [], _, _ => simp
    | [_], _, _ => simp
    | _ :: _ :: _, _, h2 => simp at h2; omega
  · rw [if_neg h2, if_neg h2]
    have hT' : ∀ v ∈ vs, TupV (((s.heap.update a (Obj.mapSeq fun _ => #[])).push (seqObj "tuple" vs.toArray 0)).push (seqObj "list" #[] 0)) v := fun v hv => (hT v hv).keep keep
    refine wpAny_bind (kind_tups (s := { s with heap := ((s.heap.update a (Obj.mapSeq fun _ => #[])).push (seqObj "tuple" vs.toArray 0)).push (seqObj "list" #[] 0) }) hT' (by omega) ?_)
    have epz : (pairsOf vs).toList = vs.map fun v => (v, v) := by
      unfold pairsOf
      rw [Array.toList_zip]
      exact zip_self vs
    refine wpAny_bind (wpAny_mono (Tim.wpS_sortRuns cmp_tups (st := SortSt.mk' (tuples' true) (vs.toArray.zip vs.toArray) #[] 7 none)
      (Q := fun _ st' => (arrOf st').Perm (pairsOf vs) ∧ failedOf st' = none ∧ Tim.Asc (fun x y => lexB (keyV (((s.heap.update a (Obj.mapSeq fun _ => #[])).push (seqObj "tuple" vs.toArray 0)).push (seqObj "list" #[] 0)) x.1) (keyV (((s.heap.update a (Obj.mapSeq fun _ => #[])).push (seqObj "tuple" vs.toArray 0)).push (seqObj "list" #[] 0)) y.1)) (arrOf st') 0 (pairsOf vs).size)
      rfl (fun x hx => by
        have hx' : x ∈ (pairsOf vs).toList := hx
        rw [epz] at hx'
        obtain ⟨v, hv, rfl⟩ := List.mem_map.mp hx'
        exact hT' v hv) rfl rfl fun st' _ a2 a1 a3 => ⟨a1, a2, a3⟩) ?_ fun _ _ e => e)
    rintro ⟨⟨⟩, st'⟩ s' ⟨rfl, hp, hf, hs⟩
    dsimp only
    refine wpAny_bind (seqEpoch_at ho6 rfl ?_)
    refine wpAny_bind (listUpdate_at ho6 rfl ?_ (Nat.zero_le _) (hsz2 := by refine Nat.le_trans (Nat.le_of_eq ((Array.size_map ..).trans (hp.size_eq.trans (pairsOf_size _)))) ?_; omega))
    rw [hf]
    simp only [bne_self_eq_false, Bool.false_eq_true, if_false]
    refine wpAny_pure (fin st' hp ?_)
    have mem : ∀ x ∈ (arrOf st').toList, ∃ v ∈ vs, x = (v, v) := by
      intro x hx
      have hx' : x ∈ (pairsOf vs).toList := (hp.toList.mem_iff).mp hx
      rw [epz] at hx'
      obtain ⟨v, hv, rfl⟩ := List.mem_map.mp hx'
      exact ⟨v, hv, rfl⟩
    show List.Pairwise _ _
    rw [List.pairwise_iff_getElem]
    intro i j hi hj hij
    have q := hs i j (arrOf st').toList[i] (arrOf st').toList[j] (Nat.zero_le _) hij (by rw [← hp.size_eq, ← Array.length_toList]; exact hj) (by rw [← Array.getElem?_toList]; simp [hi]) (by rw [← Array.getElem?_toList]; simp [hj])
    obtain ⟨v, hv, ev⟩ := mem _ (List.getElem_mem hi)
    obtain ⟨u, hu, eu⟩ := mem _ (List.getElem_mem hj)
    rw [ev, eu] at q ⊢
    dsimp only at q ⊢
    rw [keyV_keep (hT v hv) keep, keyV_keep (hT u hu) keep] at q
    exact q
theorem sorted_tups {l : Addr} {vs : List Value} {Q : Value → Shared → Prop} (hl : s.heap.IsList l vs.toArray) (hT : ∀ v ∈ vs, TupV s.heap v) (hz : vs.length ≤ sizeLine)
    (h : ∀ (out : Array Value), SortOut s.heap vs out → Q (.ref (s.heap.objs.size + 1)) { s with heap := sortedAll s.heap vs out }) :
    wpAny (model prog w) A (call (.builtin "sorted") [.ref l]) Q E s := by
  refine Calls.call_function_entry kind_sorted plain_sorted entry_sorted (args_sorted1 _) ?_
  unfold Builtin.«sorted»
  refine wpAny_bind (m := checkCount "sorted" 1 1 _) (wpAny_pure ?_)
  refine wpAny_bind (collect_list hl ?_ hz)
  refine wpAny_bind (wpAny_newList ?_ (by show vs.length ≤ _; exact hz))
  have hsz : ((s.heap.push (seqObj "list" #[] 0)).update s.heap.objs.size (Obj.mapSeq (· ++ vs.toArray))).objs.size = s.heap.objs.size + 1 := by
    rw [Heap.size_update, size_push']
  have hoL : (((s.heap.push (seqObj "list" #[] 0)).update s.heap.objs.size (Obj.mapSeq (· ++ vs.toArray))).push (seqObj "list" vs.toArray 0)).get? (s.heap.objs.size + 1) = some (seqObj "list" vs.toArray 0) := by
    rw [← hsz]; exact Heap.get?_push_size _ rfl
  have keep : ∀ b o, s.heap.get? b = some o → o.cls = .type "tuple" → (((s.heap.push (seqObj "list" #[] 0)).update s.heap.objs.size (Obj.mapSeq (· ++ vs.toArray))).push (seqObj "list" vs.toArray 0)).get? b = some o := fun b o q _ => by
    have hb : b ≠ s.heap.objs.size := Nat.ne_of_lt (Heap.lt_size q)
    refine Heap.get?_push_of_some _ ?_
    rw [Heap.get?_update_ne _ _ _ _ hb]
    exact Heap.get?_push_of_some _ q
  show wpAny _ _ _ _ _ { s with heap := ((s.heap.push (seqObj "list" #[] 0)).update s.heap.objs.size (Obj.mapSeq (· ++ vs.toArray))).push (seqObj "list" vs.toArray 0) }
  rw [hsz]
  refine wpAny_bind (wpAny_holding (wpAny_call_entry slot_list_sort ⟨_, hoL, rfl⟩ entry_list_sort (list_sort_tups (s := { s with heap := ((s.heap.push (seqObj "list" #[] 0)).update s.heap.objs.size (Obj.mapSeq (· ++ vs.toArray))).push (seqObj "list" vs.toArray 0) }) hoL (fun v hv => (hT v hv).keep keep) hz fun out ⟨o1, o2⟩ => ⟨_, rfl, ?_⟩) (args_list_sort _)))
  refine wpAny_pure ⟨_, rfl, h out ⟨o1, o2.imp_of_mem fun {x y} hx hy hxy => ?_⟩⟩
  dsimp only at hxy
  rw [keyV_keep (hT x (o1.mem_iff.mp hx)) keep, keyV_keep (hT y (o1.mem_iff.mp hy)) keep] at hxy
  exact hxy
theorem sortedAll_keep {vs : List Value} {out : Array Value} {b : Addr} {o : Obj} (q : s.heap.get? b = some o) : (sortedAll s.heap vs out).get? b = some o := by
  have hb := Heap.lt_size q
  unfold sortedAll sortedHeap
  rw [Heap.get?_update_ne _ _ _ _ (Nat.ne_of_lt (Nat.lt_succ_of_lt hb))]
  refine Heap.get?_push_of_some _ (Heap.get?_push_of_some _ ?_)
  rw [Heap.get?_update_ne _ _ _ _ (Nat.ne_of_lt (Nat.lt_succ_of_lt hb))]
  refine Heap.get?_push_of_some _ ?_
  rw [Heap.get?_update_ne _ _ _ _ (Nat.ne_of_lt hb)]
  exact Heap.get?_push_of_some _ q
theorem sortedAll_list {vs : List Value} {out : Array Value} : ∃ c, (sortedAll s.heap vs out).get? (s.heap.objs.size + 1) = some (seqObj "list" out c) := by
  have hsz : ((s.heap.push (seqObj "list" #[] 0)).update s.heap.objs.size (Obj.mapSeq (· ++ vs.toArray))).objs.size = s.heap.objs.size + 1 := by
    rw [Heap.size_update, size_push']
  have hoL : (((s.heap.push (seqObj "list" #[] 0)).update s.heap.objs.size (Obj.mapSeq (· ++ vs.toArray))).push (seqObj "list" vs.toArray 0)).get? (s.heap.objs.size + 1) = some (seqObj "list" vs.toArray 0) := by
    rw [← hsz]; exact Heap.get?_push_size _ rfl
  unfold sortedAll sortedHeap
  have h1 := get?_update_seq hoL (fun _ => #[])
  have h2 := Heap.get?_push_of_some (seqObj "list" #[] 0) (Heap.get?_push_of_some (seqObj "tuple" vs.toArray 0) h1)
  exact ⟨_, get?_update_seq h2 (fun _ => out)⟩
end
/-! values in the order of their data -/
theorem vals_perm : ∀ {us us' : List Value}, us'.Perm us → ∀ {vs : List V}, Vals vs us → ∃ vs', vs'.Perm vs ∧ Vals vs' us' := by
  intro us us' p
  induction p with
  | nil => intro vs h; exact ⟨vs, .refl _, h⟩
  | @cons x l1 l2 _ ih =>
    intro vs h
    cases h with
    | cons r t =>
      obtain ⟨vs', p', h'⟩ := ih t
      exact ⟨_ :: vs', p'.cons _, .cons r h'⟩
  | swap x y l =>
    intro vs h
    cases h with
    | cons r t =>
      cases t with
      | cons r' t' => exact ⟨_, .swap _ _ _, .cons r' (.cons r t')⟩
  | trans _ _ ih1 ih2 =>
    intro vs h
    obtain ⟨v1, p1, h1⟩ := ih2 h
    obtain ⟨v2, p2, h2⟩ := ih1 h1
    exact ⟨v2, p2.trans p1, h2⟩
theorem paired_perm {α β : Type} {R : α → β → Prop} : ∀ {vs vs' : List α}, vs'.Perm vs → ∀ {ns : List β}, Paired R vs ns → ∃ ns', ns'.Perm ns ∧ Paired R vs' ns' := by
  intro vs vs' p
  induction p with
  | nil => intro ns h; exact ⟨ns, .refl _, h⟩
  | @cons x l1 l2 _ ih =>
    intro ns h
    cases h with
    | cons r t =>
      obtain ⟨ns', p', h'⟩ := ih t
      exact ⟨_ :: ns', p'.cons _, .cons r h'⟩
  | swap x y l =>
    intro ns h
    cases h with
    | cons r t =>
      cases t with
      | cons r' t' => exact ⟨_, .swap _ _ _, .cons r' (.cons r t')⟩
  | trans _ _ ih1 ih2 =>
    intro ns h
    obtain ⟨n1, p1, h1⟩ := ih2 h
    obtain ⟨n2, p2, h2⟩ := ih1 h1
    exact ⟨n2, p2.trans p1, h2⟩
section
variable {X : Cx} {pins : List (Addr × Obj)} {σ : St} {H : Hp} {s : Shared}
theorem ints_of_vals : ∀ {ns : List Int} {us : List Value}, Vals (ns.map V.int) us → IntsAre us ns
  | [], _, h => by cases h; exact .nil
  | n :: ns, _, h => by
    cases h with
    | cons r t =>
      obtain ⟨t', rfl⟩ := (show ∃ t, _ = Value.int n t from r)
      exact .cons _ _ (ints_of_vals t)
theorem tupV_of (I : Inv X pins σ H s) {v : V} {u : Value} {ns : List Int} (t : Tp H v ns) (hn : ns ≠ []) (r : RelV v u) : TupV s.heap u ∧ keyV s.heap u = ns := by
  obtain ⟨p, rfl, hp⟩ := t
  cases (show u = Value.ref p from r)
  obtain ⟨its, rv, ⟨o, ho, hc, n, hd⟩, _⟩ := I.tuple (SqT.of (K := X.K) hp)
  have hi : IntsAre its.toArray.toList ns := by simpa using ints_of_vals rv
  exact ⟨⟨p, o, _, n, ns, rfl, ho, hc, hd, hi, hn⟩, keyV_of ho hd hi⟩
theorem tups_all (I : Inv X pins σ H s) : ∀ {vs : List V} {us : List Value} {nss : List (List Int)}, Vals vs us → Tps H vs nss → (∀ ns ∈ nss, ns ≠ []) → (∀ u ∈ us, TupV s.heap u) ∧ us.map (keyV s.heap) = nss
  | _, _, _, .nil, .nil, _ => ⟨fun _ h => (nomatch h), rfl⟩
  | _, _, _, .cons r t, .cons q z, hn => by
    obtain ⟨h1, h2⟩ := tups_all I t z fun ns h => hn ns (List.mem_cons_of_mem _ h)
    obtain ⟨k1, k2⟩ := tupV_of I q (hn _ List.mem_cons_self) r
    refine ⟨fun u hu => ?_, by rw [List.map_cons, h2, k2]⟩
    rcases List.mem_cons.mp hu with rfl | hu
    · exact k1
    · exact h1 u hu
/-- sorted(list of tuples of ints) -/
theorem call_sortedT : CallR X (.builtin "sorted") (fun xs H Q => ∃ p vs nss, xs = [.ref p] ∧ SqL X.K H p vs ∧ Tps H vs nss ∧ (∀ ns ∈ nss, ns ≠ []) ∧
    ∀ l vs' nss', H l = none → Tps (upd H l (.lst vs')) vs' nss' → nss'.Perm nss → LSrt nss' → Q (.ref l) (upd H l (.lst vs'))) := by
  intro pins s σ H xs us Q I r h
  obtain ⟨p, vs, nss, rfl, hq, ht, hn, q⟩ := h
  obtain ⟨u, rfl, rx⟩ := vals1 r
  cases rx
  obtain ⟨its, r', pl, hz⟩ := I.list hq
  have hlen := r'.length
  obtain ⟨hT, hk⟩ := tups_all I r' ht hn
  refine sorted_tups pl.isList hT (by omega) fun out ⟨o1, o2⟩ => ?_
  obtain ⟨vs', pv, rv⟩ := vals_perm o1 r'
  obtain ⟨nss', pn, rn⟩ := paired_perm pv ht
  obtain ⟨_, hk'⟩ := tups_all I rv rn fun ns h => hn ns (pn.mem_iff.mp h)
  have hnew : H (s.heap.objs.size + 1) = none := I.hok.fresh (Nat.le_succ _)
  obtain ⟨c, hc⟩ := sortedAll_list (s := s) (vs := its) (out := out)
  refine ⟨.ref (s.heap.objs.size + 1), _, I.laid (t' := s.toks) (o := .lst vs') (fun b o e => sortedAll_keep e) (Nat.le_succ _) ⟨by rw [pv.length_eq]; exact hz, out.toList, c, rv, by simpa using hc⟩, rfl, ?_⟩
  refine q _ vs' nss' hnew (Tps.mono (Same.new hnew _) rn) pn ?_
  rw [← hk', LSrt, List.pairwise_map]
  exact o2
end
end L2

set_option Elab.async false
set_option linter.all false
set_option maxRecDepth 100000
set_option maxHeartbeats 4000000
/-! ### dicts keyed by tuples: pop, len, a walk over the keys; a display of one pair -/
namespace L2
open PySem PySem.Spec PyProof.Rows
section
variable {prog : Program} {w : World} {K : Type} [DecidableEq K] {knd : HeapKind prog w K} {A : Around} {E : Value → Shared → Prop} {s : Shared} {d a : Addr} {xs : List (K × Addr × Value)} {k : K}
def withoutH (xs : List (K × Addr × Value)) (k : K) : List (K × Addr × Value) := xs.filter fun x => decide (x.1 ≠ k)
theorem erase_withoutH : ∀ {xs : List (K × Addr × Value)} {j : Nat} {p : Addr × Value}, (xs.map (·.1)).Nodup → xs[j]? = some (k, p) → xs.eraseIdx j = withoutH xs k
  | [], _, _, _, h => by simp at h
  | x :: r, 0, p, hn, h => by
    simp only [List.getElem?_cons_zero, Option.some.injEq] at h
    subst h
    rw [List.map_cons, List.nodup_cons] at hn
    show r = withoutH ((k, p) :: r) k
    unfold withoutH
    rw [List.filter_cons_of_neg (by simp)]
    refine (List.filter_eq_self.mpr fun y hy => ?_).symm
    have : y.1 ≠ k := fun e => hn.1 (e ▸ List.mem_map.mpr ⟨y, hy, rfl⟩)
    simpa using this
  | x :: r, j + 1, p, hn, h => by
    simp only [List.getElem?_cons_succ] at h
    rw [List.map_cons, List.nodup_cons] at hn
    have hx : x.1 ≠ k := fun e => hn.1 (e ▸ List.mem_map.mpr ⟨(k, p), List.mem_of_getElem? h, rfl⟩)
    show x :: r.eraseIdx j = withoutH (x :: r) k
    unfold withoutH
    rw [List.filter_cons_of_pos (by simpa using hx), erase_withoutH hn.2 h]
    rfl
theorem map_erase {α β : Type} (f : α → β) : ∀ (l : List α) (i : Nat), (l.map f).eraseIdx i = (l.eraseIdx i).map f
  | [], _ => by simp
  | x :: l, 0 => rfl
  | x :: l, i + 1 => by
    show f x :: (l.map f).eraseIdx i = f x :: (l.eraseIdx i).map f
    rw [map_erase f l i]
theorem wpAny_takeOut_heap {p : Addr × Value} {Q : Option DictEntry → Shared → Prop} (hu : knd.room A) (hkey : knd.is s.heap k a) (hm : s.heap.DictOfH knd d xs) (hp : atKey xs k = some p) (hsz : xs.length ≤ sizeLine)
    (hQ : ∀ e h', e.val = p.2 → h'.DictOfH knd d (withoutH xs k) → Heap.SameBut d s.heap h' → Q (some e) { s with heap := h', toks := s.toks + knd.draws k }) :
    wpAny (model prog w) A (Builtin.Dict.takeOut d (.ref a)) Q E s := by
  obtain ⟨o, es, ep, ho, hc, hd, he, his, hn⟩ := hm
  unfold Builtin.Dict.takeOut
  try with_reducible refine wpAny_holding ?_
  refine wpAny_bind (knd.pyHash hu hkey (wpAny_bind (wpAny_dictFind_heap (s := { s with toks := s.toks + knd.draws k }) hu hkey ho hd he his hn ?_ ?_)))
  · intro hno
    rw [atKey_none_of_get hno] at hp
    cases hp
  · intro j q hj
    have hq : q = p := Option.some.inj ((atKey_of_get hn hj).symm.trans hp)
    subst hq
    refine wpAny_bind (wpAny_dictEntries (s := { s with toks := s.toks + knd.draws k }) ho hd ?_)
    rw [entry_at he j, hj]
    have hes : es.size ≤ sizeLine := by rw [size_of_entries he]; exact hsz
    have hel : (es.eraseIdxIfInBounds j).toList = es.toList.eraseIdx j := by
      obtain ⟨l⟩ := es
      simp
    refine wpAny_bind (wpAny_updateDictKeys (hz := hes) (s := { s with toks := s.toks + knd.draws k }) ho hd (wpAny_pure (hQ (entryOfKey knd (k, q)) _ rfl ⟨_, _, ep + 1, Heap.get?_update_self _ ho (Obj.isFreed_of_dict (Obj.data_mapDictKeys hd _)),
      hc.mapDictKeys _, Obj.data_mapDictKeys hd _, ?_, ?_, ?_⟩ (Heap.SameBut.update ..))))
    · rw [hel, he, ← erase_withoutH hn hj, map_erase]
    · intro x hx
      exact knd.keeps (his x (List.mem_filter.mp hx).1) ho hd (Heap.SameBut.update ..)
    · have : (withoutH xs k).Sublist xs := List.filter_sublist
      exact hn.sublist (this.map _)
theorem meetsH_dict_pop :
    MeetsIn prog w (Builtin.«dict.pop» ⟨[.ref d, .ref a], []⟩) (fun A R s => knd.room A.in1 ∧ ∃ k xs p, knd.is s.heap k a ∧ s.heap.DictOfH knd d xs ∧ xs.length ≤ sizeLine ∧ atKey xs k = some p ∧
      ∀ h', h'.DictOfH knd d (withoutH xs k) → Heap.SameBut d s.heap h' → R (.ok (.ret p.2)) { s with heap := h', toks := s.toks + knd.draws k }) :=
  .of_wp fun A R s ⟨hu, k, xs, p, hkey, hm, hsz, hp, h⟩ => by
    have hne : xs ≠ [] := by rintro rfl; simp [atKey] at hp
    obtain ⟨o, es, ep, ho, hc, hd, he, his, hn⟩ := id hm
    unfold Builtin.«dict.pop»
    refine wpAny_bind ?_
    unfold Builtin.Dict.keyAndDefault
    refine wpAny_bind (wpAny_notOrdered_dict hm.typeIs ?_)
    show wpAny _ _ (pure (d, Value.ref a, none)) _ _ s
    refine wpAny_pure ?_
    simp only [keyPart, Option.isSome_none, Bool.false_eq_true, if_false]
    refine wpAny_bind (wpAny_dictEntries ho hd ?_)
    have hsz0 : es.isEmpty = false := by
      have := size_of_entries he
      have h1 : 0 < xs.length := List.length_pos_iff.mpr hne
      cases hb : es.isEmpty with
      | false => rfl
      | true => rw [Array.isEmpty_iff_size_eq_zero] at hb; omega
    first | refine wpAny_bind (wpAny_pure ?_) | skip
    rw [hsz0]
    simp only [Bool.false_eq_true, if_false]
    refine wpAny_bind (wpAny_takeOut_heap hu hkey hm hp hsz fun e h' hev hm' hs' => ?_)
    simp only [Option.isNone_some, Bool.false_eq_true, if_false]
    exact wpAny_bind (wpAny_letGo (wpAny_pure ⟨e.val, rfl, by rw [hev]; exact h h' hm' hs'⟩))
end
/-- a dict's object with its entries -/
def RawD (h : Heap) (d : Addr) (es : Array DictEntry) (ep : Nat) : Prop := ∃ o, h.get? d = some o ∧ o.ExactDict ∧ o.data = .dict es ep
theorem RawD.typeIs {s : Shared} {d : Addr} {es : Array DictEntry} {ep : Nat} (x : RawD s.heap d es ep) : s.TypeIs (.ref d) "dict" := let ⟨o, ho, hc, _⟩ := x; ⟨o, ho, hc.1⟩
section
variable {prog : Program} {w : World} {A : Around} {E : Value → Shared → Prop} {s : Shared} {d it : Addr} {es : Array DictEntry} {ep i : Nat}
theorem raw_len {Q : Value → Shared → Prop} (hd : (d == sysModules) = false) (hm : RawD s.heap d es ep) (hfit : (es.size : Int) < 2 ^ 63)
    (h : ∀ t t', Q (.int es.size t) { s with toks := t' }) : wpAny (model prog w) A (call (.builtin "len") [.ref d]) Q E s := by
  refine Calls.call_function_entry kind_len plain_len entry_len (args_len1 _) ?_
  obtain ⟨o, ho, hc, hdat⟩ := id hm
  have meets : MeetsIn prog w (Builtin.«dict.__len__» ⟨[.ref d], []⟩) (fun _ R s' => s'.heap = s.heap ∧ R (.ok (.ret (.int es.size s'.toks))) { s' with toks := s'.toks + 1 }) :=
    .of_wp fun A R s' ⟨hh, h⟩ => by
      show wpAny _ _ (dictSize d >>= _) _ _ s'
      unfold dictSize
      refine wpAny_bind (wpAny_bind (wpAny_dictEntries (by rw [hh]; exact ho) hdat (wpAny_pure ?_)))
      show wpAny _ _ (Builtin.Dict.pendingCount d >>= _) _ _ s'
      refine wpAny_bind (wpAny_pendingCount_other hd ?_)
      refine wpAny_ret_mkInt ?_
      rw [Nat.add_zero]; exact h
  unfold Builtin.«len»
  refine wpAny_bind (m := oneArg "len" _) (wpAny_pure ?_)
  refine wpAny_bind (m := callSpecial? (.ref d) (Str.ofString "__len__")) (wpAny_callSpecial?_slot (name := Str.ofString "__len__") hm.typeIs F.slot_dict_len
    (call_meetsIn F.slot_dict_len hm.typeIs F.entry_dict_len (F.args_dict_len_1 _) meets ⟨rfl, ?_⟩))
  show wpAny _ _ _ _ _ { s with toks := s.toks + 1 }
  refine wpAny_bind (wpAny_holding (wpAny_pure ?_))
  refine wpAny_bind (wpAny_letGo ?_)
  show wpAny _ _ (if ((es.size : Nat) : Int) < 0 then _ else _) _ _ _
  rw [if_neg (by omega)]
  show wpAny _ _ (if ((es.size : Nat) : Int) ≥ 2 ^ 63 then _ else _) _ _ _
  rw [if_neg (by omega)]
  exact wpAny_bind (wpAny_mkInt (wpAny_pure ⟨_, rfl, h _ _⟩))
theorem raw_iter {Q : Value → Shared → Prop} (hd : (d == sysModules) = false) (hm : RawD s.heap d es ep)
    (hQ : Q (.ref s.heap.objs.size) { s with heap := s.heap.push { cls := .type "dict_keyiterator", data := .fields #[.ref d, .int 0 0, .int es.size 0, .int ep 0] } }) :
    wpAny (model prog w) A (pyIter (.ref d)) Q E s := by
  obtain ⟨o, ho, hc, hdat⟩ := id hm
  have hT : s.TypeIs (.ref d) "dict" := hm.typeIs
  refine wpAny_pyIter_slot hT F.slot_dict_iter (wpAny_call_entry F.slot_dict_iter hT F.entry_dict_iter ?_ (F.args_dict_iter_1 _))
  unfold Builtin.«dict.__iter__»
  refine wpAny_bind ?_
  unfold Builtin.Dict.dictSlotNone
  refine wpAny_bind (wpAny_notOrdered_dict hT ?_)
  show wpAny _ _ (pure (Value.ref d)) _ _ s
  refine wpAny_pure ?_
  show wpAny _ _ (Builtin.Dict.showsAll d >>= _) _ _ s
  unfold Builtin.Dict.showsAll
  rw [if_neg (by rw [hd]; exact Bool.false_ne_true)]
  refine wpAny_bind (wpAny_pure ?_)
  refine wpAny_bind (wpAny_dictEntries ho hdat ?_)
  refine wpAny_bind (wpAny_dictEpoch ho hdat ?_)
  refine wpAny_bind (wpAny_newObj_type (wpAny_pure ⟨_, rfl, "dict_keyiterator", _, ⟨_, Heap.get?_push_size _ rfl, rfl⟩, F.slot_dict_keyiterator_next.lookup, ?_⟩))
  simpa [rawInt] using hQ
theorem raw_item {e : DictEntry} {Q : Option Value → Shared → Prop} (hit : s.heap.IsKeyIter it d i es.size ep) (hm : RawD s.heap d es ep) (hx : es[i]? = some e)
    (hQ : ∀ h', h'.IsKeyIter it d (i + 1) es.size ep → Heap.SameBut it s.heap h' → Q (some e.key) { s with heap := h' }) :
    wpAny (model prog w) A (pyNext (.ref it)) Q E s := by
  obtain ⟨o, ho, hc, hd⟩ := id hit
  obtain ⟨od, hod, hcd, hdd⟩ := id hm
  unfold pyNext
  refine wpAny_bind (wpAny_attempt (wpAny_callSpecial?_slot (name := Str.ofString "__next__") hit.typeIs F.slot_dict_keyiterator_next
    (wpAny_call_entry F.slot_dict_keyiterator_next hit.typeIs F.entry_dict_keyiterator_next ?_ (F.args_dict_keyiterator_next_1 _))))
  refine wpAny_bind (wpAny_pure ?_)
  refine wpAny_bind ?_
  refine wpAny_bind ?_
  first | refine wpAny_bind (wpAny_typeNameOfWhole_keyiter hit.typeIs (wpAny_pure ?_)) | refine wpAny_bind (wpAny_typeNameOf_keyiter hit.typeIs (wpAny_pure ?_))
  refine wpAny_bind (wpAny_fieldsOf ho hd ?_)
  have hown : Builtin.Dict_items.ownsTuple "dict_keyiterator" = false := by decide
  simp only [hown, Bool.false_eq_true, if_false]
  show wpAny _ _ (if (Value.ref d == Value.none) = true then _ else _) _ _ s
  rw [if_neg (show ¬ ((Value.ref d == Value.none) = true) from Bool.false_ne_true)]
  refine wpAny_bind (wpAny_pure ?_)
  refine wpAny_bind (wpAny_dictEntries hod hdd ?_)
  rw [if_neg (by simp)]
  refine wpAny_bind (wpAny_pure ?_)
  refine wpAny_bind (wpAny_dictEpoch hod hdd ?_)
  rw [if_neg (by simp)]
  refine wpAny_pure ?_
  simp only [show ¬ ((i : Int) < 0) from by omega, if_false, Int.toNat_natCast, hx]
  refine wpAny_bind ?_
  first | refine wpAny_bind (wpAny_typeNameOfWhole_keyiter hit.typeIs (wpAny_pure ?_)) | refine wpAny_bind (wpAny_typeNameOf_keyiter hit.typeIs (wpAny_pure ?_))
  refine wpAny_bind (wpAny_isOneOf_keyiter hit.typeIs ?_)
  show wpAny _ _ (setField (.ref it) 1 (rawInt ((i : Int) + 1)) >>= _) _ _ s
  refine wpAny_bind (wpAny_setField ho hd (by simp) ?_)
  have hit' : (s.heap.update it (Obj.mapFields (·.setIfInBounds 1 (rawInt ((i : Int) + 1))))).IsKeyIter it d (i + 1) es.size ep :=
    ⟨_, Heap.get?_update_self _ ho (Obj.isFreed_of_fields (Obj.data_mapFields hd _)), (Obj.cls_mapFields ..).trans hc, by rw [Obj.data_mapFields hd]; simp [rawInt]⟩
  refine wpAny_bind (wpAny_holding ?_)
  refine wpAny_bind (wpAny_isOneOf_keyiter (s := { s with heap := s.heap.update it (Obj.mapFields (·.setIfInBounds 1 (rawInt ((i : Int) + 1)))) }) hit'.typeIs ?_)
  show wpAny _ _ (pure e.key) _ _ _
  exact wpAny_pure (wpAny_pure ⟨_, rfl, wpAny_pure (hQ _ hit' (Heap.SameBut.update ..))⟩)
theorem raw_end {Q : Option Value → Shared → Prop} (hh : A.handled = none) (hit : s.heap.IsKeyIter it d i es.size ep) (hm : RawD s.heap d es ep) (hx : es.size ≤ i)
    (hQ : ∀ h', Heap.ExtBut it s.heap h' → Q none { s with heap := h' }) : wpAny (model prog w) A (pyNext (.ref it)) Q E s := by
  obtain ⟨o, ho, hc, hd⟩ := id hit
  obtain ⟨od, hod, hcd, hdd⟩ := id hm
  unfold pyNext
  refine wpAny_bind (wpAny_attempt (wpAny_callSpecial?_slot (name := Str.ofString "__next__") hit.typeIs F.slot_dict_keyiterator_next
    (wpAny_call_entry F.slot_dict_keyiterator_next hit.typeIs F.entry_dict_keyiterator_next ?_ (F.args_dict_keyiterator_next_1 _))))
  refine wpAny_bind (wpAny_pure ?_)
  refine wpAny_bind ?_
  refine wpAny_bind ?_
  first | refine wpAny_bind (wpAny_typeNameOfWhole_keyiter hit.typeIs (wpAny_pure ?_)) | refine wpAny_bind (wpAny_typeNameOf_keyiter hit.typeIs (wpAny_pure ?_))
  refine wpAny_bind (wpAny_fieldsOf ho hd ?_)
  have hown : Builtin.Dict_items.ownsTuple "dict_keyiterator" = false := by decide
  simp only [hown, Bool.false_eq_true, if_false]
  show wpAny _ _ (if (Value.ref d == Value.none) = true then _ else _) _ _ s
  rw [if_neg (show ¬ ((Value.ref d == Value.none) = true) from Bool.false_ne_true)]
  refine wpAny_bind (wpAny_pure ?_)
  refine wpAny_bind (wpAny_dictEntries hod hdd ?_)
  rw [if_neg (by simp)]
  refine wpAny_bind (wpAny_pure ?_)
  refine wpAny_bind (wpAny_dictEpoch hod hdd ?_)
  rw [if_neg (by simp)]
  refine wpAny_pure ?_
  simp only [show ¬ ((i : Int) < 0) from by omega, if_false, Int.toNat_natCast, Array.getElem?_eq_none hx]
  refine wpAny_bind ?_
  first | refine wpAny_bind (wpAny_typeNameOfWhole_keyiter hit.typeIs (wpAny_pure ?_)) | refine wpAny_bind (wpAny_typeNameOf_keyiter hit.typeIs (wpAny_pure ?_))
  show wpAny _ _ (setField (.ref it) 0 .none >>= _) _ _ s
  refine wpAny_bind (wpAny_setField ho hd (by simp) ?_)
  show wpAny _ _ (newExc (.type "StopIteration") [] >>= _) _ _ _
  refine wpAny_bind ?_
  simp only [newExc, newTuple]
  refine wpAny_bind (wpAny_newObj_type ?_ (by size_fits))
  refine wpAny_bind (m := firstArgMember _ _) (wpAny_of_eq (a := Value.none) (by first | rfl | (simp only [firstArgMember]; rfl)) ?_)
  refine wpAny_newObj_type ?_ (by size_fits)
  simp only [raiseNew]
  refine wpAny_bind (wpAny_handled ?_)
  rw [show A.in1.handled = none from hh]
  refine wpAny_bind (wpAny_pure (wpAny_throw ?_))
  refine wpAny_bind (wpAny_isInstance (T := "StopIteration") (b := true) ⟨_, Heap.get?_push_size _ rfl, rfl⟩ isSubtype_stop ?_)
  exact wpAny_pure (hQ _ (((Heap.SameBut.update ..).extBut.push _).push _))
end
/-! ### over the abstract heap -/
section
variable {X : Cx} {pins : List (Addr × Obj)} {σ : St} {H : Hp} {s : Shared} {a b : Addr} {kvs : List (List Key × V)} {k : List Key} {A : Around} {E : Value → Shared → Prop}
theorem KT.drop {H : Hp} {kvs : List (List Key × V)} {xs : List (List Key × Addr × Value)} (r : KT H kvs xs) (k : List Key) : KT H (dropK kvs k) (withoutH xs k) := by
  induction r with
  | nil => exact .nil
  | @cons p q ps qs h t ih =>
    unfold dropK withoutH
    by_cases e : p.1 = k
    · rw [List.filter_cons_of_neg (by simp [e]), List.filter_cons_of_neg (by simp [← h.1, e])]
      exact ih
    · rw [List.filter_cons_of_pos (by simp [e]), List.filter_cons_of_pos (by simp [← h.1, e])]
      exact .cons h ih
theorem dT_pop {v : V} {Q : Value → Shared → Prop} (hu : A.units + 1 < cLine) (I : Inv X pins σ H s) (e : H a = some (.dT kvs)) (eb : H b = some (.tup (k.map kV))) (l : valV kvs k = some v)
    (h : ∀ w' s', Inv X pins σ (upd H a (.dT (dropK kvs k))) s' → RelV v w' → Q w' s') : wpAny (model X.prog X.w) A (call (.builtin "dict.pop") [.ref a, .ref b]) Q E s := by
  obtain ⟨z, hd, xs, rel, dd⟩ := dt_of I.hok e
  obtain ⟨u, hw, rw'⟩ := RelO.some_of (v := v) (o := (atKey xs k).map (·.2)) (by rw [← l]; exact rel.val k)
  obtain ⟨p, hp, rfl⟩ := Option.map_eq_some_iff.mp hw
  refine call_meetsIn PySem.F.slot_dict_pop dd.typeIs PySem.F.entry_dict_pop (PySem.F.args_dict_pop_2 _ _) meetsH_dict_pop ⟨tupleKind_room_in1 hu, k, xs, p, key_of I.hok eb, dd, by rw [← Paired.length rel]; exact z, hp, fun h' dd' hs => h p.2 _ ?_ rw'⟩
  obtain ⟨q, es, ep, hq, h2, h3, h4, _, h5⟩ := dd'
  refine d_write I (by rw [e]; exact True.intro) hs ⟨q, hq⟩ ⟨Nat.le_trans (dropK_le kvs k) z, hd, _, (rel.drop k).keeps fun c ys ec => ?_, q, es, ep, hq, h2, h3, h4, h5⟩
  rw [upd_ne (ne_of ec e (fun z => nomatch z))]
  exact ec
theorem dT_raw (I : Inv X pins σ H s) (e : Rd H a (.dT kvs)) : (a == sysModules) = false ∧ kvs.length ≤ sizeLine ∧ ∃ (es : Array DictEntry) (ep : Nat), RawD s.heap a es ep ∧ es.size = kvs.length ∧
    ∀ (i : Nat) (x : DictEntry), es[i]? = some x → ∃ p ks v, kvs[i]? = some (ks, v) ∧ x.key = .ref p ∧ H p = some (.tup (ks.map kV)) := by
  obtain ⟨z, hd, xs, rel, o, es, ep, h1, h2, h3, h4, h5, h6⟩ := dt_rd I.hok e
  refine ⟨hd, z, es, ep, ⟨o, h1, h2, h3⟩, by rw [size_of_entries h4, ← Paired.length rel], fun i x hx => ?_⟩
  rw [entry_at h4 i] at hx
  obtain ⟨y, hy, rfl⟩ := Option.map_eq_some_iff.mp hx
  have all : ∀ {l : List (List Key × V)} {m : List (List Key × Addr × Value)}, KT H l m → ∀ (i : Nat) y, m[i]? = some y → ∃ v, l[i]? = some (y.1, v) ∧ H y.2.1 = some (.tup (y.1.map kV)) := by
    intro l m q
    induction q with
    | nil => intro i y hy; simp at hy
    | @cons p q ps qs hq t ih =>
      intro i y hy
      cases i with
      | zero =>
        simp only [List.getElem?_cons_zero, Option.some.injEq] at hy
        subst hy
        exact ⟨p.2, by rw [← hq.1]; rfl, by rw [← hq.1]; exact hq.2.1⟩
      | succ j =>
        simp only [List.getElem?_cons_succ] at hy ⊢
        exact ih j y hy
  obtain ⟨v, hv, hp⟩ := all rel i y hy
  exact ⟨y.2.1, y.1, v, hv, rfl, hp⟩
theorem call_lenDT : CallR X (.builtin "len") (fun xs H Q => ∃ a kvs, xs = [V.ref a] ∧ Rd H a (.dT kvs) ∧ Q (.int kvs.length) H) := by
  intro pins s σ H xs us Q I r h
  obtain ⟨a, kvs, rfl, e, q⟩ := h
  obtain ⟨u, rfl, rx⟩ := vals1 r
  cases rx
  obtain ⟨hd, z, es, ep, raw, hs, _⟩ := dT_raw I e
  have hn := line63
  refine raw_len hd raw (by omega) fun t t' => ⟨.int kvs.length, H, I.tok _, ⟨t, by rw [hs]⟩, q⟩
/-- the dict is walked: it is kept as it stands from there on -/
theorem freeze (I : Inv X pins σ H s) (e : H a = some (.dT kvs)) : ∃ o, s.heap.get? a = some o ∧ Inv X pins σ (upd H a (.frz o (.dT kvs))) s := by
  obtain ⟨z, hd, xs, rel, o, es, ep, h1, h2, h3, h4, h5⟩ := I.hok a _ e
  refine ⟨o, h1, ?_⟩
  have := I.write (x := a) (e := a) (o := .frz o (.dT kvs)) (h' := s.heap) (t' := s.toks) (by rw [e]; exact True.intro) (.inl rfl) (fun b u _ q => q) ⟨o, h1⟩ ⟨h1, z, hd, xs, KT.keeps rel fun c ys ec => by rw [upd_ne (ne_of ec e (fun z => nomatch z))]; exact ec, o, es, ep, h1, h2, h3, h4, h5⟩
  exact this
def Itd (a : Addr) (o : Obj) (kvs : List (List Key × V)) : It :=
  ⟨fun i H => H a = some (.frz o (.dT kvs)) ∧ i < kvs.length, fun i H x H' => H' = H ∧ ∃ p ks v, kvs[i]? = some (ks, v) ∧ x = .ref p ∧ H p = some (.tup (ks.map kV)), fun i H => H a = some (.frz o (.dT kvs)) ∧ kvs.length ≤ i⟩
theorem frz_raw (I : Inv X pins σ H s) {o : Obj} {es : Array DictEntry} {ep : Nat} (e : H a = some (.frz o (.dT kvs))) (hc : o.ExactDict) (hd : o.data = .dict es ep) : RawD s.heap a es ep :=
  ⟨o, (I.hok a _ e).1, hc, hd⟩
theorem turn_dict {P : Program} {w : World} {K : PySem.W.Frag} {tg : Expr} {o : Obj} {es : Array DictEntry} {ep : Nat} (a it : Addr) (hc : o.ExactDict) (hd : o.data = .dict es ep) (hs : es.size = kvs.length) :
    Turn P w K tg (Itd a o kvs) [it] it (fun i h => h.IsKeyIter it a i es.size ep) where
  mem := by simp
  obj := fun i h st b hb => by
    have e : b = it := by simpa using hb
    subst e
    obtain ⟨o, e, c, d⟩ := st
    exact ⟨o, e, fun v z => by rw [d] at z; cases z⟩
  keep := fun i h h' st k => st.at fun o e => k it (by simp) o e
  item := by
    intro X hP hw hK hcalm i pins s σ H E I hf st hg
    subst hP hw hK
    obtain ⟨hz, hi⟩ := hg
    obtain ⟨f0, f1, f2, f3, f4, f5⟩ := hf it (by simp)
    obtain ⟨_, _, es', ep', ⟨o', r1, r2, r3⟩, _, keys⟩ := dT_raw I (.inr ⟨o, hz⟩)
    have eo : o' = o := Option.some.inj (r1.symm.trans (I.hok a _ hz).1)
    subst eo
    rw [hd] at r3
    injection r3 with r3 _
    subst r3
    have hx : es[i]? = some (es[i]'(by omega)) := Array.getElem?_eq_getElem (by omega)
    obtain ⟨p, ks, v, k1, k2, k3⟩ := keys i _ hx
    refine raw_item st (frz_raw I hz hc hd) hx fun h' st' sb => ?_
    have I1 : Inv X pins σ H { s with heap := h' } := I.turned (t' := s.toks) (fun b o hb e => (sb.2 b hb).trans e) f0 f1 f3 f4 f5
    obtain ⟨oo, e, c, d⟩ := id st'
    exact ⟨_, rfl, go_of (s := { s with heap := h' }) e c d (by decide) ⟨.ref p, H, I1, k2, ⟨rfl, p, ks, v, k1, rfl, k3⟩, st', fun b hb => (hf b hb).1⟩⟩
  done := by
    intro X hP hw hK hcalm i pins s σ H E I hf st hg
    subst hP hw hK
    obtain ⟨hz, hi⟩ := hg
    obtain ⟨f0, f1, f2, f3, f4, f5⟩ := hf it (by simp)
    exact raw_end (I.ok.hd hcalm) st (frz_raw I hz hc hd) (by omega) fun h' eb => ⟨rfl, I.turned (t' := s.toks) (fun b o hb e => eb b o hb e) f0 f1 f3 f4 f5⟩
  self := fun _ _ _ _ _ st h => wpAny_pyIter_keyiter st h
def iDict (td : TE) : TI := fun σ H R => td σ H fun x H1 => ∃ a kvs, x = .ref a ∧ H1 a = some (.dT kvs) ∧ ∀ o, R (Itd a o kvs) (upd H1 a (.frz o (.dT kvs)))
theorem pi_dict {tg l : Expr} {tl : TE} (hl : PE X l tl) : PI X tg l (iDict tl) := by
  intro pins s σ H R I h
  refine thn (hl pins s σ H _ I h) fun v s1 ⟨x, H1, I1, r1, q1⟩ => ?_
  obtain ⟨a, kvs, rfl, ea, q⟩ := q1
  cases r1
  obtain ⟨o, ho, I2⟩ := freeze I1 ea
  obtain ⟨hd, _, es, ep, raw, hs, _⟩ := dT_raw I1 (.inl ea)
  obtain ⟨o', h1, hc, hdat⟩ := id raw
  have eo : o' = o := Option.some.inj (h1.symm.trans ho)
  subst eo
  refine raw_iter hd raw ?_
  refine ⟨s1.heap.objs.size, [s1.heap.objs.size], _, _, _, rfl, I2.kept (t' := s1.toks) fun b o e => Heap.get?_push_of_some _ e, turn_dict a _ hc hdat hs, ⟨_, Heap.get?_push_size _ rfl, rfl, rfl⟩, fun b hb => ?_, q o'⟩
  have e : b = s1.heap.objs.size := by simpa using hb
  subst e
  exact I2.fpOk (Nat.le_refl _) (I2.hok.fresh (Nat.le_refl _))
theorem for_dict {a : Addr} {o : Obj} {kvs : List (List Key × V)} {g : TG} {tb : TS} {D : Ends} {σ : St} {H : Hp} (Pv : Nat → St → Hp → Prop) (h0 : Pv 0 σ H) (hl : ∀ i σ H, Pv i σ H → H a = some (.frz o (.dT kvs)))
    (hs : ∀ i p ks v σ H, kvs[i]? = some (ks, v) → H p = some (.tup (ks.map kV)) → Pv i σ H → g (.ref p) σ H fun σ2 H2 => tb { D with nx := Pv (i + 1), ct := Pv (i + 1), bk := D.nx } σ2 H2) (hd : ∀ σ H, Pv kvs.length σ H → D.nx σ H) :
    ∃ W : Nat → Nat → St → Hp → Prop, (∃ m, W 0 m σ H) ∧ ∀ i m σ H, W i m σ H →
      ((Itd a o kvs).stop i H ∧ D.nx σ H) ∨ ((Itd a o kvs).go i H ∧ ∃ N : St → Hp → Prop, (∀ σ' H', N σ' H' → ∃ m', m' < m ∧ W (i + 1) m' σ' H') ∧ ∀ x H', (Itd a o kvs).yld i H x H' → g x σ H' fun σ2 H2 => tb { D with nx := N, ct := N, bk := D.nx } σ2 H2) := by
  refine ⟨fun i m σ H => m = kvs.length - i ∧ i ≤ kvs.length ∧ Pv i σ H, ⟨kvs.length, by simp, Nat.zero_le _, h0⟩, ?_⟩
  rintro i m σ H ⟨rfl, hi, p⟩
  have q := hl i σ H p
  by_cases hlt : i < kvs.length
  · refine .inr ⟨⟨q, hlt⟩, Pv (i + 1), fun σ' H' p' => ⟨kvs.length - (i + 1), by omega, rfl, hlt, p'⟩, fun x H' y => ?_⟩
    obtain ⟨rfl, r, ks, v, hk, rfl, hr⟩ := y
    exact hs i r ks v σ _ hk hr p
  · have e : i = kvs.length := by omega
    subst e
    exact .inl ⟨⟨q, Nat.le_refl _⟩, hd σ H p⟩
end
/-! d.pop(t), {t: v} -/
def tDPopT (td ty : TE) : TE := fun σ H Q => td σ H fun x H1 => ∃ a, x = .ref a ∧ IsD H1 a ∧ ty σ H1 fun y H2 => ∃ kvs b k v, y = .ref b ∧ H2 a = some (.dT kvs) ∧ H2 b = some (.tup (k.map kV)) ∧ valV kvs k = some v ∧ Q v (upd H2 a (.dT (dropK kvs k)))
section
variable {X : Cx} {o e : Expr} {apos cpos : Pos} {td ty : TE}
theorem pe_dpopT (hu : X.A.units + 1 < cLine) (ho : PE X o td) (he : PE X e ty) (m : M1 X o "pop" apos e cpos) : PE X (.Call (.Attribute o "pop" apos) [e] [] cpos) (tDPopT td ty) := by
  intro pins s σ H Q I h
  refine wpAny_Call_method m.base m.few m.line PySem.F.plainAttrs_dict PySem.F.slot_dict_pop PySem.F.type_dict_pop (thn (ho pins s σ H _ I h) fun u s1 ⟨x, H1, I1, rx, a, ex, d, q1⟩ => ?_)
  subst ex
  obtain rfl : u = Value.ref a := rx
  obtain ⟨t1, t2, _⟩ := isD_at I1 d
  refine ⟨t1, t2, ?_⟩
  rw [m.trees]
  refine Calls.callWith_builtin rfl (Calls.evalArgs_plain (Calls.spliced_cons (thn (he pins s1 σ H1 _ I1 q1) fun iv s2 ⟨y, H2, I2, ry, kvs, b, k, v, ey, ea, eb, l, q2⟩ => Calls.spliced_nil ?_)))
  subst ey
  obtain rfl : iv = Value.ref b := ry
  exact dT_pop hu I2 ea eb l fun w' s3 I3 rw' => ⟨v, _, I3, rw', q2⟩
end
/-! {t: v} -/
def tDisp1 (tk tv : TE) : TE := fun σ H Q => ∀ p, H p = none → tk σ (upd H p (.dT [])) fun x H1 => tv σ H1 fun y H2 => ∃ b k, x = .ref b ∧ H2 b = some (.tup (k.map kV)) ∧ H2 p = some (.dT []) ∧ Q (.ref p) (upd H2 p (.dT [(k, y)]))
theorem pe_disp1 {X : Cx} {k v : Expr} {tk tv : TE} {pos : Pos} (hu : X.A.units + 1 < cLine) (hk : PE X k tk) (hv : PE X v tv) : PE X (.Dict [some k] [v] pos) (tDisp1 tk tv) := by
  intro pins s σ H Q I q
  have hn := I.hok.fresh (Nat.le_refl s.heap.objs.size)
  have I1 := I.laid (a := s.heap.objs.size) (o := .dT []) (h' := s.heap.push { cls := .type "dict", data := .dict #[] }) (t' := s.toks) (fun _ _ q => Heap.get?_push_of_some _ q) (Nat.le_refl _) (dt_empty s.heap I.big)
  refine PySem.wpAny_Dict_any rfl rfl (by simp) (by simp) (thn (pps_cons hk hv pps_nil pins _ σ _ (fun ps H2 => match ps with | [(x, y)] => ∃ b k, x = .ref b ∧ H2 b = some (.tup (k.map kV)) ∧ H2 s.heap.objs.size = some (.dT []) ∧ Q (.ref s.heap.objs.size) (upd H2 s.heap.objs.size (.dT [(k, y)])) | _ => False) I1 (q _ hn)) fun ws s2 ⟨ps, H2, I2, rel, qq⟩ => ?_)
  match ps, rel, qq with
  | [(x, y)], rel, ⟨b, k, ex, eb, e, q2⟩ =>
    subst ex
    cases rel with
    | @cons pq w2 ps' ws' r rr =>
      cases rr
      obtain ⟨kx, vx⟩ := w2
      obtain ⟨r1, r2⟩ := r
      cases (show kx = Value.ref b from r1)
      obtain ⟨z, hd, xs, rel, dd⟩ := dt_of I2.hok e
      cases rel
      show wpAny _ _ (storeAll s.heap.objs.size [(Value.ref b, vx)]) _ _ _
      unfold storeAll
      rw [List.forIn_cons]
      refine wpAny_bind (wpAny_bind (wpAny_dictSet_heap (hsz := Nat.zero_le _) (knd := tupleKind (mixKind X.prog X.w)) (show X.A.units < cLine by omega) (key_of I2.hok eb) dd fun h' dd' hs => wpAny_pure ?_))
      dsimp only
      rw [List.forIn_nil]
      refine wpAny_pure ⟨.ref s.heap.objs.size, _, ?_, rfl, q2⟩
      obtain ⟨oo, es, ep, hq, h2, h3, h4, _, h5⟩ := dd'
      refine d_write I2 (by rw [e]; exact True.intro) hs ⟨oo, hq⟩ ⟨by show 1 ≤ sizeLine; decide, hd, _, ?_, oo, es, ep, hq, h2, h3, h4, h5⟩
      have : storedH ([] : List (List Key × Addr × Value)) k b vx = [(k, b, vx)] := storedH_new rfl b vx
      rw [this]
      refine .cons ⟨rfl, ?_, r2⟩ .nil
      show upd H2 _ _ b = _
      rw [upd_ne (ne_of eb e (fun z => nomatch z))]
      exact eb
/-! ### products of large numbers; lists of lists of tuples -/
section
variable {X : Cx}
theorem op_mulB : OpR X (binaryOp .Mult) (rI IntMulOk fun i j => .int (i * j)) := opI fun _ _ _ _ _ _ _ hc q => mul_int q hc
def rEqLLT (X : Cx) : R2 := fun x y H Q => ∃ a b, RdD X H x (lltD a) ∧ RdD X H y (lltD b) ∧ Q (.bl (decide (a = b))) H
theorem op_eqLLT (hu : X.A.units + 64 < cLine) : OpR X (compareOp .Eq) (rEqLLT X) := fun pins s σ H x y v u Q I rx ry ⟨ns, ms, a, b, q⟩ =>
  op_eqD hu pins s σ H x y v u Q I rx ry ⟨_, _, a, b, sh_lltD _, sh_lltD _, by rw [eqv_lltD]; exact q⟩
end
/-- keys of a tuple of ints -/
def kI (ns : List Int) : List Key := ns.map Sum.inl
theorem kI_kV (ns : List Int) : (kI ns).map kV = ns.map V.int := by
  unfold kI
  rw [List.map_map]
  rfl
theorem kI_inj {a b : List Int} (h : kI a = kI b) : a = b := by
  have := congrArg (List.map fun (k : Key) => match k with | .inl i => i | .inr _ => 0) h
  simpa [kI, List.map_map, Function.comp_def] using this
theorem Tp.key {H : Hp} {v : V} {ns : List Int} (t : Tp H v ns) : ∃ p, v = .ref p ∧ H p = some (.tup ((kI ns).map kV)) := by
  obtain ⟨p, e, h⟩ := t
  exact ⟨p, e, by rw [kI_kV]; exact h⟩
theorem Tp.of_key {H : Hp} {p : Addr} {ns : List Int} (h : H p = some (.tup ((kI ns).map kV))) : Tp H (.ref p) ns := ⟨p, rfl, by rw [← kI_kV]; exact h⟩
end L2

set_option Elab.async false
set_option linter.all false
set_option maxRecDepth 100000
set_option maxHeartbeats 4000000
/-! ### list comprehensions -/
namespace L2
open PySem PySem.Spec PyProof.Rows
section
variable {prog : Program} {w : World} {A : Around} {R : Result → Shared → Prop} {s : Shared}
theorem compLoop_gen {elt target iter : Expr} {ifs : List Expr} {scope : Scope} {pos : Pos} {it acc : Value} {env : Env} (I : Nat → Shared → Prop)
    (turn : ∀ n s, I n s → wpAny (model prog w) A (pyNext it) (fun r s₁ => match r with
      | none => R (.ok .next) s₁
      | some v => wpAny (model prog w) A (letOwnedTupleGo target it v) (fun _ s₁' => wpAny (model prog w) A (assign target env v) (fun _ s₂ =>
          wpAny (model prog w) A (forIn ifs true fun c r => if r = true then do let ok ← isTrue c env (eval c env); pure (ForInStep.yield ok) else pure (ForInStep.yield r)) (fun ok s₃ =>
            if ok = true then wpAny (model prog w) A (eval elt env) (fun x s₄ =>
              wpAny (model prog w) A (call (.builtin "list.append") [acc, x]) (fun _ s₅ => ∃ m, m < n ∧ I m s₅) (fun _ _ => False) s₄) (fun _ _ => False) s₃
            else ∃ m, m < n ∧ I m s₃) (fun _ _ => False) s₂) (fun _ _ => False) s₁') (fun _ _ => False) s₁) (fun _ _ => False) s)
    (n : Nat) (h : I n s) :
    codeAny (model prog w) A (.compLoop (.ListComp elt [⟨target, iter, ifs, 0⟩] scope pos) 0 it acc env) R s := by
  refine codeAny_loop rfl I (fun n s hI => ?_) n h
  show wpAny _ A ((compTurn (.ListComp elt [⟨target, iter, ifs, 0⟩] scope pos) 0 it acc env).onRaise (fun x => do noteFrame x env; theTreesLotGoes x)) _ _ s
  refine wpAny_noted ?_
  rw [compTurn_list]
  have F : ∀ {Q : Value → Shared → Prop} (x : Value) (s : Shared), False → Q x s := fun _ _ z => z.elim
  refine wpAny_bind (wpAny_standAt (wpAny_bind (wpAny_mono (turn n s hI) (fun r s₁ h₁ => ?_) F)))
  cases r with
  | none => exact wpAny_pure h₁
  | some v =>
    refine wpAny_bind (wpAny_mono h₁ (fun _ s₁' h₁ => ?_) F)
    refine wpAny_bind (wpAny_mono h₁ (fun _ s₂ h₂ => wpAny_bind (wpAny_mono h₂ (fun ok s₃ h₃ => ?_) F)) F)
    cases ok with
    | false => exact wpAny_pure ⟨rfl, h₃⟩
    | true => exact wpAny_bind (wpAny_bind (wpAny_mono h₃ (fun x s₄ h₄ => wpAny_bind (wpAny_mono h₄ (fun _ s₅ h₅ => wpAny_pure (wpAny_pure ⟨rfl, h₅⟩)) F)) F))
end
/-- the context of a comprehension's block -/
structure CA where
  cl : List (Str × Addr)
  C : Addr
  s₀ : Shared
  H₀ : Hp
  ex : List Addr
  pn : List (Addr × Obj)
def cxC (X : Cx) (scope : Scope) (N' : List Str) (k : CA) : Cx :=
  { X with N := N', s₀ := k.s₀, H₀ := k.H₀, env := compEnvC scope k.cl k.C X.env, outer := X.stack, stack := X.stack, ex := k.ex, fn := fun _ => false, pn := k.pn, xe := fun _ _ => False }
/-- what must be seen of the block's scope: caps the places of the names from around, in the order in which they follow the block's own -/
structure CScope (X : Cx) (scope : Scope) (own : List Str) (caps : List Nat) (cns : List Str) : Prop where
  cell : ∀ y ∈ scope.names, y.2 ≠ .cell
  kind : scope.kind = .function
  names : ∀ y ∈ scope.names, y.2 = .local → scope.names.lookup y.1 = some .local
  free : ∀ y ∈ scope.names, y.2 = .free → X.env.kindOf y.1 = some .cell
  nd : (own ++ cns).Nodup
  cap : cns = caps.filterMap fun j => X.N[j]?
  len : cns.length = caps.length
  vis : ∀ y ∈ cns, scope.names.lookup y = some .free
theorem relabel_lookup {scope : Scope} {env : Env} {x : Str} {k : NameKind} (h : (relabel scope env).names.lookup x = some k) : scope.names.lookup x = some k ∨ (scope.names.lookup x = some .free ∧ k = .cell) := by
  have all : ∀ {names : List (Str × NameKind)}, (names.map fun (n, k) => if (k == NameKind.free && env.scope.kind == .function && env.kindOf n == some .cell) then (n, NameKind.cell) else (n, k)).lookup x = some k →
      names.lookup x = some k ∨ (names.lookup x = some .free ∧ k = .cell) := by
    intro names
    induction names with
    | nil => intro h; simp at h
    | cons p r ih =>
      obtain ⟨n, k'⟩ := p
      intro h
      rw [List.map_cons] at h
      dsimp only at h
      by_cases hx : (x == n) = true
      · by_cases hc : (k' == NameKind.free && env.scope.kind == .function && env.kindOf n == some .cell) = true
        · rw [if_pos hc] at h
          simp only [List.lookup_cons, hx] at h ⊢
          right
          simp only [Bool.and_eq_true, beq_iff_eq] at hc
          exact ⟨by rw [hc.1.1], (Option.some.inj h).symm⟩
        · rw [if_neg hc] at h
          simp only [List.lookup_cons, hx] at h ⊢
          exact .inl h
      · have hx' : (x == n) = false := by simpa using hx
        by_cases hc : (k' == NameKind.free && env.scope.kind == .function && env.kindOf n == some .cell) = true
        · rw [if_pos hc] at h
          simp only [List.lookup_cons, hx'] at h ⊢
          exact ih h
        · rw [if_neg hc] at h
          simp only [List.lookup_cons, hx'] at h ⊢
          exact ih h
  exact all h
/-- the cells that the block takes along -/
theorem closure_of {env : Env} : ∀ (names : List (Str × NameKind)) (cs : List (Str × Addr)), (∀ y ∈ names, y.2 = .free → ∃ c, env.cells.lookup y.1 = some c) → (∀ x c, cs.lookup x = some c → env.cells.lookup x = some c) →
    ∃ cl, (forIn names cs fun (x : Str × NameKind) (r : List (Str × Addr)) => if (x.2 == NameKind.free) = true then do let c ← cellOf env x.1; pure (ForInStep.yield ((x.1, c) :: r)) else pure (ForInStep.yield r) : Sem _) = pure cl ∧
      (∀ x c, cl.lookup x = some c → env.cells.lookup x = some c) ∧ (∀ x, (cs.lookup x).isSome = true → (cl.lookup x).isSome = true) ∧ ∀ y ∈ names, y.2 = .free → (cl.lookup y.1).isSome = true
  | [], cs, _, h => ⟨cs, by rw [List.forIn_nil], h, fun _ z => z, fun _ z => (nomatch z)⟩
  | (n, k) :: r, cs, hf, h => by
    by_cases hk : k = .free
    · subst hk
      obtain ⟨c, hc⟩ := hf (n, .free) List.mem_cons_self rfl
      have h' : ∀ x c', ((n, c) :: cs).lookup x = some c' → env.cells.lookup x = some c' := fun x c' e => by
        by_cases hx : (x == n) = true
        · simp only [List.lookup_cons, hx] at e
          cases e
          rw [beq_iff_eq] at hx
          rw [hx]; exact hc
        · have hx' : (x == n) = false := by simpa using hx
          simp only [List.lookup_cons, hx'] at e
          exact h x c' e
      obtain ⟨cl, e, h1, h2, h3⟩ := closure_of r ((n, c) :: cs) (fun y hy => hf y (List.mem_cons_of_mem _ hy)) h'
      refine ⟨cl, ?_, h1, fun x hx => h2 x ?_, fun y hy hyf => ?_⟩
      · rw [List.forIn_cons]
        dsimp only
        rw [if_pos (by rfl)]
        have ec : cellOf env n = pure c := by
          unfold cellOf
          rw [hc]
        rw [ec]
        simp only [pure_bind]
        exact e
      · by_cases hxn : (x == n) = true
        · simp [List.lookup_cons, hxn]
        · have hx' : (x == n) = false := by simpa using hxn
          simp only [List.lookup_cons, hx']; exact hx
      · rcases List.mem_cons.mp hy with rfl | hy
        · exact h2 n (by simp)
        · exact h3 y hy hyf
    · obtain ⟨cl, e, h1, h2, h3⟩ := closure_of r cs (fun y hy => hf y (List.mem_cons_of_mem _ hy)) h
      refine ⟨cl, ?_, h1, h2, fun y hy hyf => ?_⟩
      · rw [List.forIn_cons]
        dsimp only
        rw [if_neg (by simpa using hk)]
        simp only [pure_bind]
        exact e
      · rcases List.mem_cons.mp hy with rfl | hy
        · exact absurd hyf hk
        · exact h3 y hy hyf
/-- the block's own state -/
def cst (own : List Str) (caps : List Nat) (σ : St) : St := own.map (fun _ => none) ++ caps.map fun j => (σ[j]?).join
section
variable {X : Cx} {pins : List (Addr × Obj)} {σ : St} {H : Hp} {s : Shared} {scope : Scope} {own : List Str} {caps : List Nat} {cns : List Str} {cl : List (Str × Addr)}
theorem cap_get {N : List Str} : ∀ {caps : List Nat} {cns : List Str}, cns = caps.filterMap (fun j => N[j]?) → cns.length = caps.length → ∀ (i : Nat) (j : Nat), caps[i]? = some j → ∃ x, N[j]? = some x ∧ cns[i]? = some x
  | [], _, _, _, i, j, h => by simp at h
  | j0 :: r, cns, e, hl, i, j, h => by
    rw [List.filterMap_cons] at e
    cases hN : N[j0]? with
    | none =>
      simp only [hN] at e
      have h1 := List.length_filterMap_le (fun j => N[j]?) r
      rw [e] at hl
      simp only [List.length_cons] at hl
      omega
    | some x =>
      simp only [hN] at e
      subst e
      cases i with
      | zero =>
        simp only [List.getElem?_cons_zero, Option.some.injEq] at h
        subst h
        exact ⟨x, hN, rfl⟩
      | succ i =>
        simp only [List.getElem?_cons_succ] at h ⊢
        exact cap_get rfl (by simpa using hl) i j h
theorem inv_comp {C : Addr} {fp : List Addr} {h1 h4 : Heap} {tk : Nat} (S : CScope X scope own caps cns) (I : Inv X pins σ H { s with heap := h1 }) (hfp : ∀ b ∈ fp, FpOk X pins H b ∧ b < h1.objs.size)
    (hcl : ∀ x c, cl.lookup x = some c → X.env.cells.lookup x = some c) (hall : ∀ y ∈ scope.names, y.2 = .free → (cl.lookup y.1).isSome = true)
    (hC : C = h1.objs.size) (hn : h4.Ns C fun _ => none) (hk : ∀ b o, h1.get? b = some o → h4.get? b = some o) :
    Inv (cxC X scope (own ++ cns) ⟨cl, C, { s with heap := h1 }, H, fp, X.pn ++ pins⟩) [] (cst own caps σ) H { s with heap := h4, toks := tk } := by
  have hok := I.ok
  have nC : ∀ b o, h1.get? b = some o → b ≠ C := fun b o e => by rw [hC]; exact Nat.ne_of_lt (Heap.lt_size e)
  refine ⟨⟨hok.mod, ?_, hok.glob, hok.blt, by rw [hC]; exact Nat.le_refl _, fun x y c e1 e2 => hok.inj x y c (hcl x c e1) (hcl y c e2), fun x hx => ?_, fun x c z => (nomatch z), hok.hd, hok.frames, .inl rfl, fun b hb => ⟨?_, fun x c e => ?_⟩, fun b o e => I.bs b o e, Nat.le_trans hok.bsz I.sz, fun b o e hb => ?_, fun b hb hf => ?_, I.stack, I.stkFree⟩,
    rfl, I.bare, Un.kept hk, ⟨_, hn, fun i x v e1 e2 e3 => ?_⟩, fun x c e => ?_, ?_, fun x c e => I.freeC x c (hcl x c e), fun p hp => ?_, I.hok.kept hk, ?_⟩
  · show (relabel scope X.env).kind = _
    exact S.kind
  · -- every captured name has its cell
    have hx' : (relabel scope X.env).names.lookup x = some .cell ∨ (relabel scope X.env).names.lookup x = some .free := hx
    have fr : scope.names.lookup x = some .free := by
      rcases hx' with z | z
      · rcases relabel_lookup z with q | ⟨q, _⟩
        · exact absurd rfl (S.cell _ (PySem.mem_of_lookup q))
        · exact q
      · rcases relabel_lookup z with q | ⟨_, q⟩
        · exact q
        · cases q
    have := hall _ (PySem.mem_of_lookup fr) rfl
    exact Option.isSome_iff_exists.mp this
  · exact by rw [show (cxC X scope (own ++ cns) ⟨cl, C, { s with heap := h1 }, H, fp, X.pn ++ pins⟩).env.locals = C from rfl, hC]; exact Nat.ne_of_lt (hfp b hb).2
  · exact (hfp b hb).1.2.2.2.2.1 x c (hcl x c e)
  · have q := (hfp b hb).1.2.2.2.1
    rcases q with q | q
    · exact hok.noex b o e q
    · exact absurd (Nat.lt_of_lt_of_le (Heap.lt_size e) (Nat.le_trans hok.bsz q)) (Nat.lt_irrefl _)
  · rcases List.mem_cons.mp (I.stkSub b hf) with q | q
    · exact (hfp b hb).1.2.1 q
    · exact (hfp b hb).1.2.2.1 q
  · -- the names
    unfold cst at e2
    have e1' : (own ++ cns)[i]? = some x := e1
    by_cases hi : i < own.length
    · rw [List.getElem?_append_left (by simpa using hi), List.getElem?_map] at e2
      cases h : own[i]? with
      | none => rw [h] at e2; cases e2
      | some z => rw [h] at e2; cases e2
    · rw [List.getElem?_append_right (by simpa using hi), List.length_map, List.getElem?_map] at e2
      rw [List.getElem?_append_right (by simpa using hi)] at e1'
      cases hj : caps[i - own.length]? with
      | none => rw [hj] at e2; cases e2
      | some j =>
        rw [hj] at e2
        simp only [Option.map_some, Option.some.injEq] at e2
        obtain ⟨x', n1, n2⟩ := cap_get S.cap S.len _ _ hj
        have ex : x' = x := Option.some.inj (n2.symm.trans e1')
        subst ex
        have hσ : σ[j]? = some (some v) := by
          cases q : σ[j]? with
          | none => rw [q] at e2; cases e2
          | some z => rw [q] at e2; cases z with
            | none => cases e2
            | some z => simpa using e2
        have fr := S.vis x' (List.mem_of_getElem? n2)
        have kc := S.free _ (PySem.mem_of_lookup fr) rfl
        obtain ⟨m, hm, hl⟩ := I.loc
        obtain ⟨u, r, l⟩ := hl j x' v n1 hσ (.inr (.inl kc))
        refine ⟨u, r, ?_⟩
        rcases l with ⟨q, _⟩ | ⟨_, c, q1, q2⟩
        · rw [kc] at q; cases q
        · obtain ⟨c', hc'⟩ := Option.isSome_iff_exists.mp (hall _ (PySem.mem_of_lookup fr) rfl)
          have ec : c' = c := Option.some.inj ((hcl _ _ hc').symm.trans q1)
          subst ec
          refine .inr ⟨?_, c', hc', ?_⟩
          · have : Vis (relabel scope X.env) x' := e3
            rcases this with z | z | z
            · rcases relabel_lookup z with q | ⟨_, q⟩
              · rw [fr] at q; cases q
              · cases q
            · exact .inl z
            · exact .inr z
          · obtain ⟨o, ho, hd⟩ := q2
            exact ⟨o, hk _ o ho, hd⟩
  · obtain ⟨v, o, ho, hd⟩ := I.cell x c (hcl x c e)
    exact ⟨v, o, hk _ o ho, hd⟩
  · show H C = none
    rw [hC]
    exact I.hok.fresh (Nat.le_refl _)
  · have hp' : p ∈ X.pn ++ pins := by simpa [cxC] using hp
    obtain ⟨e, n, ne, nf, d⟩ := I.pin p hp'
    refine ⟨hk _ _ e, n, nC _ _ e, fun z => ?_, d⟩
    rcases List.mem_cons.mp (I.stkSub _ z) with q | q
    · exact ne q
    · exact nf q
  · unfold cst
    show _ = (own ++ cns).length
    rw [List.length_append, List.length_map, List.length_map, List.length_append, S.len]
/-- back from the block -/
theorem inv_back {C : Addr} {fp : List Addr} {h1 h' : Heap} {s' : Shared} {H' : Hp} {τ : St} {N' : List Str} (I : Inv X pins σ H { s with heap := h1 }) (hfp : ∀ b ∈ fp, FpOk X pins H b ∧ b < h1.objs.size)
    (J : Inv (cxC X scope N' ⟨cl, C, { s with heap := h1 }, H, fp, X.pn ++ pins⟩) [] τ H' s') (hC : C = h1.objs.size) (hs : Heap.SameBut C s'.heap h') : Inv X pins σ H' { s' with heap := h' } := by
  have hc : H' C = none := J.free
  have keep : ∀ b o, b ≠ C → s'.heap.get? b = some o → h'.get? b = some o := fun b o hb e => (hs.2 b hb).trans e
  have hok : HOk X.prog X.w H' h' := fun b u e => by
    refine (J.hok b u e).stay (fun c v hcc q => keep c v ?_ q) (fun _ q => q) fun _ _ q => q
    rcases hcc with rfl | hcc
    · intro z; rw [z, hc] at e; cases e
    · intro z; rw [z, hc] at hcc; cases hcc
  have lt1 : ∀ b o, h1.get? b = some o → b ≠ C := fun b o e => by rw [hC]; exact Nat.ne_of_lt (Heap.lt_size e)
  have un : Un (frs X.stack) fp H H' h1 h' := by
    have u : Un (frs X.stack) fp H H' h1 s'.heap := J.base
    exact ⟨fun b o e n hf hx => keep b o (lt1 b o e) (u.keep b o e n hf hx), fun b o e n hf hx => let ⟨sl, q⟩ := u.slot b o e n hf hx; ⟨sl, keep b _ (lt1 b o e) q⟩, u.free,
      fun b o e hx => let ⟨o', q⟩ := u.there b o e hx; ⟨o', keep b _ (lt1 b o e) q⟩, u.tups, u.frzs, u.tbls⟩
  refine I.call' (s' := { s' with heap := h' }) (ch := fp) ((show s'.os = _ from J.os).trans ?_) un hok J.bare fun b hb => ?_
  · rfl
  · obtain ⟨⟨_, f1, f2, f3, f4, f5⟩, _⟩ := hfp b hb
    exact ⟨f3, f1, f4, f5⟩
end
/-- the reading of a comprehension: W by the turn, a measure, the list so far; D the new list's place -/
def tComp (wi : TI) (g : CA → TG) (tc : CA → TT) (te : CA → TE) (own : List Str) (caps : List Nat) : TE := fun σ H Q => wi σ H fun J H1 => ∀ D, H1 D = none → ∀ k : CA, ∃ W : Nat → Nat → List V → St → Hp → Prop,
  (∃ m, W 0 m [] (cst own caps σ) (upd H1 D (.lst []))) ∧ ∀ i m ys τ H, W i m ys τ H → H D = some (.lst ys) ∧ ys.length < sizeLine ∧
    ((J.stop i H ∧ Q (.ref D) H) ∨ (J.go i H ∧ ∃ N : List V → St → Hp → Prop, (∀ ys τ H, N ys τ H → ∃ m', m' < m ∧ W (i + 1) m' ys τ H) ∧
      ∀ x H', J.yld i H x H' → g k x τ H' fun τ2 H2 => tc k τ2 H2 fun b H3 => if b = true then te k τ2 H3 fun y H4 => H4 D = some (.lst ys) ∧ N (ys ++ [y]) τ2 (upd H4 D (.lst (ys ++ [y]))) else N ys τ2 H3))
/-- the tests of a comprehension: none, or one -/
def PCs (X : Cx) (ifs : List Expr) (tc : TT) : Prop := ∀ (pins : List (Addr × Obj)) (s : Shared) (σ : St) (H : Hp) (Q : Bool → Hp → Prop), Inv X pins σ H s → tc σ H Q →
  wpAny (model X.prog X.w) X.A (forIn ifs true fun c r => if r = true then do let ok ← isTrue c X.env (eval c X.env); pure (ForInStep.yield ok) else pure (ForInStep.yield r)) (TP X pins σ Q) X.xe s
theorem pcs_nil {X : Cx} : PCs X [] (fun _ H Q => Q true H) := fun pins s σ H Q I h => by
  rw [List.forIn_nil]
  exact wpAny_pure ⟨H, I, h⟩
theorem pcs_one {X : Cx} {c : Expr} {tc : TT} (hc : PT X c tc) : PCs X [c] tc := fun pins s σ H Q I h => by
  rw [List.forIn_cons]
  simp only [if_true]
  refine wpAny_bind (wpAny_bind (thn (hc pins s σ H Q I h) fun b s' q => wpAny_pure ?_))
  dsimp only
  rw [List.forIn_nil]
  exact wpAny_pure q
section
variable {X : Cx} {scope : Scope} {own : List Str} {caps : List Nat} {cns : List Str} {elt tg iter : Expr} {ifs : List Expr} {pos : Pos} {wi : TI} {g : CA → TG} {tc : CA → TT} {te : CA → TE}
theorem pe_comp_use (use : Option (Value → Sem Unit)) (S : CScope X scope own caps cns) (hcalm : X.calm = true) (hi : PI X tg iter wi)
    (hg : ∀ k : CA, PG (cxC X scope (own ++ cns) k) tg (g k)) (hc : ∀ k : CA, PCs (cxC X scope (own ++ cns) k) ifs (tc k)) (he : ∀ k : CA, PE (cxC X scope (own ++ cns) k) elt (te k))
    (hs : ∀ x, foldedSetIterable iter X.env x = pure x) {P : Value → Shared → Prop} {pins : List (Addr × Obj)} {s : Shared} {σ : St} {H : Hp} {Q : VK} (I : Inv X pins σ H s) (h : tComp wi g tc te own caps σ H Q)
    (hend : ∀ (D : Addr) (C : Addr) (H' : Hp) (s' : Shared), Q (.ref D) H' → Inv X pins σ H' s' → (∃ m, s'.heap.Ns C m) → FpOk X pins H' C → compPost (model X.prog X.w) X.A X.xe use P (.ref D) C (.ok .next) s') :
    wpAny (model X.prog X.w) X.A (comprehension (.ListComp elt [⟨tg, iter, ifs, 0⟩] scope pos) scope X.env (firstIterPos [⟨tg, iter, ifs, 0⟩] pos) (newList []) false (eval iter X.env) use) P X.xe s := by
  obtain ⟨cl, ecl, hcl, _, hall⟩ := closure_of (env := X.env) scope.names [] (fun y hy hf => I.ok.has y.1 (.inl (S.free y hy hf))) (fun x c z => by simp at z)
  refine wpAny_comprehension_free (cl := cl) rfl hs (by unfold closureFor; simpa using ecl) S.kind S.names ?_
  refine thn (hi pins s σ H _ I h) fun v s1 q1 => thn q1 fun itv s2 q2 => ?_
  obtain ⟨it, fp, tn, J, H1, rfl, I2, T, st0, hfp, q⟩ := q2
  have hD : H1 s2.heap.objs.size = none := I2.hok.fresh (Nat.le_refl _)
  refine wpAny_newObj_type ?_
  have I3 : Inv X pins σ (upd H1 s2.heap.objs.size (.lst [])) { s2 with heap := s2.heap.push { cls := .type "list", data := .seq ([] : List Value).toArray } } :=
    I2.laid (t' := s2.toks) (fun _ _ q => Heap.get?_push_of_some _ q) (Nat.le_refl _) ⟨Nat.zero_le _, [], 0, .nil, Heap.get?_push_size _ rfl⟩
  have hfp3 : ∀ b ∈ fp, FpOk X pins (upd H1 s2.heap.objs.size (.lst [])) b ∧ b < (s2.heap.push { cls := .type "list", data := .seq ([] : List Value).toArray }).objs.size := fun b hb => by
    obtain ⟨o, ho, _⟩ := T.obj 0 _ st0 b hb
    have hlt := Heap.lt_size ho
    obtain ⟨f0, f⟩ := hfp b hb
    refine ⟨⟨by rw [upd_ne (Nat.ne_of_lt hlt)]; exact f0, f⟩, ?_⟩
    rw [Heap.size_push]
    exact Nat.lt_succ_of_lt hlt
  refine wpAny_newFunctionEnv S.cell (by intro y hy; simp at hy) (fun h4 hns hsb => ?_) S.kind
  dsimp only at hns hsb ⊢
  generalize hH : s2.heap.push { cls := .type "list", data := .seq ([] : List Value).toArray } = h1 at *
  obtain ⟨W, ⟨m0, w0⟩, step⟩ := q s2.heap.objs.size hD ⟨cl, h1.objs.size, { s2 with heap := h1 }, upd H1 s2.heap.objs.size (.lst []), fp, X.pn ++ pins⟩
  have keep4 : ∀ b o, h1.get? b = some o → h4.get? b = some o := fun b o e => (hsb.2 b (Nat.ne_of_lt (Heap.lt_size e))).trans (Heap.get?_push_of_some _ e)
  have J0 := inv_comp (tk := s2.toks + ([] : List (Str × Value)).length) S I3 hfp3 hcl hall rfl (by simpa using hns) keep4
  have fpx : ∀ (H' : Hp), (∀ b ∈ fp, H' b = none) → ∀ b ∈ fp, FpOk (cxC X scope (own ++ cns) ⟨cl, h1.objs.size, { s2 with heap := h1 }, (upd H1 s2.heap.objs.size (.lst [])), fp, X.pn ++ pins⟩) [] H' b := fun H' hn b hb => by
    obtain ⟨⟨_, f1, f2, f3, f4, f5⟩, hlt⟩ := hfp3 b hb
    refine ⟨hn b hb, Nat.ne_of_lt hlt, fun z => ?_, .inl hb, fun x c e => f4 x c (hcl x c e), fun p hp => f5 p (by simpa [cxC] using hp)⟩
    rcases List.mem_cons.mp (I3.stkSub b z) with q | q
    · exact f1 q
    · exact f2 q
  have st1 : tn 0 h4 := T.keep 0 _ _ st0 fun b hb o e => keep4 b o (by rw [← hH]; exact Heap.get?_push_of_some _ e)
  have loop : codeAny (model X.prog X.w) X.A (.compLoop (.ListComp elt [⟨tg, iter, ifs, 0⟩] scope pos) 0 (.ref it) (.ref s2.heap.objs.size) (compEnvC scope cl h1.objs.size X.env))
      (compPost (model X.prog X.w) X.A X.xe use P (.ref s2.heap.objs.size) h1.objs.size) { s2 with heap := h4, toks := s2.toks + ([] : List (Str × Value)).length } := by
    refine compLoop_gen (fun n s' => ∃ i ys τ H', W i n ys τ H' ∧ Inv (cxC X scope (own ++ cns) ⟨cl, h1.objs.size, { s2 with heap := h1 }, (upd H1 s2.heap.objs.size (.lst [])), fp, X.pn ++ pins⟩) [] τ H' s' ∧ tn i s'.heap ∧ ∀ b ∈ fp, H' b = none) ?_ m0
      ⟨0, [], _, _, w0, J0, st1, fun b hb => (hfp3 b hb).1.1⟩
    rintro n s' ⟨i, ys, τ, H', w1, J1, st, hn⟩
    obtain ⟨hDl, hlen, alt⟩ := step i n ys τ H' w1
    rcases alt with ⟨hstop, hq⟩ | ⟨hgo, N, hN, hbody⟩
    · refine thn (T.done (cxC X scope (own ++ cns) ⟨cl, h1.objs.size, { s2 with heap := h1 }, (upd H1 s2.heap.objs.size (.lst [])), fp, X.pn ++ pins⟩) rfl rfl rfl hcalm i [] s' τ H' _ J1 (fpx H' hn) st hstop) fun r s'' ⟨er, J2⟩ => ?_
      subst er
      obtain ⟨m, hm, _⟩ := J2.loc
      exact hend _ _ H' s'' hq (inv_back (h' := s''.heap) I3 hfp3 J2 rfl (Heap.SameBut.refl ..)) ⟨m, hm⟩ (I3.fpOk (Nat.le_refl _) J2.free)
    · refine thn (T.item (cxC X scope (own ++ cns) ⟨cl, h1.objs.size, { s2 with heap := h1 }, (upd H1 s2.heap.objs.size (.lst [])), fp, X.pn ++ pins⟩) rfl rfl rfl hcalm i [] s' τ H' _ J1 (fpx H' hn) st hgo) fun r s'' ⟨u, er, hw⟩ => ?_
      subst er
      refine thn hw fun _ s3 ⟨x, H2, J2, rx, hy, st2, hn2⟩ => ?_
      -- the iterator's records are kept through the turn
      have pinned := J2.pinned (fpx H2 hn2) (T.obj (i + 1) _ st2)
      have back : ∀ {τ' : St} {H'' : Hp} {s4 : Shared}, Inv (cxC X scope (own ++ cns) ⟨cl, h1.objs.size, { s2 with heap := h1 }, (upd H1 s2.heap.objs.size (.lst [])), fp, X.pn ++ pins⟩) ([] ++ pinsAt fp s3.heap) τ' H'' s4 →
          tn (i + 1) s4.heap ∧ ∀ b ∈ fp, H'' b = none := fun {τ' H'' s4} K => by
        refine ⟨T.keep (i + 1) _ _ st2 fun b hb o e => (K.pin (b, o) (List.mem_append_right _ (by simpa using mem_pinsAt hb e))).1, fun b hb => ?_⟩
        obtain ⟨o, e, _⟩ := T.obj (i + 1) _ st2 b hb
        exact (K.pin (b, o) (List.mem_append_right _ (by simpa using mem_pinsAt hb e))).2.1
      refine thn (hg _ ([] ++ pinsAt fp s3.heap) s3 τ H2 x u _ pinned rx (hbody x H2 hy)) fun _ s4 ⟨τ2, H3, J3, q3⟩ => ?_
      refine thn (hc _ ([] ++ pinsAt fp s3.heap) s4 τ2 H3 _ J3 q3) fun b s5 ⟨H4, J4, q4⟩ => ?_
      cases b with
      | false =>
        simp only [Bool.false_eq_true, if_false] at q4 ⊢
        obtain ⟨m', hm', w2⟩ := hN _ _ _ q4
        obtain ⟨b1, b2⟩ := back J4
        exact ⟨m', hm', i + 1, ys, τ2, H4, w2, J4.unpinned, b1, b2⟩
      | true =>
        simp only [if_true] at q4 ⊢
        refine thn (he _ ([] ++ pinsAt fp s3.heap) s5 τ2 H4 _ J4 q4) fun yv s6 ⟨y, H5, J5, ry, hD5, q5⟩ => ?_
        obtain ⟨m', hm', w2⟩ := hN _ _ _ q5
        obtain ⟨hz, its, c, rv, hlen2, eo⟩ := J5.lstM hD5
        refine PySem.wpAny_call_entry slot_list_append ⟨_, eo, rfl⟩ entry_list_append ?_ (args_list_append _ _)
        show wpAny _ _ (updateSeq s2.heap.objs.size (·.push yv) >>= fun _ => ret .none) _ _ s6
        refine wpAny_bind (wpAny_updateSeq eo rfl (wpAny_pure ⟨.none, rfl, ?_⟩) (by simp; omega) (by simp; omega))
        have J6 := J5.lset (ys := ys ++ [y]) (its' := its ++ [yv]) (f := (·.push yv)) (t' := s6.toks) hD5 eo (by simp) (rv.append (.cons ry .nil)) (by simp; omega)
        obtain ⟨b1, b2⟩ := back J6
        exact ⟨m', hm', i + 1, _, τ2, _, w2, J6.unpinned, b1, b2⟩
  exact codeAny_compStart_list loop (T.self X.A 0 _ _ _ st1 loop)
theorem pe_comp (S : CScope X scope own caps cns) (hcalm : X.calm = true) (hi : PI X tg iter wi)
    (hg : ∀ k : CA, PG (cxC X scope (own ++ cns) k) tg (g k)) (hc : ∀ k : CA, PCs (cxC X scope (own ++ cns) k) ifs (tc k)) (he : ∀ k : CA, PE (cxC X scope (own ++ cns) k) elt (te k))
    (hs : ∀ x, foldedSetIterable iter X.env x = pure x := by intro _; rfl) : PE X (.ListComp elt [⟨tg, iter, ifs, 0⟩] scope pos) (tComp wi g tc te own caps) := by
  intro pins s σ H Q I h
  rw [eval_ListComp]
  refine pe_comp_use none S hcalm hi hg hc he hs I h fun D C H' s' q hI ⟨m, hm⟩ ⟨f0, f1, f2, f3, f4, f5⟩ => ?_
  exact ⟨m, hm, fun h' hs' => ⟨.ref D, H', hI.turned (t' := s'.toks) (fun b o hb e => (hs'.2 b hb).trans e) f0 f1 f3 f4 f5, rfl, q⟩⟩
/-- y = [..] on one row -/
theorem ps_setComp {i : Nat} {y : Str} {py spos : Pos} (S : CScope X scope own caps cns) (hcalm : X.calm = true) (hN : X.N.Nodup) (hNi : X.N[i]? = some y) (hy : X.env.scope.names.lookup y = some .local) (hi : PI X tg iter wi)
    (hg : ∀ k : CA, PG (cxC X scope (own ++ cns) k) tg (g k)) (hc : ∀ k : CA, PCs (cxC X scope (own ++ cns) k) ifs (tc k)) (he : ∀ k : CA, PE (cxC X scope (own ++ cns) k) elt (te k))
    (hsw : swapsWith (.ListComp elt [⟨tg, iter, ifs, 0⟩] scope pos) (some (.Name y py)) spos.line X.env = pure true) (hs : ∀ x, foldedSetIterable iter X.env x = pure x := by intro _; rfl) :
    PS X (.Assign [.Name y py] (.ListComp elt [⟨tg, iter, ifs, 0⟩] scope pos) spos) (fun D σ H => tComp wi g tc te own caps σ H fun x H1 => D.nx (σ.set i (some x)) H1) := by
  intro pins s σ H D I h
  rw [exec_Assign_Name_used _ _ _ _ hsw]
  refine wpAny_bind (wpAny_standAt (wpAny_bind ?_))
  show wpAny _ _ (do let _ ← comprehension (.ListComp elt [⟨tg, iter, ifs, 0⟩] scope pos) scope X.env _ (newList []) false (eval iter X.env) (some (assign (.Name y py) X.env))) _ _ s
  refine wpAny_bind (wpAny_mono (pe_comp_use (P := fun _ s' => SP X pins D .next s') (some (assign (.Name y py) X.env)) S hcalm hi hg hc he hs I h fun Da C H' s' q hI ⟨m, hm⟩ ⟨f0, f1, f2, f3, f4, f5⟩ => ?_) (fun _ s' hq => wpAny_pure (wpAny_pure hq)) fun _ _ e => e)
  show wpAny _ _ (assign (.Name y py) X.env (.ref Da)) _ _ _
  refine wpAny_assign_Name (store_ok2 hI hN hNi (.inl hy) (v := .ref Da) rfl (fun s2 I2 ⟨b, sb, hb⟩ => ?_) (.inr hy))
  have hCb : C ≠ b := by
    rintro rfl
    rcases hb with z | z
    · exact f1 z
    · exact f4 y _ z rfl
  refine ⟨m, hm.sameBut sb hCb, fun h' hs' => ⟨_, H', I2.turned (t' := s2.toks) (fun b o hb e => (hs'.2 b hb).trans e) f0 f1 f3 f4 f5, q⟩⟩
end
/-! over a list -/
theorem comp_list {K : PySem.W.Frag} {a : Addr} {xs : List V} {g : CA → TG} {tc : CA → TT} {te : CA → TE} {own : List Str} {caps : List Nat} {σ : St} {H1 : Hp} {Q : VK} (hz : xs.length < sizeLine) (Pv : Addr → Nat → List V → St → Hp → Prop)
    (h0 : ∀ D, H1 D = none → Pv D 0 [] (cst own caps σ) (upd H1 D (.lst [])))
    (hl : ∀ D i ys τ H, i ≤ xs.length → Pv D i ys τ H → SqL K H a xs ∧ H D = some (.lst ys) ∧ ys.length ≤ i)
    (hs : ∀ k D i x ys τ H, xs[i]? = some x → Pv D i ys τ H → g k x τ H fun τ2 H2 => tc k τ2 H2 fun b H3 => if b = true then te k τ2 H3 fun y H4 => H4 D = some (.lst ys) ∧ Pv D (i + 1) (ys ++ [y]) τ2 (upd H4 D (.lst (ys ++ [y]))) else Pv D (i + 1) ys τ2 H3)
    (hd : ∀ D ys τ H, H1 D = none → Pv D xs.length ys τ H → Q (.ref D) H) :
    ∀ D, H1 D = none → ∀ k : CA, ∃ W : Nat → Nat → List V → St → Hp → Prop, (∃ m, W 0 m [] (cst own caps σ) (upd H1 D (.lst []))) ∧ ∀ i m ys τ H, W i m ys τ H → H D = some (.lst ys) ∧ ys.length < sizeLine ∧
      (((Itl K a).stop i H ∧ Q (.ref D) H) ∨ ((Itl K a).go i H ∧ ∃ N : List V → St → Hp → Prop, (∀ ys τ H, N ys τ H → ∃ m', m' < m ∧ W (i + 1) m' ys τ H) ∧
        ∀ x H', (Itl K a).yld i H x H' → g k x τ H' fun τ2 H2 => tc k τ2 H2 fun b H3 => if b = true then te k τ2 H3 fun y H4 => H4 D = some (.lst ys) ∧ N (ys ++ [y]) τ2 (upd H4 D (.lst (ys ++ [y]))) else N ys τ2 H3)) := by
  intro D hD k
  refine ⟨fun i m ys τ H => m = xs.length - i ∧ i ≤ xs.length ∧ Pv D i ys τ H, ⟨xs.length, by simp, Nat.zero_le _, h0 D hD⟩, ?_⟩
  rintro i m ys τ H ⟨rfl, hi, p⟩
  obtain ⟨q, e, z⟩ := hl D i ys τ H hi p
  refine ⟨e, by omega, ?_⟩
  by_cases hlt : i < xs.length
  · refine .inr ⟨⟨xs, xs[i], q, by simp [hlt]⟩, Pv D (i + 1), fun ys' τ' H' p' => ⟨xs.length - (i + 1), by omega, rfl, hlt, p'⟩, fun x H' y => ?_⟩
    obtain ⟨rfl, y⟩ := y
    exact hs k D i x ys τ _ (y xs q) p
  · have e : i = xs.length := by omega
    subst e
    exact .inl ⟨⟨xs, q, Nat.le_refl _⟩, hd D ys τ H hD p⟩
theorem comp_name {K : PySem.W.Frag} {j : Nat} {a : Addr} {xs : List V} {g : CA → TG} {tc : CA → TT} {te : CA → TE} {own : List Str} {caps : List Nat} {σ : St} {H1 : Hp} {Q : VK} (hσ : σ[j]? = some (some (.ref a))) (hq : SqL K H1 a xs) (hz : xs.length < sizeLine) (Pv : Addr → Nat → List V → St → Hp → Prop)
    (h0 : ∀ D, H1 D = none → Pv D 0 [] (cst own caps σ) (upd H1 D (.lst [])))
    (hl : ∀ D i ys τ H, i ≤ xs.length → Pv D i ys τ H → SqL K H a xs ∧ H D = some (.lst ys) ∧ ys.length ≤ i)
    (hs : ∀ k D i x ys τ H, xs[i]? = some x → Pv D i ys τ H → g k x τ H fun τ2 H2 => tc k τ2 H2 fun b H3 => if b = true then te k τ2 H3 fun y H4 => H4 D = some (.lst ys) ∧ Pv D (i + 1) (ys ++ [y]) τ2 (upd H4 D (.lst (ys ++ [y]))) else Pv D (i + 1) ys τ2 H3)
    (hd : ∀ D ys τ H, H1 D = none → Pv D xs.length ys τ H → Q (.ref D) H) : tComp (iList K (tVar j)) g tc te own caps σ H1 Q :=
  ⟨_, hσ, a, rfl, ⟨xs, hq⟩, comp_list hz Pv h0 hl hs hd⟩
end L2

set_option Elab.async false
set_option linter.all false
set_option maxRecDepth 100000
set_option maxHeartbeats 1000000
/-! ### cells of the honeycomb: ways, parts -/
namespace Hex
abbrev C := Int × Int
def nb (c : C) : List C := [(c.1 + 1, c.2 - 1), (c.1 + 1, c.2), (c.1, c.2 + 1), (c.1 - 1, c.2 + 1), (c.1 - 1, c.2), (c.1, c.2 - 1)]
theorem mem_nb {c d : C} : d ∈ nb c ↔ (d.1 = c.1 + 1 ∧ d.2 = c.2 - 1) ∨ (d.1 = c.1 + 1 ∧ d.2 = c.2) ∨ (d.1 = c.1 ∧ d.2 = c.2 + 1) ∨ (d.1 = c.1 - 1 ∧ d.2 = c.2 + 1) ∨ (d.1 = c.1 - 1 ∧ d.2 = c.2) ∨ (d.1 = c.1 ∧ d.2 = c.2 - 1) := by
  obtain ⟨a, b⟩ := c
  obtain ⟨x, y⟩ := d
  simp only [nb, List.mem_cons, List.not_mem_nil, or_false, Prod.mk.injEq]
theorem nb_symm {c d : C} (h : d ∈ nb c) : c ∈ nb d := by
  rw [mem_nb] at h ⊢
  omega
inductive Reach (S : C → Prop) : C → C → Prop
  | refl {a : C} : S a → Reach S a a
  | step {a b c : C} : Reach S a b → c ∈ nb b → S c → Reach S a c
namespace Reach
variable {S T : C → Prop} {a b c : C}
theorem left (h : Reach S a b) : S a := by
  induction h with
  | refl h => exact h
  | step _ _ _ ih => exact ih
theorem right (h : Reach S a b) : S b := by
  cases h with
  | refl h => exact h
  | step _ _ h => exact h
theorem trans (h : Reach S a b) (k : Reach S b c) : Reach S a c := by
  induction k with
  | refl _ => exact h
  | step _ hn hs ih => exact .step ih hn hs
theorem one (ha : S a) (h : b ∈ nb a) (hb : S b) : Reach S a b := .step (.refl ha) h hb
theorem symm (h : Reach S a b) : Reach S b a := by
  induction h with
  | refl h => exact .refl h
  | step k hn hs ih => exact (one hs (nb_symm hn) k.right).trans ih
theorem mono (h : Reach S a b) (k : ∀ x, S x → T x) : Reach T a b := by
  induction h with
  | refl h => exact .refl (k _ h)
  | step _ hn hs ih => exact .step ih hn (k _ hs)
/-- what is closed under neighbours holds of all that is reached -/
theorem closed {P : C → Prop} (h : Reach S a b) (ha : P a) (k : ∀ x y, P x → y ∈ nb x → S y → P y) : P b := by
  induction h with
  | refl _ => exact ha
  | step _ hn hs ih => exact k _ _ ih hn hs
/-- within what is closed a way stays -/
theorem within {P : C → Prop} (h : Reach S a b) (ha : P a) (k : ∀ x y, P x → y ∈ nb x → S y → P y) : Reach P a b := by
  induction h with
  | refl _ => exact .refl ha
  | step g hn hs ih => exact .step ih hn (k _ _ (ih.right) hn hs)
end Reach
/-! ### the order of cells -/
def Lt (c d : C) : Prop := c.1 < d.1 ∨ (c.1 = d.1 ∧ c.2 < d.2)
instance (c d : C) : Decidable (Lt c d) := by unfold Lt; infer_instance
theorem Lt.irrefl (c : C) : ¬ Lt c c := by unfold Lt; omega
theorem Lt.trans {a b c : C} (h : Lt a b) (k : Lt b c) : Lt a c := by unfold Lt at *; omega
theorem Lt.asymm {a b : C} (h : Lt a b) : ¬ Lt b a := by unfold Lt at *; omega
theorem Lt.total (a b : C) : Lt a b ∨ a = b ∨ Lt b a := by
  obtain ⟨x, y⟩ := a
  obtain ⟨u, v⟩ := b
  unfold Lt
  simp only [Prod.mk.injEq]
  omega
/-- sorted, each once -/
abbrev Asc (l : List C) : Prop := l.Pairwise Lt
theorem Asc.nodup {l : List C} (h : Asc l) : l.Nodup := List.Pairwise.imp (fun {a b} k e => by subst e; exact Lt.irrefl a k) h
theorem Asc.ext : ∀ {l m : List C}, Asc l → Asc m → (∀ x, x ∈ l ↔ x ∈ m) → l = m
  | [], [], _, _, _ => rfl
  | [], y :: m, _, _, h => absurd ((h y).mpr List.mem_cons_self) List.not_mem_nil
  | x :: l, [], _, _, h => absurd ((h x).mp List.mem_cons_self) List.not_mem_nil
  | x :: l, y :: m, hl, hm, h => by
    have hl' := List.pairwise_cons.mp hl
    have hm' := List.pairwise_cons.mp hm
    have e : x = y := by
      rcases List.mem_cons.mp ((h x).mp List.mem_cons_self) with e | e
      · exact e
      · rcases List.mem_cons.mp ((h y).mpr List.mem_cons_self) with e' | e'
        · exact e'.symm
        · exact absurd (hm'.1 x e) (Lt.asymm (hl'.1 y e'))
    subst e
    rw [Asc.ext hl'.2 hm'.2 fun z => ?_]
    constructor
    · intro hz
      rcases List.mem_cons.mp ((h z).mp (List.mem_cons_of_mem _ hz)) with e | e
      · exact absurd (hl'.1 z hz) (by rw [e]; exact Lt.irrefl _)
      · exact e
    · intro hz
      rcases List.mem_cons.mp ((h z).mpr (List.mem_cons_of_mem _ hz)) with e | e
      · exact absurd (hm'.1 z hz) (by rw [e]; exact Lt.irrefl _)
      · exact e
theorem Asc.filter {l : List C} (h : Asc l) (p : C → Bool) : Asc (l.filter p) := List.Pairwise.filter p h
/-! ### parts -/
noncomputable def dec (p : Prop) : Bool := @decide p (Classical.propDecidable p)
theorem dec_iff {p : Prop} : dec p = true ↔ p := by unfold dec; exact ⟨fun h => @of_decide_eq_true p (Classical.propDecidable p) h, fun h => @decide_eq_true p (Classical.propDecidable p) h⟩
theorem dec_not {p : Prop} (h : ¬ p) : dec p = false := by
  cases e : dec p with
  | false => rfl
  | true => exact absurd (dec_iff.mp e) h
/-- the cells of T that are reached from c, within T -/
noncomputable def comp (T : List C) (c : C) : List C := T.filter fun d => dec (Reach (· ∈ T) c d)
/-- the cells ahead of which none of their part stands -/
noncomputable def firsts (T : List C) : List C := T.filter fun c => dec (∀ d, Reach (· ∈ T) d c → ¬ Lt d c)
noncomputable def partsL (T : List C) : List (List C) := (firsts T).map (comp T)
theorem mem_comp {T : List C} {c d : C} : d ∈ comp T c ↔ Reach (· ∈ T) c d := by
  unfold comp
  rw [List.mem_filter]
  exact ⟨fun h => dec_iff.mp h.2, fun h => ⟨h.right, dec_iff.mpr h⟩⟩
theorem asc_comp {T : List C} (h : Asc T) (c : C) : Asc (comp T c) := h.filter _
theorem mem_firsts {T : List C} {c : C} : c ∈ firsts T ↔ c ∈ T ∧ ∀ d, Reach (· ∈ T) d c → ¬ Lt d c := by
  unfold firsts
  rw [List.mem_filter]
  exact ⟨fun h => ⟨h.1, dec_iff.mp h.2⟩, fun h => ⟨h.1, dec_iff.mpr h.2⟩⟩
theorem self_comp {T : List C} {c : C} (h : c ∈ T) : c ∈ comp T c := mem_comp.mpr (.refl h)
theorem comp_eq {T : List C} (hT : Asc T) {c d : C} (h : Reach (· ∈ T) c d) : comp T c = comp T d :=
  Asc.ext (asc_comp hT c) (asc_comp hT d) fun x => by
    rw [mem_comp, mem_comp]
    exact ⟨fun k => h.symm.trans k, fun k => h.trans k⟩
/-- an ascending list's first -/
theorem Asc.head_le {l : List C} {x y : C} (h : Asc (x :: l)) (hy : y ∈ x :: l) : ¬ Lt y x := by
  rcases List.mem_cons.mp hy with e | e
  · rw [e]; exact Lt.irrefl x
  · exact Lt.asymm ((List.pairwise_cons.mp h).1 y e)
/-- the least of a part -/
theorem exists_first {T : List C} (hT : Asc T) {c : C} (h : c ∈ T) : ∃ f, f ∈ firsts T ∧ Reach (· ∈ T) f c := by
  have hc := self_comp h
  cases e : comp T c with
  | nil => rw [e] at hc; exact absurd hc List.not_mem_nil
  | cons f r =>
    have hf : f ∈ comp T c := by rw [e]; exact List.mem_cons_self
    have ha := asc_comp hT c
    rw [e] at ha
    refine ⟨f, mem_firsts.mpr ⟨(mem_comp.mp hf).right, fun d hd => ?_⟩, (mem_comp.mp hf).symm⟩
    refine ha.head_le ?_
    rw [← e]
    exact mem_comp.mpr ((mem_comp.mp hf).trans hd.symm)
theorem firsts_one {T : List C} {f g : C} (hf : f ∈ firsts T) (hg : g ∈ firsts T) (h : Reach (· ∈ T) f g) : f = g := by
  rcases Lt.total f g with k | k | k
  · exact absurd k ((mem_firsts.mp hg).2 f h)
  · exact k
  · exact absurd k ((mem_firsts.mp hf).2 g h.symm)
/-- a part begins with its first -/
theorem comp_head {T : List C} (hT : Asc T) {f : C} (hf : f ∈ firsts T) : ∃ r, comp T f = f :: r := by
  have h1 := mem_firsts.mp hf
  cases e : comp T f with
  | nil => have := self_comp h1.1; rw [e] at this; exact absurd this List.not_mem_nil
  | cons x r =>
    have hx : x ∈ comp T f := by rw [e]; exact List.mem_cons_self
    have ha := asc_comp hT f
    rw [e] at ha
    have h2 : ¬ Lt f x := ha.head_le (by rw [← e]; exact self_comp h1.1)
    have h3 : ¬ Lt x f := h1.2 x (mem_comp.mp hx).symm
    have e2 : x = f := by
      rcases Lt.total x f with k | k | k
      · exact absurd k h3
      · exact k
      · exact absurd k h2
    exact ⟨r, by rw [e2]⟩
/-- within its own cells a part hangs together -/
theorem comp_hangs {T : List C} {f c : C} (h : Reach (· ∈ T) f c) : Reach (· ∈ comp T f) f c :=
  h.within (mem_comp.mpr (.refl h.left)) fun x y hx hn hy => mem_comp.mpr ((mem_comp.mp hx).step hn hy)
/-! ### all parts -/
theorem asc_firsts {T : List C} (hT : Asc T) : Asc (firsts T) := hT.filter _
theorem parts_mem {T : List C} (hT : Asc T) (c : C) : c ∈ (partsL T).flatten ↔ c ∈ T := by
  rw [List.mem_flatten]
  constructor
  · rintro ⟨p, hp, hc⟩
    obtain ⟨f, _, rfl⟩ := List.mem_map.mp hp
    exact (mem_comp.mp hc).right
  · intro h
    obtain ⟨f, hf, r⟩ := exists_first hT h
    exact ⟨comp T f, List.mem_map.mpr ⟨f, hf, rfl⟩, mem_comp.mpr r⟩
theorem parts_nodup {T : List C} (hT : Asc T) : (partsL T).flatten.Nodup := by
  unfold List.Nodup
  rw [List.pairwise_flatten]
  constructor
  · intro p hp
    obtain ⟨f, _, rfl⟩ := List.mem_map.mp hp
    exact (asc_comp hT f).nodup
  · unfold partsL
    rw [List.pairwise_map]
    refine List.Pairwise.imp_of_mem ?_ (asc_firsts hT)
    intro f g hf hg hlt x hx y hy e
    subst e
    have := firsts_one hf hg ((mem_comp.mp hx).trans (mem_comp.mp hy).symm)
    rw [this] at hlt
    exact Lt.irrefl _ hlt
theorem parts_get {T : List C} (hT : Asc T) {i : Nat} {p : List C} (h : (partsL T)[i]? = some p) : ∃ f r, (firsts T)[i]? = some f ∧ p = comp T f ∧ p = f :: r ∧ Asc p ∧ ∀ x ∈ p, Reach (· ∈ p) f x := by
  unfold partsL at h
  rw [List.getElem?_map] at h
  obtain ⟨f, hf, e⟩ := Option.map_eq_some_iff.mp h
  obtain ⟨r, er⟩ := comp_head hT (List.mem_of_getElem? hf)
  refine ⟨f, r, hf, e.symm, by rw [← e, er], by rw [← e]; exact asc_comp hT f, fun x hx => ?_⟩
  rw [← e] at hx ⊢
  exact comp_hangs (mem_comp.mp hx)
theorem parts_len (T : List C) : (partsL T).length = (firsts T).length := by unfold partsL; simp
/-- the number of the part of a cell -/
def ixP (ps : List (List C)) (c : C) : Nat := ps.findIdx fun p => decide (c ∈ p)
theorem ixP_of {ps : List (List C)} (hn : ps.flatten.Nodup) {i : Nat} {p : List C} {c : C} (h : ps[i]? = some p) (hc : c ∈ p) : ixP ps c = i := by
  obtain ⟨hi, e⟩ := List.getElem?_eq_some_iff.mp h
  unfold ixP
  rw [List.findIdx_eq hi]
  refine ⟨by rw [e]; exact decide_eq_true hc, fun j hj => decide_eq_false fun z => ?_⟩
  unfold List.Nodup at hn
  rw [List.pairwise_flatten] at hn
  have := List.pairwise_iff_getElem.mp hn.2 j i (by omega) hi hj c z c (by rw [e]; exact hc)
  exact this rfl
theorem parts_side {T : List C} (hT : Asc T) {c d : C} (hc : c ∈ T) (hd : d ∈ T) (h : d ∈ nb c) : ixP (partsL T) c = ixP (partsL T) d := by
  obtain ⟨f, hf, r⟩ := exists_first hT hc
  obtain ⟨i, hi⟩ := List.mem_iff_getElem?.mp hf
  have hp : (partsL T)[i]? = some (comp T f) := by unfold partsL; rw [List.getElem?_map, hi]; rfl
  rw [ixP_of (parts_nodup hT) hp (mem_comp.mpr r), ixP_of (parts_nodup hT) hp (mem_comp.mpr (r.step h hd))]
/-! ### the search: free cells, found ones, waiting ones -/
/-- F₀: what was free at first; fr: what is free; fo: found; wa: waiting; now: the cell whose neighbours are asked, the rest of them -/
structure Dfs (F₀ : List C) (a : C) (fr fo wa : List C) (now : List C) (rest : List C) : Prop where
  split : ∀ x, x ∈ F₀ ↔ x ∈ fr ∨ x ∈ fo
  apart : ∀ x, x ∈ fr → x ∉ fo
  ndf : fo.Nodup
  ndr : fr.Nodup
  way : ∀ x, x ∈ fo → Reach (· ∈ F₀) a x
  sub : ∀ x, x ∈ wa → x ∈ fo
  done : ∀ x, x ∈ fo → x ∉ wa → x ∉ now → ∀ y, y ∈ nb x → y ∈ F₀ → y ∈ fo
  head : ∀ x, x ∈ now → x ∈ fo ∧ ∀ y, y ∈ nb x → y ∈ F₀ → y ∈ fo ∨ y ∈ rest
  start : a ∈ fo
theorem Dfs.init {F₀ : List C} {a : C} (ha : a ∈ F₀) (hn : F₀.Nodup) : Dfs F₀ a (F₀.erase a) [a] [a] [] [] where
  split := fun x => by
    rw [hn.mem_erase_iff, List.mem_singleton]
    by_cases e : x = a
    · subst e; simp [ha]
    · simp [e]
  apart := fun x hx => by
    rw [hn.mem_erase_iff] at hx
    rw [List.mem_singleton]
    exact hx.1
  ndf := by simp
  ndr := hn.erase a
  way := fun x hx => by rw [List.mem_singleton.mp hx]; exact .refl ha
  sub := fun x h => h
  done := fun x h1 h2 _ => absurd h1 h2
  head := fun x h => absurd h List.not_mem_nil
  start := List.mem_singleton.mpr rfl
/-- the last waiting one is taken -/
theorem Dfs.pop {F₀ : List C} {a : C} {fr fo wa : List C} {here : C} (D : Dfs F₀ a fr fo (wa ++ [here]) [] []) : Dfs F₀ a fr fo wa [here] (nb here) where
  split := D.split
  apart := D.apart
  ndf := D.ndf
  ndr := D.ndr
  way := D.way
  sub := fun x h => D.sub x (List.mem_append_left _ h)
  done := fun x h1 h2 h3 => D.done x h1 (fun h => (List.mem_append.mp h).elim h2 h3) List.not_mem_nil
  head := fun x h => by
    rw [List.mem_singleton.mp h]
    exact ⟨D.sub here (List.mem_append_right _ (List.mem_singleton.mpr rfl)), fun y hy _ => .inr hy⟩
  start := D.start
/-- a neighbour that is not free -/
theorem Dfs.skip {F₀ : List C} {a : C} {fr fo wa : List C} {here y : C} {rest : List C} (D : Dfs F₀ a fr fo wa [here] (y :: rest)) (h : y ∉ fr) : Dfs F₀ a fr fo wa [here] rest where
  split := D.split
  apart := D.apart
  ndf := D.ndf
  ndr := D.ndr
  way := D.way
  sub := D.sub
  done := D.done
  head := fun x hx => ⟨(D.head x hx).1, fun z hz h0 => by
    rcases (D.head x hx).2 z hz h0 with k | k
    · exact .inl k
    · rcases List.mem_cons.mp k with e | e
      · subst e
        exact .inl (((D.split z).mp h0).resolve_left h)
      · exact .inr e⟩
  start := D.start
/-- a neighbour that is free is found -/
theorem Dfs.take {F₀ : List C} {a : C} {fr fo wa : List C} {here y : C} {rest : List C} (D : Dfs F₀ a fr fo wa [here] (y :: rest)) (h : y ∈ fr) (hn : y ∈ nb here) : Dfs F₀ a (fr.erase y) (fo ++ [y]) (wa ++ [y]) [here] rest where
  split := fun x => by
    rw [D.split x, D.ndr.mem_erase_iff, List.mem_append, List.mem_singleton]
    by_cases e : x = y
    · subst e; simp [h]
    · simp [e]
  apart := fun x hx => by
    rw [D.ndr.mem_erase_iff] at hx
    rw [List.mem_append, List.mem_singleton]
    exact fun k => k.elim (D.apart x hx.2) hx.1
  ndf := List.nodup_append.mpr ⟨D.ndf, by simp, fun x hx z hz => by
    rw [List.mem_singleton.mp hz]
    intro e
    exact D.apart y h (e ▸ hx)⟩
  ndr := D.ndr.erase y
  way := fun x hx => by
    rcases List.mem_append.mp hx with hx | hx
    · exact D.way x hx
    · rw [List.mem_singleton.mp hx]
      exact (D.way here (D.head here (List.mem_singleton.mpr rfl)).1).step hn ((D.split y).mpr (.inl h))
  sub := fun x hx => by
    rcases List.mem_append.mp hx with hx | hx
    · exact List.mem_append_left _ (D.sub x hx)
    · exact List.mem_append_right _ hx
  done := fun x h1 h2 h3 z hz h0 => by
    rcases List.mem_append.mp h1 with h1 | h1
    · exact List.mem_append_left _ (D.done x h1 (fun k => h2 (List.mem_append_left _ k)) h3 z hz h0)
    · exact absurd (List.mem_append_right _ h1) h2
  head := fun x hx => ⟨List.mem_append_left _ (D.head x hx).1, fun z hz h0 => by
    rcases (D.head x hx).2 z hz h0 with k | k
    · exact .inl (List.mem_append_left _ k)
    · rcases List.mem_cons.mp k with e | e
      · exact .inl (List.mem_append_right _ (by rw [e]; exact List.mem_singleton.mpr rfl))
      · exact .inr e⟩
  start := List.mem_append_left _ D.start
/-- the neighbours are through -/
theorem Dfs.next {F₀ : List C} {a : C} {fr fo wa : List C} {here : C} (D : Dfs F₀ a fr fo wa [here] []) : Dfs F₀ a fr fo wa [] [] where
  split := D.split
  apart := D.apart
  ndf := D.ndf
  ndr := D.ndr
  way := D.way
  sub := D.sub
  done := fun x h1 h2 _ z hz h0 => by
    by_cases e : x ∈ [here]
    · exact ((D.head x e).2 z hz h0).resolve_right List.not_mem_nil
    · exact D.done x h1 h2 e z hz h0
  head := fun x h => absurd h List.not_mem_nil
  start := D.start
theorem Dfs.found {F₀ : List C} {a : C} {fr fo : List C} (D : Dfs F₀ a fr fo [] [] []) (x : C) : x ∈ fo ↔ Reach (· ∈ F₀) a x :=
  ⟨D.way x, fun h => h.closed (P := (· ∈ fo)) D.start fun u v hu hn hv => D.done u hu List.not_mem_nil List.not_mem_nil v hn hv⟩
theorem Dfs.left {F₀ : List C} {a : C} {fr fo : List C} (D : Dfs F₀ a fr fo [] [] []) (x : C) : x ∈ fr ↔ x ∈ F₀ ∧ ¬ Reach (· ∈ F₀) a x := by
  rw [← D.found x, D.split x]
  constructor
  · intro h
    exact ⟨.inl h, D.apart x h⟩
  · rintro ⟨h, k⟩
    exact h.resolve_right k
/-- the parts so far: T = pre ++ post gone through up to post, fr is free -/
structure Pts (T pre fr : List C) (found : List (List C)) : Prop where
  free : ∀ x, x ∈ fr ↔ x ∈ T ∧ ∀ c, c ∈ pre → ¬ Reach (· ∈ T) c x
  nd : fr.Nodup
  got : found = (pre.filter fun c => dec (∀ d, Reach (· ∈ T) d c → ¬ Lt d c)).map (comp T)
theorem Pts.init {T fr : List C} (hf : ∀ x, x ∈ fr ↔ x ∈ T) (hn : fr.Nodup) : Pts T [] fr [] where
  free := fun x => by rw [hf x]; exact ⟨fun h => ⟨h, fun _ k => absurd k List.not_mem_nil⟩, fun h => h.1⟩
  nd := hn
  got := rfl
section
variable {T pre post fr : List C} {found : List (List C)} {c : C}
theorem Pts.first (P : Pts T pre fr found) (hT : Asc T) (e : T = pre ++ c :: post) : c ∈ fr ↔ ∀ d, Reach (· ∈ T) d c → ¬ Lt d c := by
  rw [e] at hT
  obtain ⟨_, h2, h3⟩ := List.pairwise_append.mp hT
  have hc : c ∈ T := by rw [e]; exact List.mem_append_right _ List.mem_cons_self
  rw [P.free c]
  constructor
  · rintro ⟨_, h⟩ d hd hl
    have hdT : d ∈ pre ++ c :: post := e ▸ hd.left
    rcases List.mem_append.mp hdT with k | k
    · exact h d k hd
    · exact Asc.head_le h2 k hl
  · intro h
    exact ⟨hc, fun d hd k => h d k (h3 d hd c List.mem_cons_self)⟩
theorem Pts.skip (P : Pts T pre fr found) (hT : Asc T) (e : T = pre ++ c :: post) (h : c ∉ fr) : Pts T (pre ++ [c]) fr found where
  free := fun x => by
    rw [P.free x]
    refine and_congr_right fun hx => ⟨fun k d hd => ?_, fun k d hd => k d (List.mem_append_left _ hd)⟩
    rcases List.mem_append.mp hd with hd | hd
    · exact k d hd
    · rw [List.mem_singleton.mp hd]
      intro r
      refine h ((P.free c).mpr ⟨r.left, fun d hd q => k d hd (q.trans r)⟩)
  nd := P.nd
  got := by
    rw [List.filter_append, List.map_append, ← P.got]
    rw [P.first hT e] at h
    rw [List.filter_cons, dec_not h]
    simp
/-- a part is taken out: fr' is what is left, l the part sorted -/
theorem Pts.take {fr' l : List C} (P : Pts T pre fr found) (hT : Asc T) (e : T = pre ++ c :: post) (h : c ∈ fr) (hl : Asc l) (hm : ∀ x, x ∈ l ↔ Reach (· ∈ fr) c x) (hf : ∀ x, x ∈ fr' ↔ x ∈ fr ∧ ¬ Reach (· ∈ fr) c x) (hn : fr'.Nodup) :
    Pts T (pre ++ [c]) fr' (found ++ [l]) := by
  have up : ∀ x, Reach (· ∈ fr) c x ↔ Reach (· ∈ T) c x := by
    intro x
    constructor
    · intro k
      exact k.mono fun y hy => ((P.free y).mp hy).1
    · intro k
      refine k.within (P := (· ∈ fr)) h fun u v hu hv hT => (P.free v).mpr ⟨hT, fun d hd q => ((P.free u).mp hu).2 d hd (q.step (nb_symm hv) ((P.free u).mp hu).1)⟩
  refine ⟨fun x => ?_, hn, ?_⟩
  · rw [hf x, P.free x, up x]
    constructor
    · rintro ⟨⟨h1, h2⟩, h3⟩
      refine ⟨h1, fun d hd => ?_⟩
      rcases List.mem_append.mp hd with hd | hd
      · exact h2 d hd
      · rw [List.mem_singleton.mp hd]; exact h3
    · rintro ⟨h1, h2⟩
      exact ⟨⟨h1, fun d hd => h2 d (List.mem_append_left _ hd)⟩, h2 c (List.mem_append_right _ (List.mem_singleton.mpr rfl))⟩
  · rw [List.filter_append, List.map_append, ← P.got]
    have hc := (P.first hT e).mp h
    have el : l = comp T c := Asc.ext hl (asc_comp hT c) fun x => by rw [hm x, up x, mem_comp]
    rw [List.filter_cons, dec_iff.mpr hc, el]
    simp
theorem Pts.all (P : Pts T T fr found) : found = partsL T := by
  rw [P.got]
  unfold partsL firsts
  rfl
end
end Hex

set_option Elab.async false
set_option linter.all false
set_option maxRecDepth 100000
set_option maxHeartbeats 4000000
/-! ### cells as data -/
namespace L2
open PySem PySem.Spec PyProof.Rows Hex
def cl (c : C) : List Int := [c.1, c.2]
theorem cl_inj {c d : C} (h : cl c = cl d) : c = d := by
  obtain ⟨a, b⟩ := c
  obtain ⟨x, y⟩ := d
  simp only [cl, List.cons.injEq, and_true] at h
  rw [h.1, h.2]
theorem cl_map_inj : ∀ {a b : List C}, a.map cl = b.map cl → a = b
  | [], [], _ => rfl
  | [], _ :: _, h => by cases h
  | _ :: _, [], h => by cases h
  | x :: a, y :: b, h => by
    rw [List.map_cons, List.map_cons] at h
    injection h with h1 h2
    rw [cl_inj h1, cl_map_inj h2]
theorem cl_mem {c : C} {l : List C} : cl c ∈ l.map cl ↔ c ∈ l := by
  constructor
  · intro h
    obtain ⟨d, hd, e⟩ := List.mem_map.mp h
    rw [← cl_inj e]; exact hd
  · intro h
    exact List.mem_map.mpr ⟨c, h, rfl⟩
theorem cl_ne (l : List C) : ∀ ns ∈ l.map cl, ns ≠ [] := by
  intro ns h
  obtain ⟨c, _, rfl⟩ := List.mem_map.mp h
  simp [cl]
theorem cl_len2 (l : List C) : ∀ ns ∈ l.map cl, ns.length = 2 := by
  intro ns h
  obtain ⟨c, _, rfl⟩ := List.mem_map.mp h
  rfl
theorem paired_append {α β : Type} {R : α → β → Prop} {c : List α} {d : List β} (k : Paired R c d) : ∀ {a : List α} {b : List β}, Paired R a b → Paired R (a ++ c) (b ++ d)
  | _, _, .nil => k
  | _, _, .cons h t => .cons h (paired_append k t)
/-- a cell; a list's cells -/
abbrev Ce (H : Hp) (v : V) (c : C) : Prop := Tp H v (cl c)
abbrev Cs (H : Hp) (vs : List V) (cs : List C) : Prop := Tps H vs (cs.map cl)
theorem Cs.get {H : Hp} : ∀ {vs : List V} {cs : List C}, Cs H vs cs → ∀ {i : Nat} {c : C}, cs[i]? = some c → ∃ v, vs[i]? = some v ∧ Ce H v c
  | [], [], _, i, c, h => by simp at h
  | [], _ :: _, h, _, _, _ => by cases h
  | _ :: _, [], h, _, _, _ => by cases h
  | v :: vs, d :: cs, h, i, c, hi => by
    cases h with
    | cons r t =>
      cases i with
      | zero =>
        simp only [List.getElem?_cons_zero, Option.some.injEq] at hi
        subst hi
        exact ⟨v, rfl, r⟩
      | succ j =>
        simp only [List.getElem?_cons_succ] at hi ⊢
        exact Cs.get t hi
theorem Cs.of {H : Hp} : ∀ {vs : List V} {cs : List C}, Cs H vs cs → ∀ {i : Nat} {v : V}, vs[i]? = some v → ∃ c, cs[i]? = some c ∧ Ce H v c
  | [], [], _, i, c, h => by simp at h
  | [], _ :: _, h, _, _, _ => by cases h
  | _ :: _, [], h, _, _, _ => by cases h
  | v :: vs, d :: cs, h, i, u, hi => by
    cases h with
    | cons r t =>
      cases i with
      | zero =>
        simp only [List.getElem?_cons_zero, Option.some.injEq] at hi
        subst hi
        exact ⟨d, rfl, r⟩
      | succ j =>
        simp only [List.getElem?_cons_succ] at hi ⊢
        exact Cs.of t hi
theorem Cs.len {H : Hp} {vs : List V} {cs : List C} (h : Cs H vs cs) : vs.length = cs.length := by
  have := Paired.length h
  simpa using this
theorem Cs.snoc {H : Hp} {vs : List V} {cs : List C} {v : V} {c : C} (h : Cs H vs cs) (k : Ce H v c) : Cs H (vs ++ [v]) (cs ++ [c]) := by
  show Tps H (vs ++ [v]) ((cs ++ [c]).map cl)
  rw [List.map_append]
  exact paired_append (R := Tp H) (c := [v]) (d := [cl c]) (.cons k .nil) h
theorem Cs.dropLast {H : Hp} {vs : List V} {cs : List C} {c : C} (h : Cs H vs (cs ++ [c])) : ∃ ws v, vs = ws ++ [v] ∧ Cs H ws cs ∧ Ce H v c := by
  induction cs generalizing vs with
  | nil =>
    cases h with
    | cons r t =>
      cases t
      exact ⟨[], _, rfl, .nil, r⟩
  | cons d cs ih =>
    cases h with
    | cons r t =>
      obtain ⟨ws, v, e, h1, h2⟩ := ih t
      exact ⟨_ :: ws, v, by rw [e]; rfl, .cons r h1, h2⟩
/-! dicts with cells as keys, all True -/
def kc (c : C) : List Key := [.inl c.1, .inl c.2]
theorem kc_inj {c d : C} (h : kc c = kc d) : c = d := by
  obtain ⟨a, b⟩ := c
  obtain ⟨x, y⟩ := d
  simp only [kc, List.cons.injEq, Sum.inl.injEq, and_true] at h
  rw [h.1, h.2]
theorem Ce.key {H : Hp} {v : V} {c : C} (t : Ce H v c) : ∃ p, v = .ref p ∧ H p = some (.tup ((kc c).map kV)) := t
theorem Ce.of {H : Hp} {p : Addr} {c : C} (h : H p = some (.tup ((kc c).map kV))) : Ce H (.ref p) c := ⟨p, rfl, h⟩
/-- with any values -/
def dv (f : C → V) (cs : List C) : List (List Key × V) := cs.map fun c => (kc c, f c)
abbrev dk (cs : List C) : List (List Key × V) := dv (fun _ => .bl true) cs
theorem valV_dv (f : C → V) (c : C) : ∀ cs : List C, valV (dv f cs) (kc c) = if c ∈ cs then some (f c) else none
  | [] => rfl
  | d :: cs => by
    by_cases e : d = c
    · subst e
      rw [show dv f (d :: cs) = (kc d, f d) :: dv f cs from rfl, valV_pos rfl]
      simp
    · rw [show dv f (d :: cs) = (kc d, f d) :: dv f cs from rfl, valV_neg (fun z => e (kc_inj z)), valV_dv f c cs]
      by_cases h : c ∈ cs
      · simp [h]
      · simp [h, Ne.symm e]
theorem dv_snoc (f : C → V) (cs : List C) (c : C) : dv f (cs ++ [c]) = dv f cs ++ [(kc c, f c)] := by
  unfold dv; simp
theorem putK_dv {f : C → V} {cs : List C} {c : C} (h : c ∉ cs) : putK (dv f cs) (kc c) (f c) = dv f (cs ++ [c]) := by
  rw [putK_new _ (by rw [valV_dv, if_neg h]), dv_snoc]
theorem dropK_dv {f : C → V} {c : C} : ∀ {cs : List C}, cs.Nodup → dropK (dv f cs) (kc c) = dv f (cs.erase c)
  | [], _ => rfl
  | d :: cs, hn => by
    have hn' := List.nodup_cons.mp hn
    by_cases e : d = c
    · subst e
      rw [show dv f (d :: cs) = (kc d, f d) :: dv f cs from rfl, dropK_pos rfl, List.erase_cons_head]
      refine dropK_no fun z => ?_
      obtain ⟨p, hp, hk⟩ := List.mem_map.mp z
      obtain ⟨x, hx, rfl⟩ := List.mem_map.mp hp
      exact hn'.1 (kc_inj hk ▸ hx)
    · rw [show dv f (d :: cs) = (kc d, f d) :: dv f cs from rfl, dropK_neg (fun z => e (kc_inj z)), dropK_dv hn'.2, List.erase_cons_tail (by simpa using e)]
      rfl
theorem dv_len (f : C → V) (cs : List C) : (dv f cs).length = cs.length := by unfold dv; simp
theorem dv_get {f : C → V} {cs : List C} {i : Nat} {ks : List Key} {v : V} (h : (dv f cs)[i]? = some (ks, v)) : ∃ c, cs[i]? = some c ∧ ks = kc c ∧ v = f c := by
  unfold dv at h
  rw [List.getElem?_map] at h
  obtain ⟨c, hc, e⟩ := Option.map_eq_some_iff.mp h
  injection e with e1 e2
  exact ⟨c, hc, e1.symm, e2.symm⟩
theorem dv_congr {f g : C → V} {cs : List C} (h : ∀ c ∈ cs, f c = g c) : dv f cs = dv g cs := by
  unfold dv
  exact List.map_congr_left fun c hc => by rw [h c hc]
/-! sorted -/
theorem perm_map {α β : Type} {f : α → β} {l : List β} {cs : List α} (p : l.Perm (cs.map f)) : ∃ ts : List α, l = ts.map f ∧ ts.Perm cs := by
  have base : ∀ cs : List α, Paired (fun (v : β) (n : α) => v = f n) (cs.map f) cs := by
    intro cs
    induction cs with
    | nil => exact .nil
    | cons c cs ih => exact .cons rfl ih
  obtain ⟨ns, pn, r⟩ := paired_perm p (base cs)
  refine ⟨ns, ?_, pn⟩
  clear pn p
  induction r with
  | nil => rfl
  | cons h _ ih => rw [List.map_cons, ← h, ← ih]
theorem lex_cl (x y : C) : lexB (cl x) (cl y) = decide (Hex.Lt x y) := by
  obtain ⟨a, b⟩ := x
  obtain ⟨u, v⟩ := y
  simp only [cl, lexB, Hex.Lt]
  by_cases e : a = u
  · subst e
    by_cases e2 : b = v
    · subst e2; simp
    · simp [e2]
  · simp [e]
theorem asc_of {ts cs : List C} (hs : LSrt (ts.map cl)) (p : ts.Perm cs) (hn : cs.Nodup) : Asc ts := by
  have hn' : ts.Nodup := p.nodup_iff.mpr hn
  rw [LSrt, List.pairwise_map] at hs
  refine (hs.and hn').imp ?_
  rintro x y ⟨h1, h2⟩
  rw [lex_cl] at h1
  rcases Hex.Lt.total x y with k | k | k
  · exact k
  · exact absurd k h2
  · exact absurd k (of_decide_eq_false h1)
theorem srt_of {ts : List C} (h : Asc ts) : LSrt (ts.map cl) := by
  rw [LSrt, List.pairwise_map]
  exact h.imp fun {x y} k => by rw [lex_cl]; exact decide_eq_false (Hex.Lt.asymm k)
/-! what is not a tuple may turn -/
def TupS (H H' : Hp) : Prop := ∀ b xs, H b = some (.tup xs) → H' b = some (.tup xs)
theorem TupS.refl (H : Hp) : TupS H H := fun _ _ h => h
theorem TupS.trans {H H1 H2 : Hp} (a : TupS H H1) (b : TupS H1 H2) : TupS H H2 := fun c xs h => b c xs (a c xs h)
theorem TupS.of {H H' : Hp} (s : Same H H') : TupS H H' := fun b xs h => s b _ h
def isTup : HO → Bool
  | .tup _ => true
  | _ => false
theorem TupS.upd {H : Hp} {p : Addr} {o o' : HO} (h : H p = some o) (k : isTup o = false) : TupS H (upd H p o') := fun b xs z => by
  rw [upd_ne]
  · exact z
  · rintro rfl
    rw [h] at z
    cases z
    cases k
theorem Tps.mt {H H' : Hp} {vs : List V} {nss : List (List Int)} (t : TupS H H') (r : Tps H vs nss) : Tps H' vs nss := Paired.mapP r fun _ _ ⟨p, e, h⟩ => ⟨p, e, t _ _ h⟩
theorem Tp.mt {H H' : Hp} {v : V} {ns : List Int} (t : TupS H H') (r : Tp H v ns) : Tp H' v ns := let ⟨p, e, h⟩ := r; ⟨p, e, t _ _ h⟩
/-- all but at d -/
def But (d : Addr) (H H' : Hp) : Prop := ∀ b o, b ≠ d → H b = some o → H' b = some o
theorem But.of {d : Addr} {H H' : Hp} (s : Same H H') : But d H H' := fun b o _ h => s b o h
theorem But.trans {d : Addr} {H H1 H2 : Hp} (a : But d H H1) (b : But d H1 H2) : But d H H2 := fun c o hc h => b c o hc (a c o hc h)
theorem But.upd {d : Addr} {H : Hp} (o : HO) : But d H (upd H d o) := fun b o' hb h => by rw [upd_ne hb]; exact h
/-- a place that was free at H: an update there keeps -/
theorem But.at {d p : Addr} {H H1 : Hp} (a : But d H H1) (hp : H p = none) (o : HO) : But d H (L2.upd H1 p o) := fun b o' hb h => by rw [upd_ne (ne_of_none h hp)]; exact a b o' hb h
theorem Same.at {p : Addr} {H H1 : Hp} (a : Same H H1) (hp : H p = none) (o : HO) : Same H (upd H1 p o) := fun b o' h => by rw [upd_ne (ne_of_none h hp)]; exact a b o' h
theorem But.free {d : Addr} {H H1 : Hp} (a : But d H H1) {p : Addr} (hd : H1 d ≠ none) (hp : H1 p = none) : H p = none := by
  cases h : H p with
  | none => rfl
  | some o =>
    by_cases e : p = d
    · subst e; exact absurd hp hd
    · rw [a p o e h] at hp; cases hp
end L2

set_option Elab.async false
set_option linter.all false
set_option maxRecDepth 100000
set_option maxHeartbeats 4000000
/-! ### list(reversed(a list)); ways that meet -/
namespace L2
open PySem PySem.Spec PyProof.Rows
theorem tCB_i {r : List V → Hp → VK → Prop} {t : TA} {σ : St} {H : Hp} {Q : VK} (h : t σ H fun vs H1 => r vs H1 Q) : tCB r t σ H Q := h
theorem tCons_i {te : TE} {t : TA} {σ : St} {H : Hp} {Q : List V → Hp → Prop} (h : te σ H fun v H1 => t σ H1 fun vs H2 => Q (v :: vs) H2) : tCons te t σ H Q := h
theorem tOp_i {r : R2} {ta tb : TE} {σ : St} {H : Hp} {Q : VK} (h : ta σ H fun x H1 => tb σ H1 fun y H2 => r x y H2 Q) : tOp r ta tb σ H Q := h
theorem tCall_i {sp : Sp} {dvs : List V} {E : XK} {t : TA} {σ : St} {H : Hp} {Q : VK} (h : t σ H fun vs H1 => sp (vs ++ dvs) H1 Q E) : tCall sp dvs E t σ H Q := h
theorem tNext_i {D : Ends} {σ : St} {H : Hp} (h : D.nx σ H) : tNext D σ H := h
theorem tSeq_i {t u : TS} {D : Ends} {σ : St} {H : Hp} (h : t { D with nx := u D } σ H) : tSeq t u D σ H := h
def tJ (t : TS) : TS := fun D σ H => ∃ J : St → Hp → Prop, t { D with nx := J } σ H ∧ ∀ σ' H', J σ' H' → D.nx σ' H'
theorem ps_join {X : Cx} {st : Stmt} {t : TS} (h : PS X st t) : PS X st (tJ t) := by
  intro pins s σ H D I q
  obtain ⟨J, q1, q2⟩ := q
  refine thn (h pins s σ H _ I q1) fun f s' z => ?_
  cases f with
  | next => obtain ⟨σ', H', I', j⟩ := z; exact ⟨σ', H', I', q2 σ' H' j⟩
  | brk => exact z
  | cont => exact z
  | ret u => exact z
theorem nolen_lri : typeLookup (.type "list_reverseiterator") "__len__" = pure none := by rw [typeLookup_type, builtinLookup_eq_fast]; kernel_rfl
theorem hint_lri : typeLookup (.type "list_reverseiterator") "__length_hint__" = pure (some (.builtin "list_reverseiterator.__length_hint__")) := by rw [typeLookup_type, builtinLookup_eq_fast]; kernel_rfl
section
variable {prog : Program} {w : World} {A : Around} {E : Value → Shared → Prop} {s : Shared}
theorem rev_hint {r : Addr} {Q : Bool → Shared → Prop} (hT : s.TypeIs (.ref r) "list_reverseiterator") (h : Q false s) : wpAny (model prog w) A (Builtin.List.listLengthHint (.ref r)) Q E s := by
  unfold Builtin.List.listLengthHint
  refine wpAny_bind (wpAny_specialOf hT nolen_lri ?_)
  show wpAny _ A (specialOf (Value.ref r) (Str.ofString "__length_hint__") >>= _) _ _ _
  refine wpAny_bind (wpAny_specialOf hT hint_lri ?_)
  generalize hid : ("list_reverseiterator.__length_hint__" : String) = id0
  wp_delta
  rw [show splitId id0 = some ("list_reverseiterator", "__length_hint__") from by subst hid; decide +kernel]
  subst hid
  refine wpAny_bind (wpAny_isInstance (T := "list_reverseiterator") (b := true) hT (by rw [isSubtype_type]; kernel_rfl) ?_)
  exact wpAny_pure h
theorem rev_list {it l : Addr} {items : Array Value} {Q : Value → Shared → Prop} (hh : A.handled = none) (hne : l ≠ it) (hit : s.heap.IsRevIter it l ((items.size : Int) - 1)) (hl : s.heap.IsList l items) (hn : items.size ≤ sizeLine)
    (hQ : ∀ h' tk acc' c', (∀ b o, b ≠ it → s.heap.get? b = some o → h'.get? b = some o) → h'.get? s.heap.objs.size = some { cls := .type "list", dict := none, data := .seq acc' c', slots := #[] } → acc'.toList = items.toList.reverse → Q (.ref s.heap.objs.size) { s with heap := h', toks := tk }) :
    wpAny (model prog w) A (call (.type "list") [.ref it]) Q E s := by
  refine callType_codes (Q₁ := fun obj s₁ => obj = .ref s.heap.objs.size ∧ s₁ = { s with heap := s.heap.push { cls := .type "list", data := .seq #[] } }) PySem.F.called_list (PySem.F.typeCall_list_1 _) PySem.F.entry_list_init
    (code_list_new _ ⟨rfl, rfl⟩) fun obj s₁ h₁ => ?_
  obtain ⟨rfl, rfl⟩ := h₁
  have hS : (s.heap.push { cls := .type "list", data := .seq #[] }).get? s.heap.objs.size = some { cls := .type "list", data := .seq #[] } := Heap.get?_push_size _ rfl
  have lit : it < s.heap.objs.size := by obtain ⟨o, ho, _⟩ := hit; exact Heap.lt_size ho
  have ll : l < s.heap.objs.size := by obtain ⟨o, ho, _⟩ := hl; exact Heap.lt_size ho
  refine ⟨⟨_, hS, rfl⟩, PySem.F.args_list_init_2 _ _, ?_⟩
  have W := Walks.listRev (prog := prog) (w := w) (A := A.in1.in1) hh it l hne items
  generalize hSd : s.heap.objs.size = S at *
  have nit : it ≠ S := Nat.ne_of_lt lit
  have nl : l ≠ S := Nat.ne_of_lt ll
  have hSf : S ∉ [it, l] := by simp only [List.mem_cons, List.not_mem_nil, or_false, not_or]; exact ⟨nit.symm, nl.symm⟩
  show wpAny _ _ (do let old ← Builtin.List.listItems (.ref S); Builtin.List.listUpdate (.ref S) (fun _ => #[]); letGo old.toList.reverse; Builtin.List.listExtendWith (.ref S) (.ref it) .none) _ _ _
  refine wpAny_bind ?_
  unfold Builtin.List.listItems
  refine wpAny_bind (wpAny_seqItems hS rfl (wpAny_pure ?_))
  show wpAny _ _ (updateSeq S (fun _ => #[]) >>= fun _ => letGo (#[] : Array Value).toList.reverse >>= fun _ => Builtin.List.listExtendWith (.ref S) (.ref it) .none) _ _ _
  refine wpAny_bind (wpAny_updateSeq hS rfl ?_)
  have hS₂ := Heap.get?_update_self (Obj.mapSeq (fun _ => (#[] : Array Value))) hS rfl
  have oth : ∀ b o, b ≠ S → s.heap.get? b = some o → ((s.heap.push { cls := .type "list", data := .seq #[] }).update S (Obj.mapSeq (fun _ => (#[] : Array Value)))).get? b = some o :=
    fun b o hb e => (Heap.get?_update_other _ _ (Ne.symm hb)).trans (Heap.get?_push_of_some _ e)
  refine wpAny_bind (wpAny_letGo ?_)
  have st : (fun i h => i ≤ items.size ∧ Heap.IsRevIter h it l ((items.size : Int) - 1 - (i : Int)) ∧ h.IsList l items) 0 ((s.heap.push { cls := .type "list", data := .seq #[] }).update S (Obj.mapSeq (fun _ => (#[] : Array Value)))) :=
    ⟨Nat.zero_le _, by simpa using hit.at fun o e => oth it o nit e, hl.at fun o e => oth l o nl e⟩
  have key : codeAny (model prog w) A.in1 (.builtin "list.extend.loop" ⟨[.ref S, .ref it, .none], []⟩)
      (fun r s' => match r with | .ok (.ret v) => v = .none ∧ Q (.ref S) s' | .ok _ => False | .error e => E e s') { s with heap := (s.heap.push { cls := .type "list", data := .seq #[] }).update S (Obj.mapSeq (fun _ => (#[] : Array Value))) } := by
    refine codeAny_extend_loopS W.toS hn S hSf .none items.size 0 _ #[] _ rfl (Nat.zero_le _) st hS₂ (ItemsOf.nil _) fun s' acc' c' hm hS' hacc => ?_
    rw [Moved.eq_with hm]
    refine ⟨rfl, hQ s'.heap s'.toks acc' c' (fun b o hb e => hm.heap b o (fun hmem => ?_) (oth b o (by rw [← hSd]; exact Nat.ne_of_lt (Heap.lt_size e)) e)) hS' ?_⟩
    · rcases List.mem_cons.mp hmem with e' | hmem
      · exact absurd e' (by rw [← hSd]; exact Nat.ne_of_lt (Heap.lt_size e))
      · exact hb (List.mem_singleton.mp hmem)
    · refine List.ext_getElem? fun j => ?_
      by_cases hj : j < items.size
      · obtain ⟨v, hv⟩ : ∃ v, acc'[j]? = some v := ⟨acc'[j]'(by rw [hacc.1]; exact hj), Array.getElem?_eq_getElem _⟩
        rw [Array.getElem?_toList, hv, List.getElem?_reverse (by simpa using hj), Array.getElem?_toList, Array.length_toList]
        exact (hacc.2 j v hv).symm
      · rw [List.getElem?_eq_none (by rw [Array.length_toList, hacc.1]; omega), List.getElem?_eq_none (by simp; omega)]
  unfold Builtin.List.listExtendWith
  refine wpAny_bind (wpAny_typeOf (T := "list_reverseiterator") (let ⟨o, ho, hc, _⟩ := st.2.1; ⟨o, ho, hc⟩) ?_)
  have h1 : Builtin.List.listSameRef (.ref S) (.ref it) = false := by simp [Builtin.List.listSameRef, nit.symm]
  rw [if_neg (by rw [h1]; decide)]
  refine wpAny_bind (W.self 0 _ _ _ st ?_)
  refine wpAny_bind (wpAny_holding (rev_hint (let ⟨o, ho, hc, _⟩ := st.2.1; ⟨o, ho, hc⟩) ?_))
  rw [if_neg (by decide)]
  exact wpAny_pure ⟨plainId_quiet PySem.F.plain_extend_loop _, key⟩
end
section
variable {X : Cx} {e : Expr} {te : TE} {p1 p2 pos1 pos2 : Pos}
theorem bt_reversed : bootBuiltins "reversed" = some (.type "reversed") := by decide +kernel
theorem pe_listrev (hcalm : X.calm = true) (hgl : Gl X "list") (hml : X.mg "list" = none) (hgr : Gl X "reversed") (hmr : X.mg "reversed" = none) (ha : PE X e te)
    (he : starEach [e] X.env = [(false, eval e X.env)] := by rfl) (he2 : starEach [Expr.Call (.Name "reversed" p2) [e] [] pos2] X.env = [(false, eval (.Call (.Name "reversed" p2) [e] [] pos2) X.env)] := by rfl) :
    PE X (.Call (.Name "list" p1) [.Call (.Name "reversed" p2) [e] [] pos2] [] pos1) (fun σ H Q => te σ H fun x H1 => ∃ a ys, x = .ref a ∧ SqL X.K H1 a ys ∧ ∀ l, H1 l = none → Q (.ref l) (upd H1 l (.lst ys.reverse))) := by
  intro pins s σ H Q I h
  refine wpAny_Call_Name_kw (ld_blt I hgl hml bt_list ?_)
  refine PyProof.Rows.callWith_type1 ?_ he2 rfl
  rw [he2]
  refine Calls.spliced_cons (wpAny_Call_Name_kw (ld_blt I hgr hmr bt_reversed (PyProof.Rows.callWith_type1 ?_ he rfl)))
  rw [he]
  refine Calls.spliced_cons (thn (ha pins s σ H _ I h) fun v s1 ⟨x, H1, I1, r1, q1⟩ => Calls.spliced_nil ?_)
  obtain ⟨a, ys, rfl, hq, q⟩ := q1
  cases (show v = Value.ref a from r1)
  obtain ⟨its, rv, pl, hz⟩ := I1.list hq
  have hl := rv.length
  refine call_reversed_list pl.isList (Calls.spliced_nil ?_)
  have la : a < s1.heap.objs.size := by obtain ⟨o, ho, _⟩ := pl.isList; exact Heap.lt_size ho
  refine rev_list (I1.ok.hd hcalm) (Nat.ne_of_lt la) ⟨_, Heap.get?_push_size _ rfl, rfl, rfl⟩ (pl.isList.at fun o e => Heap.get?_push_of_some _ e) (by simp; omega) fun h' tk acc' c' hk hD hacc => ?_
  have hs1 : (s1.heap.push (revObj a ((its.toArray.size : Int) - 1))).objs.size = s1.heap.objs.size + 1 := by rw [Heap.size_push]
  rw [hs1] at hD ⊢
  have hn : H1 (s1.heap.objs.size + 1) = none := I1.hok.fresh (Nat.le_succ _)
  refine ⟨.ref (s1.heap.objs.size + 1), _, I1.laid (t' := tk) (o := .lst ys.reverse) (fun b o e => hk b o (Nat.ne_of_lt (Heap.lt_size e)) (Heap.get?_push_of_some _ e)) (Nat.le_succ _) ⟨by rw [List.length_reverse]; exact hz, its.reverse, c', rv.reverse, ?_⟩, rfl, q _ hn⟩
  have : acc' = its.reverse.toArray := by
    apply Array.toList_inj.mp
    rw [hacc]
  rw [this] at hD
  exact hD
end
end L2

set_option Elab.async false
set_option linter.all false
set_option maxRecDepth 100000
set_option maxHeartbeats 4000000
/-! ### min, max of a list of ints; ranges of whatever ints -/
namespace L2
open PySem PySem.Spec PyProof.Rows
theorem ints_items : ∀ {ns : List Int} {us : List Value}, Vals (ns.map V.int) us → ∃ xs : List (Int × Tok), us = xs.map (fun p => Value.int p.1 p.2) ∧ xs.map (·.1) = ns
  | [], _, h => by cases h; exact ⟨[], rfl, rfl⟩
  | n :: ns, _, h => by
    cases h with
    | cons r t =>
      obtain ⟨t', rfl⟩ := (show ∃ t, _ = Value.int n t from r)
      obtain ⟨xs, h1, h2⟩ := ints_items t
      exact ⟨(n, t') :: xs, by rw [h1]; rfl, by rw [List.map_cons, h2]⟩
section
variable {X : Cx}
theorem call_minL (hc : X.calm = true) : CallR X (.builtin "min") (fun xs H Q => ∃ p ns, xs = [.ref p] ∧ SqL X.K H p (ns.map V.int) ∧ ns ≠ [] ∧ ∀ m, m ∈ ns → (∀ a ∈ ns, m ≤ a) → Q (.int m) H) := by
  intro pins s σ H xs us Q I r h
  obtain ⟨p, ns, rfl, hq, hn, q⟩ := h
  obtain ⟨u, rfl, rx⟩ := vals1 r
  cases rx
  obtain ⟨its, r', pl, hz⟩ := I.list hq
  obtain ⟨ys, rfl, e2⟩ := ints_items r'
  have hl : s.heap.IsList p (intItems ys.toArray) := by
    have := pl.isList
    simpa [intItems] using this
  have hlen : 0 < ys.toArray.size := by
    have : ys.length = ns.length := by rw [← e2, List.length_map]
    have := List.length_pos_iff.mpr hn
    simp; omega
  refine min_intList (I.ok.hd hc) hl hlen fun v h' tk hv hk => ?_
  obtain ⟨t, rfl⟩ := intItems_at hv
  obtain ⟨h1, h2⟩ := argBest_lt (numAt ys.toArray) (ys.toArray.size - 1)
  have e3 : ys.toArray.toList.map (·.1) = ns := by simpa using e2
  refine ⟨.int _, H, I.kept (t' := tk) hk, ⟨t, rfl⟩, q _ ?_ fun a ha => ?_⟩
  · rw [numAt_eq, e3]; exact getD_mem (by rw [← e3, List.length_map, Array.length_toList]; omega)
  · rw [← e3] at ha
    obtain ⟨j, hj, rfl⟩ := mem_getD ha
    rw [List.length_map, Array.length_toList] at hj
    rw [← numAt_eq]; exact h2 j (by omega)
theorem call_maxL (hc : X.calm = true) : CallR X (.builtin "max") (fun xs H Q => ∃ p ns, xs = [.ref p] ∧ SqL X.K H p (ns.map V.int) ∧ ns ≠ [] ∧ ∀ m, m ∈ ns → (∀ a ∈ ns, a ≤ m) → Q (.int m) H) := by
  intro pins s σ H xs us Q I r h
  obtain ⟨p, ns, rfl, hq, hn, q⟩ := h
  obtain ⟨u, rfl, rx⟩ := vals1 r
  cases rx
  obtain ⟨its, r', pl, hz⟩ := I.list hq
  obtain ⟨ys, rfl, e2⟩ := ints_items r'
  have hl : s.heap.IsList p (intItems ys.toArray) := by
    have := pl.isList
    simpa [intItems] using this
  have hlen : 0 < ys.toArray.size := by
    have : ys.length = ns.length := by rw [← e2, List.length_map]
    have := List.length_pos_iff.mpr hn
    simp; omega
  refine max_intList (I.ok.hd hc) hl hlen fun v h' tk hv hk => ?_
  obtain ⟨t, rfl⟩ := intItems_at hv
  obtain ⟨h1, h2⟩ := argBest_gt (numAt ys.toArray) (ys.toArray.size - 1)
  have e3 : ys.toArray.toList.map (·.1) = ns := by simpa using e2
  refine ⟨.int _, H, I.kept (t' := tk) hk, ⟨t, rfl⟩, q _ ?_ fun a ha => ?_⟩
  · rw [numAt_eq, e3]; exact getD_mem (by rw [← e3, List.length_map, Array.length_toList]; omega)
  · rw [← e3] at ha
    obtain ⟨j, hj, rfl⟩ := mem_getD ha
    rw [List.length_map, Array.length_toList] at hj
    rw [← numAt_eq]; exact h2 j (by omega)
end
theorem turn_long {P : Program} {w : World} {K : PySem.W.Frag} {tg : Expr} (it : Addr) (lo : Int) (n : Nat) : Turn P w K tg (Itr lo n) [it] it (fun i h => IsLongIter h it (lo + (i : Nat) * 1) ((n : Int) - (i : Nat)) 1) where
  mem := by simp
  obj := fun i h st b hb => by
    have e : b = it := by simpa using hb
    subst e
    exact ⟨_, st, fun v z => by
      have z' : Data.fields _ = Data.cell v := z
      cases z'⟩
  keep := fun i h h' st k => k it (by simp) _ st
  item := by
    intro X hP hw hK hc i pins s σ H E I hf st hg
    subst hP hw hK
    obtain ⟨f0, f1, f2, f3, f4, f5⟩ := hf it (by simp)
    have W := Walks.longrange (prog := X.prog) (w := X.w) (I.ok.hd hc) it lo 1 n
    refine W.item i s _ _ hg st fun v h' tk hv st' kk => ?_
    obtain ⟨t, rfl⟩ := hv
    have I1 : Inv X pins σ H { s with heap := h', toks := tk } := I.turned (fun b o hb e => kk b o (by simpa using hb) e) f0 f1 f3 f4 f5
    refine ⟨_, rfl, go_of (s := { s with heap := h', toks := tk }) (n := "longrange_iterator") st' rfl rfl (by decide) ⟨.int (lo + i), H, I1, ⟨t, ?_⟩, ⟨rfl, rfl⟩, st', fun b hb => (hf b hb).1⟩⟩
    rw [Int.mul_one]
  done := by
    intro X hP hw hK hc i pins s σ H E I hf st hg
    subst hP hw hK
    obtain ⟨f0, f1, f2, f3, f4, f5⟩ := hf it (by simp)
    exact wpAny_pyNext_long_end (I.ok.hd hc) st (by have : n ≤ i := hg; omega) fun h' eb => ⟨rfl, I.turned (t' := s.toks) (fun b o hb e => eb b o hb e) f0 f1 f3 f4 f5⟩
  self := fun _ _ _ _ _ st h => wpAny_pyIter_longiter st h
section
variable {X : Cx} {tg : Expr}
theorem range_itL {pins : List (Addr × Obj)} {σ : St} {H : Hp} {s : Shared} {R : It → Hp → Prop} {E : Value → Shared → Prop} {lo hi : Int} {t u v : Tok} {tk : Nat} (I : Inv X pins σ H s)
    (q : R (Itr lo (hi - lo).toNat) H) : wpAny (model X.prog X.w) X.A (pyIter (.ref s.heap.objs.size)) (PIE X pins σ tg R) E { s with heap := s.heap.push { cls := .type "range", data := .fields #[.int lo t, .int hi u, .int 1 v] }, toks := tk } := by
  have I1 : Inv X pins σ H { s with heap := s.heap.push { cls := .type "range", data := .fields #[.int lo t, .int hi u, .int 1 v] }, toks := tk } := I.kept fun b o e => Heap.get?_push_of_some _ e
  have e1 : lo + ((0 : Nat) : Int) * 1 = lo := by simp
  have e2 : (((hi - lo).toNat : Nat) : Int) - ((0 : Nat) : Int) = Builtin.Range.rangeSize lo hi 1 := by rw [rangeSize_one]; split <;> omega
  have fp : ∀ b ∈ [(s.heap.push { cls := .type "range", data := .fields #[.int lo t, .int hi u, .int 1 v] }).objs.size], FpOk X pins H b := fun b hb => by
    have e : b = (s.heap.push { cls := .type "range", data := .fields #[.int lo t, .int hi u, .int 1 v] }).objs.size := by simpa using hb
    subst e
    exact I1.fpOk (Nat.le_refl _) (I1.hok.fresh (Nat.le_refl _))
  by_cases hsm : Builtin.Range.small lo hi 1 = true
  · refine wpAny_pyIter_range (IsRange.new ..) hsm ?_
    refine ⟨_, _, _, _, H, rfl, I1.kept (t' := tk) fun b o e => Heap.get?_push_of_some _ e, turn_range _ lo (hi - lo).toNat, ?_, fp, q⟩
    show IsRangeIter _ _ (lo + ((0 : Nat) : Int) * 1) ((((hi - lo).toNat : Nat) : Int) - ((0 : Nat) : Int)) 1
    rw [e1, e2]
    exact Heap.get?_push_size _ rfl
  · refine wpAny_pyIter_longrange (IsRange.new ..) (by simpa using hsm) ?_
    refine ⟨_, _, _, _, H, rfl, I1.kept (t' := tk) fun b o e => Heap.get?_push_of_some _ e, turn_long _ lo (hi - lo).toNat, ?_, fp, q⟩
    show IsLongIter _ _ (lo + ((0 : Nat) : Int) * 1) ((((hi - lo).toNat : Nat) : Int) - ((0 : Nat) : Int)) 1
    rw [e1, e2]
    exact Heap.get?_push_size _ rfl
def iRngL (ta : TA) : TI := fun σ H R => ta σ H fun vs H1 => ∃ i j : Int, vs = [.int i, .int j] ∧ R (Itr i (j - i).toNat) H1
theorem pi_rangeL {a b : Expr} {ta : TA} {p pos : Pos} (hg : Gl X "range") (hm : X.mg "range" = none) (ha : PA X [a, b] ta) (hs : starEach [a, b] X.env = [(false, eval a X.env), (false, eval b X.env)] := by rfl) (hs2 : starEach [b] X.env = [(false, eval b X.env)] := by rfl) :
    PI X tg (.Call (.Name "range" p) [a, b] [] pos) (iRngL ta) := by
  intro pins s σ H R I h
  refine Call_ (ld_blt I hg hm boot_range (PyProof.Rows.callWith_type1 (thn (ha pos pins s σ H _ I h) fun us s1 ⟨vs, H1, I1, r1, q1⟩ => ?_) (by rw [hs, hs2]) (by rw [hs2]; rfl)))
  obtain ⟨i, j, e, q⟩ := q1
  subst e
  cases r1 with
  | cons r rr =>
    cases rr with
    | cons r' rr =>
      cases rr
      obtain ⟨t, rfl⟩ := r
      obtain ⟨t', rfl⟩ := r'
      exact call_range_2 (range_itL I1 q)
end
end L2

set_option Elab.async false
set_option linter.all false
set_option maxRecDepth 100000
set_option maxHeartbeats 4000000
/-! ### comprehensions over what a call hands back -/
namespace L2
open PySem PySem.Spec PyProof.Rows
/-- the turns of a comprehension over what J hands out -/
def CompGo (J : It) (g : CA → TG) (tc : CA → TT) (te : CA → TE) (own : List Str) (caps : List Nat) (σ : St) (H1 : Hp) (Q : VK) : Prop := ∀ D, H1 D = none → ∀ k : CA, ∃ W : Nat → Nat → List V → St → Hp → Prop,
  (∃ m, W 0 m [] (cst own caps σ) (upd H1 D (.lst []))) ∧ ∀ i m ys τ H, W i m ys τ H → H D = some (.lst ys) ∧ ys.length < sizeLine ∧
    ((J.stop i H ∧ Q (.ref D) H) ∨ (J.go i H ∧ ∃ N : List V → St → Hp → Prop, (∀ ys τ H, N ys τ H → ∃ m', m' < m ∧ W (i + 1) m' ys τ H) ∧
      ∀ x H', J.yld i H x H' → g k x τ H' fun τ2 H2 => tc k τ2 H2 fun b H3 => if b = true then te k τ2 H3 fun y H4 => H4 D = some (.lst ys) ∧ N (ys ++ [y]) τ2 (upd H4 D (.lst (ys ++ [y]))) else N ys τ2 H3))
theorem tComp_i {wi : TI} {g : CA → TG} {tc : CA → TT} {te : CA → TE} {own : List Str} {caps : List Nat} {σ : St} {H : Hp} {Q : VK} (h : wi σ H fun J H1 => CompGo J g tc te own caps σ H1 Q) : tComp wi g tc te own caps σ H Q := h
theorem gName_i {i : Nat} {v : V} {σ : St} {H : Hp} {Q : St → Hp → Prop} (h : Q (σ.set i (some v)) H) : gName i v σ H Q := h
theorem tAsg_i {te : TE} {g : TG} {D : Ends} {σ : St} {H : Hp} (h : te σ H fun x H1 => g x σ H1 D.nx) : tAsg te g D σ H := h
theorem tIfS_i {c : TT} {t u : TS} {D : Ends} {σ : St} {H : Hp} (h : c σ H fun b H1 => if b = true then t D σ H1 else u D σ H1) : tIfS c t u D σ H := h
theorem tTest_i {t : TE} {σ : St} {H : Hp} {Q : Bool → Hp → Prop} (h : t σ H fun x H1 => ∃ c, x = .bl c ∧ Q c H1) : tTest t σ H Q := h
theorem go_list {K : PySem.W.Frag} {a : Addr} {xs : List V} {g : CA → TG} {tc : CA → TT} {te : CA → TE} {own : List Str} {caps : List Nat} {σ : St} {H1 : Hp} {Q : VK} (hz : xs.length < sizeLine) (Pv : Addr → Nat → List V → St → Hp → Prop)
    (h0 : ∀ D, H1 D = none → Pv D 0 [] (cst own caps σ) (upd H1 D (.lst [])))
    (hl : ∀ D i ys τ H, i ≤ xs.length → Pv D i ys τ H → SqL K H a xs ∧ H D = some (.lst ys) ∧ ys.length ≤ i)
    (hs : ∀ k D i x ys τ H, xs[i]? = some x → Pv D i ys τ H → g k x τ H fun τ2 H2 => tc k τ2 H2 fun b H3 => if b = true then te k τ2 H3 fun y H4 => H4 D = some (.lst ys) ∧ Pv D (i + 1) (ys ++ [y]) τ2 (upd H4 D (.lst (ys ++ [y]))) else Pv D (i + 1) ys τ2 H3)
    (hd : ∀ D ys τ H, H1 D = none → Pv D xs.length ys τ H → Q (.ref D) H) : CompGo (Itl K a) g tc te own caps σ H1 Q := comp_list hz Pv h0 hl hs hd
theorem go_range {lo : Int} {n : Nat} {g : CA → TG} {tc : CA → TT} {te : CA → TE} {own : List Str} {caps : List Nat} {σ : St} {H1 : Hp} {Q : VK} (hz : n < sizeLine) (Pv : Addr → Nat → List V → St → Hp → Prop)
    (h0 : ∀ D, H1 D = none → Pv D 0 [] (cst own caps σ) (upd H1 D (.lst [])))
    (hl : ∀ D i ys τ H, i ≤ n → Pv D i ys τ H → H D = some (.lst ys) ∧ ys.length ≤ i)
    (hs : ∀ k D i ys τ H, i < n → Pv D i ys τ H → g k (.int (lo + (i : Int))) τ H fun τ2 H2 => tc k τ2 H2 fun b H3 => if b = true then te k τ2 H3 fun y H4 => H4 D = some (.lst ys) ∧ Pv D (i + 1) (ys ++ [y]) τ2 (upd H4 D (.lst (ys ++ [y]))) else Pv D (i + 1) ys τ2 H3)
    (hd : ∀ D ys τ H, H1 D = none → Pv D n ys τ H → Q (.ref D) H) : CompGo (Itr lo n) g tc te own caps σ H1 Q := by
  intro D hD k
  refine ⟨fun i m ys τ H => m = n - i ∧ i ≤ n ∧ Pv D i ys τ H, ⟨n, by simp, Nat.zero_le _, h0 D hD⟩, ?_⟩
  rintro i m ys τ H ⟨rfl, hi, p⟩
  obtain ⟨e, z⟩ := hl D i ys τ H hi p
  refine ⟨e, by omega, ?_⟩
  by_cases hlt : i < n
  · refine .inr ⟨hlt, Pv D (i + 1), fun ys' τ' H' p' => ⟨n - (i + 1), by omega, rfl, hlt, p'⟩, fun x H' y => ?_⟩
    obtain ⟨rfl, rfl⟩ := y
    exact hs k D i ys τ _ hlt p
  · have e : i = n := by omega
    subst e
    exact .inl ⟨Nat.le_refl _, hd D ys τ H hD p⟩
end L2

set_option Elab.async false
set_option linter.all false
set_option maxRecDepth 100000
set_option maxHeartbeats 4000000
/-! ### boxes of cells, what is reached within them, and a walk with a heap of cells that may hold one twice -/
namespace Hex
structure Box (cs : List C) (m1 M1 m2 M2 : Int) : Prop where
  a1 : ∃ c ∈ cs, c.1 = m1
  a2 : ∀ c ∈ cs, m1 ≤ c.1
  b1 : ∃ c ∈ cs, c.1 = M1
  b2 : ∀ c ∈ cs, c.1 ≤ M1
  c1 : ∃ c ∈ cs, c.2 = m2
  c2 : ∀ c ∈ cs, m2 ≤ c.2
  d1 : ∃ c ∈ cs, c.2 = M2
  d2 : ∀ c ∈ cs, c.2 ≤ M2
theorem Box.uniq {cs : List C} {m1 M1 m2 M2 n1 N1 n2 N2 : Int} (a : Box cs m1 M1 m2 M2) (b : Box cs n1 N1 n2 N2) : m1 = n1 ∧ M1 = N1 ∧ m2 = n2 ∧ M2 = N2 := by
  obtain ⟨x, hx, ex⟩ := a.a1; obtain ⟨y, hy, ey⟩ := b.a1
  obtain ⟨x2, hx2, ex2⟩ := a.b1; obtain ⟨y2, hy2, ey2⟩ := b.b1
  obtain ⟨x3, hx3, ex3⟩ := a.c1; obtain ⟨y3, hy3, ey3⟩ := b.c1
  obtain ⟨x4, hx4, ex4⟩ := a.d1; obtain ⟨y4, hy4, ey4⟩ := b.d1
  have h1 := a.a2 y hy; have h2 := b.a2 x hx
  have h3 := a.b2 y2 hy2; have h4 := b.b2 x2 hx2
  have h5 := a.c2 y3 hy3; have h6 := b.c2 x3 hx3
  have h7 := a.d2 y4 hy4; have h8 := b.d2 x4 hx4
  omega
theorem Box.le {cs : List C} {m1 M1 m2 M2 : Int} (a : Box cs m1 M1 m2 M2) : m1 ≤ M1 ∧ m2 ≤ M2 := by
  obtain ⟨x, hx, ex⟩ := a.a1; obtain ⟨y, hy, ey⟩ := a.c1
  have h1 := a.b2 x hx; have h2 := a.d2 y hy
  omega
def Air (cs : List C) (m1 M1 m2 M2 : Int) (x : C) : Prop := (m1 - 1 ≤ x.1 ∧ x.1 ≤ M1 + 1 ∧ m2 - 1 ≤ x.2 ∧ x.2 ≤ M2 + 1) ∧ x ∉ cs
theorem up {S : C → Prop} {a b : Int} : ∀ {n : Nat}, (∀ k : Nat, k ≤ n → S (a, b + k)) → Reach S (a, b) (a, b + n)
  | 0, h => by have := h 0 (Nat.le_refl _); simp at this ⊢; exact .refl this
  | n + 1, h => .step (up (n := n) fun k hk => h k (by omega)) (mem_nb.mpr (by simp; omega)) (h (n + 1) (Nat.le_refl _))
theorem along {S : C → Prop} {a b : Int} : ∀ {n : Nat}, (∀ k : Nat, k ≤ n → S (a + k, b)) → Reach S (a, b) (a + n, b)
  | 0, h => by have := h 0 (Nat.le_refl _); simp at this ⊢; exact .refl this
  | n + 1, h => .step (along (n := n) fun k hk => h k (by omega)) (mem_nb.mpr (by simp; omega)) (h (n + 1) (Nat.le_refl _))
theorem up' {S : C → Prop} {a b c : Int} (hb : b ≤ c) (h : ∀ y, b ≤ y → y ≤ c → S (a, y)) : Reach S (a, b) (a, c) := by
  have := up (S := S) (a := a) (b := b) (n := (c - b).toNat) fun k hk => h _ (by omega) (by omega)
  rwa [show b + ((c - b).toNat : Int) = c by omega] at this
theorem along' {S : C → Prop} {a b c : Int} (hb : a ≤ c) (h : ∀ y, a ≤ y → y ≤ c → S (y, b)) : Reach S (a, b) (c, b) := by
  have := along (S := S) (a := a) (b := b) (n := (c - a).toNat) fun k hk => h _ (by omega) (by omega)
  rwa [show a + ((c - a).toNat : Int) = c by omega] at this
theorem ring {T cs : List C} {m1 M1 m2 M2 : Int} (B : Box cs m1 M1 m2 M2) (hT : ∀ x, x ∈ T ↔ Air cs m1 M1 m2 M2 x) {x : C} (hx : x ∈ T) (h : x.1 < m1 ∨ M1 < x.1 ∨ x.2 < m2 ∨ M2 < x.2) : Reach (· ∈ T) (m1 - 1, m2 - 1) x := by
  obtain ⟨a, b⟩ := x
  obtain ⟨⟨h1, h2, h3, h4⟩, h5⟩ := (hT _).mp hx
  obtain ⟨l1, l2⟩ := B.le
  simp only at *
  have L : ∀ y, m2 - 1 ≤ y → y ≤ M2 + 1 → (m1 - 1, y) ∈ T := fun y _ _ => (hT _).mpr ⟨by simp only; omega, fun z => by have := B.a2 _ z; simp only at this; omega⟩
  have R : ∀ y, m2 - 1 ≤ y → y ≤ M2 + 1 → (M1 + 1, y) ∈ T := fun y _ _ => (hT _).mpr ⟨by simp only; omega, fun z => by have := B.b2 _ z; simp only at this; omega⟩
  have D : ∀ y, m1 - 1 ≤ y → y ≤ M1 + 1 → (y, m2 - 1) ∈ T := fun y _ _ => (hT _).mpr ⟨by simp only; omega, fun z => by have := B.c2 _ z; simp only at this; omega⟩
  have U : ∀ y, m1 - 1 ≤ y → y ≤ M1 + 1 → (y, M2 + 1) ∈ T := fun y _ _ => (hT _).mpr ⟨by simp only; omega, fun z => by have := B.d2 _ z; simp only at this; omega⟩
  rcases h with h | h | h | h
  · have e : a = m1 - 1 := by omega
    subst e
    exact up' (by omega) fun y _ _ => L y (by omega) (by omega)
  · have e : a = M1 + 1 := by omega
    subst e
    exact (along' (by omega) fun y _ _ => D y (by omega) (by omega)).trans (up' (by omega) fun y _ _ => R y (by omega) (by omega))
  · have e : b = m2 - 1 := by omega
    subst e
    exact along' (by omega) fun y _ _ => D y (by omega) (by omega)
  · have e : b = M2 + 1 := by omega
    subst e
    exact (up' (by omega) fun y _ _ => L y (by omega) (by omega)).trans (along' (by omega) fun y _ _ => U y (by omega) (by omega))
theorem corner_air {cs : List C} {m1 M1 m2 M2 : Int} (B : Box cs m1 M1 m2 M2) : Air cs m1 M1 m2 M2 (m1 - 1, m2 - 1) := by
  obtain ⟨l1, l2⟩ := B.le
  exact ⟨by simp only; omega, fun z => by have := B.a2 _ z; simp only at this; omega⟩
/-! a grid -/
def row (a b : Int) (j : Nat) : List C := (List.range j).map fun q : Nat => (a, b + (q : Int))
def grid (a b : Int) (n i : Nat) : List C := (List.range i).flatMap fun p : Nat => row (a + (p : Int)) b n
theorem row_succ (a b : Int) (j : Nat) : row a b (j + 1) = row a b j ++ [(a, b + (j : Int))] := by unfold row; rw [List.range_succ, List.map_append]; rfl
theorem grid_succ (a b : Int) (n i : Nat) : grid a b n (i + 1) = grid a b n i ++ row (a + (i : Int)) b n := by unfold grid; rw [List.range_succ, List.flatMap_append]; simp
theorem row_len (a b : Int) (j : Nat) : (row a b j).length = j := by unfold row; simp
theorem grid_len (a b : Int) (n : Nat) : ∀ i, (grid a b n i).length = i * n
  | 0 => by unfold grid; simp
  | i + 1 => by rw [grid_succ, List.length_append, grid_len a b n i, row_len, Nat.succ_mul]
theorem mem_row {a b : Int} {j : Nat} {x : C} : x ∈ row a b j ↔ x.1 = a ∧ b ≤ x.2 ∧ x.2 < b + j := by
  unfold row
  rw [List.mem_map]
  constructor
  · rintro ⟨q, hq, rfl⟩
    have := List.mem_range.mp hq
    refine ⟨rfl, ?_, ?_⟩ <;> simp only <;> omega
  · rintro ⟨h1, h2, h3⟩
    obtain ⟨x1, x2⟩ := x
    simp only at *
    exact ⟨(x2 - b).toNat, List.mem_range.mpr (by omega), by rw [h1]; congr 1; omega⟩
theorem mem_grid {a b : Int} {n : Nat} {x : C} : ∀ {i : Nat}, x ∈ grid a b n i ↔ a ≤ x.1 ∧ x.1 < a + i ∧ b ≤ x.2 ∧ x.2 < b + n
  | 0 => by unfold grid; simp; omega
  | i + 1 => by
    rw [grid_succ, List.mem_append, mem_grid (i := i), mem_row]
    push_cast
    omega
theorem asc_row (a b : Int) : ∀ j, Asc (row a b j)
  | 0 => List.Pairwise.nil
  | j + 1 => by
    rw [row_succ]
    refine List.pairwise_append.mpr ⟨asc_row a b j, List.pairwise_singleton _ _, fun x hx y hy => ?_⟩
    rw [List.mem_singleton] at hy
    subst hy
    obtain ⟨h1, h2, h3⟩ := mem_row.mp hx
    exact .inr ⟨h1, h3⟩
theorem asc_grid (a b : Int) (n : Nat) : ∀ i, Asc (grid a b n i)
  | 0 => List.Pairwise.nil
  | i + 1 => by
    rw [grid_succ]
    refine List.pairwise_append.mpr ⟨asc_grid a b n i, asc_row _ _ _, fun x hx y hy => ?_⟩
    obtain ⟨h1, h2, h3, h4⟩ := mem_grid.mp hx
    obtain ⟨g1, g2, g3⟩ := mem_row.mp hy
    exact .inl (by omega)
/-! the first part -/
theorem firsts_cons {T : List C} {c : C} (aT : Asc T) (hc : c ∈ T) (hm : ∀ x ∈ T, ¬ Lt x c) : ∃ r, firsts T = c :: r := by
  have h1 : c ∈ firsts T := mem_firsts.mpr ⟨hc, fun d hd => hm d hd.left⟩
  have h2 := asc_firsts aT
  cases h : firsts T with
  | nil => rw [h] at h1; cases h1
  | cons f r =>
    rw [h] at h1 h2
    rcases List.mem_cons.mp h1 with rfl | h1
    · exact ⟨r, rfl⟩
    · exact absurd ((List.pairwise_cons.mp h2).1 c h1) (hm f (mem_firsts.mp (by rw [h]; exact List.mem_cons_self)).1)
theorem parts_cons {T : List C} {c : C} (aT : Asc T) (hc : c ∈ T) (hm : ∀ x ∈ T, ¬ Lt x c) : partsL T = comp T c :: (partsL T).tail := by
  obtain ⟨r, e⟩ := firsts_cons aT hc hm
  unfold partsL
  rw [e]
  rfl
theorem tail_mem {T : List C} {c : C} (aT : Asc T) (hc : c ∈ T) (hm : ∀ x ∈ T, ¬ Lt x c) (x : C) : x ∈ (partsL T).tail.flatten ↔ x ∈ T ∧ ¬ Reach (· ∈ T) c x := by
  have e := parts_cons aT hc hm
  have hn := parts_nodup aT
  have h1 := parts_mem aT x
  rw [e, List.flatten_cons] at hn h1
  rw [List.mem_append] at h1
  have h2 := (List.nodup_append.mp hn).2.2
  constructor
  · intro h
    exact ⟨h1.mp (.inr h), fun z => h2 x (mem_comp.mpr z) x h rfl⟩
  · rintro ⟨h, k⟩
    exact (h1.mpr h).resolve_left fun z => k (mem_comp.mp z)
theorem tail_nodup {T : List C} (aT : Asc T) : (partsL T).tail.flatten.Nodup := by
  have hn := parts_nodup aT
  cases h : partsL T with
  | nil => simp
  | cons p ps => rw [h, List.flatten_cons] at hn; exact (List.nodup_append.mp hn).2.1
theorem tail_get {T : List C} (aT : Asc T) {i : Nat} {p : List C} (h : (partsL T).tail[i]? = some p) : ∃ f r, (firsts T).tail[i]? = some f ∧ p = f :: r ∧ Asc p ∧ ∀ x ∈ p, Reach (· ∈ p) f x := by
  rw [List.getElem?_tail] at h
  obtain ⟨f, r, h1, h2, h3, h4, h5⟩ := parts_get aT h
  exact ⟨f, r, by rw [List.getElem?_tail]; exact h1, h3, h4, h5⟩
theorem tail_side {T : List C} (aT : Asc T) {c d : C} (hc : c ∈ (partsL T).tail.flatten) (hd : d ∈ (partsL T).tail.flatten) (h : d ∈ nb c) : ixP (partsL T).tail c = ixP (partsL T).tail d := by
  cases e : partsL T with
  | nil => rw [e] at hc; simp at hc
  | cons p ps =>
    have hn := parts_nodup aT
    have m1 := parts_mem aT c
    have m2 := parts_mem aT d
    rw [e, List.flatten_cons] at hn m1 m2
    rw [e, List.tail_cons] at hc hd
    have h2 := (List.nodup_append.mp hn).2.2
    have k := parts_side aT (m1.mp (List.mem_append_right _ hc)) (m2.mp (List.mem_append_right _ hd)) h
    rw [e] at k
    have c0 : c ∉ p := fun z => h2 c z c hc rfl
    have d0 : d ∉ p := fun z => h2 d z d hd rfl
    unfold ixP at k ⊢
    rw [List.findIdx_cons, List.findIdx_cons, decide_eq_false c0, decide_eq_false d0] at k
    simpa using k
/-! a walk whose heap may hold a cell twice -/
theorem nodup_len {α : Type} [DecidableEq α] : ∀ {l m : List α}, l.Nodup → (∀ x ∈ l, x ∈ m) → l.length ≤ m.length
  | [], _, _, _ => Nat.zero_le _
  | x :: l, m, hn, h => by
    have hx := h x List.mem_cons_self
    have hn' := List.nodup_cons.mp hn
    have := nodup_len (l := l) (m := m.erase x) hn'.2 fun y hy => (List.mem_erase_of_ne (by intro e; subst e; exact hn'.1 hy)).mpr (h y (List.mem_cons_of_mem _ hy))
    rw [List.length_erase_of_mem hx] at this
    have := List.length_pos_of_mem hx
    simp only [List.length_cons]
    omega
structure Hg (cs : List C) (a : C) (seen stk : List C) : Prop where
  sub : ∀ x ∈ stk, Reach (· ∈ cs) a x
  subs : ∀ x ∈ seen, Reach (· ∈ cs) a x
  start : a ∈ seen ∨ a ∈ stk
  clo : ∀ x ∈ seen, ∀ y ∈ nb x, y ∈ cs → y ∈ seen ∨ y ∈ stk
  occ : ∀ pre x post, stk = pre ++ x :: post → x ∈ seen → ∀ y ∈ nb x, y ∈ cs → y ∈ seen ∨ y ∈ post
  nd : seen.Nodup
theorem Hg.init {cs : List C} {a : C} (h : a ∈ cs) : Hg cs a [] [a] where
  sub := fun x hx => by rw [List.mem_singleton.mp hx]; exact .refl h
  subs := fun x hx => nomatch hx
  start := .inr List.mem_cons_self
  clo := fun x hx => nomatch hx
  occ := fun _ x _ _ hx => nomatch hx
  nd := List.nodup_nil
def seenW (seen : List C) (x : C) : List C := if x ∈ seen then seen else seen ++ [x]
def newN (cs seen : List C) (x : C) : List C := (nb x).filter fun y => decide (y ∈ cs ∧ y ∉ seenW seen x)
theorem mem_seenW {seen : List C} {x y : C} : y ∈ seenW seen x ↔ y ∈ seen ∨ y = x := by
  unfold seenW
  split
  · rename_i h
    exact ⟨.inl, fun z => z.elim id fun e => e ▸ h⟩
  · simp
theorem mem_newN {cs seen : List C} {x y : C} : y ∈ newN cs seen x ↔ y ∈ nb x ∧ y ∈ cs ∧ y ∉ seenW seen x := by unfold newN; simp
theorem Hg.step {cs : List C} {a x : C} {seen st : List C} (h : Hg cs a seen (st ++ [x])) : Hg cs a (seenW seen x) (st ++ newN cs seen x) where
  sub := fun y hy => by
    rcases List.mem_append.mp hy with hy | hy
    · exact h.sub y (List.mem_append_left _ hy)
    · obtain ⟨h1, h2, _⟩ := mem_newN.mp hy
      exact .step (h.sub x (by simp)) h1 h2
  subs := fun y hy => by
    rcases mem_seenW.mp hy with hy | rfl
    · exact h.subs y hy
    · exact h.sub y (by simp)
  start := by
    rcases h.start with z | z
    · exact .inl (mem_seenW.mpr (.inl z))
    · rcases List.mem_append.mp z with z | z
      · exact .inr (List.mem_append_left _ z)
      · exact .inl (mem_seenW.mpr (.inr (List.mem_singleton.mp z)))
  clo := fun y hy z hz hc => by
    by_cases k : z ∈ seenW seen x
    · exact .inl k
    · rcases mem_seenW.mp hy with hy | rfl
      · rcases h.clo y hy z hz hc with q | q
        · exact .inl (mem_seenW.mpr (.inl q))
        · rcases List.mem_append.mp q with q | q
          · exact .inr (List.mem_append_left _ q)
          · exact absurd (mem_seenW.mpr (.inr (List.mem_singleton.mp q))) k
      · exact .inr (List.mem_append_right _ (mem_newN.mpr ⟨hz, hc, k⟩))
  occ := fun pre y post e hy z hz hc => by
    by_cases k : z ∈ seenW seen x
    · exact .inl k
    refine .inr ?_
    rcases List.append_eq_append_iff.mp e with ⟨as, e1, e2⟩ | ⟨bs, e1, e2⟩
    · -- pre = st ++ as, newN = as ++ y :: post
      have : y ∈ newN cs seen x := by rw [e2]; simp
      exact absurd hy (mem_newN.mp this).2.2
    · -- st = pre ++ bs, y :: post = bs ++ newN
      cases bs with
      | nil =>
        have : y ∈ newN cs seen x := by rw [← List.nil_append (newN cs seen x), ← e2]; simp
        exact absurd hy (mem_newN.mp this).2.2
      | cons b bs =>
        rw [List.cons_append, List.cons.injEq] at e2
        obtain ⟨rfl, e2⟩ := e2
        rw [e2]
        rcases mem_seenW.mp hy with hy | rfl
        · rcases h.occ pre y (bs ++ [x]) (by rw [e1]; simp) hy z hz hc with q | q
          · exact absurd (mem_seenW.mpr (.inl q)) k
          · rcases List.mem_append.mp q with q | q
            · exact List.mem_append_left _ q
            · exact absurd (mem_seenW.mpr (.inr (List.mem_singleton.mp q))) k
        · exact List.mem_append_right _ (mem_newN.mpr ⟨hz, hc, k⟩)
  nd := by
    unfold seenW
    split
    · exact h.nd
    · rename_i k
      exact List.nodup_append.mpr ⟨h.nd, by simp, fun u hu v hv e => k (by rw [← List.mem_singleton.mp hv, ← e]; exact hu)⟩
theorem Hg.len {cs : List C} {a : C} {seen stk : List C} (h : Hg cs a seen stk) : seen.length ≤ cs.length :=
  nodup_len h.nd fun x hx => (h.subs x hx).right
theorem Hg.less {cs : List C} {a x : C} {seen st : List C} (h : Hg cs a seen (st ++ [x])) : 7 * (cs.length - (seenW seen x).length) + (st ++ newN cs seen x).length < 7 * (cs.length - seen.length) + (st ++ [x]).length := by
  by_cases k : x ∈ seen
  · have e : newN cs seen x = [] := by
      cases e : newN cs seen x with
      | nil => rfl
      | cons y r =>
        obtain ⟨h1, h2, h3⟩ := mem_newN.mp (by rw [e]; exact List.mem_cons_self)
        rcases h.occ st x [] rfl k y h1 h2 with q | q
        · exact absurd (mem_seenW.mpr (.inl q)) h3
        · cases q
    have e2 : seenW seen x = seen := if_pos k
    rw [e, e2]
    simp
  · have l := h.step.len
    have e2 : seenW seen x = seen ++ [x] := if_neg k
    have l2 : (newN cs seen x).length ≤ 6 := List.length_filter_le _ _
    rw [e2] at l ⊢
    simp only [List.length_append, List.length_singleton] at l ⊢
    omega
theorem Hg.all {cs : List C} {a : C} {seen : List C} (h : Hg cs a seen []) (x : C) : x ∈ seen ↔ Reach (· ∈ cs) a x :=
  ⟨h.subs x, fun r => r.closed (P := (· ∈ seen)) (h.start.resolve_right (fun z => nomatch z)) fun u v hu hv hc => (h.clo u hu v hv hc).resolve_right fun z => nomatch z⟩
end Hex

namespace My
open PySem L2 Hex
def top (i : Nat) : Stmt := PySem.Challenge.pw_sootring_k03_holes.main.body.getD i (.Pass ⟨0, 0, 0, 0⟩)
abbrev s_beside : Stmt := top 1
abbrev s_marked : Stmt := top 2
abbrev s_part_from : Stmt := top 3
abbrev s_parts : Stmt := top 4
abbrev s_cells_around : Stmt := top 5
abbrev s_holes : Stmt := top 6
abbrev s_law_cell : Stmt := top 8
abbrev s_law_purse : Stmt := top 9
abbrev s_law_take : Stmt := top 10
abbrev s_law_beside : Stmt := top 11
abbrev s_law_far : Stmt := top 12
abbrev s_law_whole : Stmt := top 13
abbrev s_law_same_cells : Stmt := top 14
abbrev s_law_cells : Stmt := top 15
abbrev s_law_reached : Stmt := top 16
abbrev s_law_due : Stmt := top 17
abbrev s_law_hangs : Stmt := top 18
abbrev s_law_good : Stmt := top 19
abbrev s_law : Stmt := top 20
theorem sc_beside : FnScope ["cell", "a", "b"] ["cell"] (defScope s_beside) := ⟨rfl, rfl, rfl, by decide +kernel, rfl, by decide +kernel, by decide +kernel⟩
theorem sc_marked : FnScope ["cells", "marks", "cell"] ["cells"] (defScope s_marked) := ⟨rfl, rfl, rfl, by decide +kernel, rfl, by decide +kernel, by decide +kernel⟩
theorem sc_part_from : FnScope ["start", "free", "found", "waiting", "here", "cell"] ["start", "free"] (defScope s_part_from) := ⟨rfl, rfl, rfl, by decide +kernel, rfl, by decide +kernel, by decide +kernel⟩
theorem sc_parts : FnScope ["cells", "free", "found", "cell"] ["cells"] (defScope s_parts) := ⟨rfl, rfl, rfl, by decide +kernel, rfl, by decide +kernel, by decide +kernel⟩
theorem sc_cells_around : FnScope ["cells", "firsts", "seconds", "taken", "found", "a", "b"] ["cells"] (defScope s_cells_around) := ⟨rfl, rfl, rfl, by decide +kernel, rfl, by decide +kernel, by decide +kernel⟩
theorem sc_holes : FnScope ["cells"] ["cells"] (defScope s_holes) := ⟨rfl, rfl, rfl, by decide +kernel, rfl, by decide +kernel, by decide +kernel⟩
theorem sc_law_cell : FnScope ["_law_script", "_law_k"] ["_law_script", "_law_k"] (defScope s_law_cell) := ⟨rfl, rfl, rfl, by decide +kernel, rfl, by decide +kernel, by decide +kernel⟩
theorem sc_law_purse : FnScope ["_law_cell_here", "_law_way", "_law_large"] ["_law_cell_here", "_law_way"] (defScope s_law_purse) := ⟨rfl, rfl, rfl, by decide +kernel, rfl, by decide +kernel, by decide +kernel⟩
theorem sc_law_take : FnScope ["_law_purse_here", "_law_many", "_law_digit"] ["_law_purse_here", "_law_many"] (defScope s_law_take) := ⟨rfl, rfl, rfl, by decide +kernel, rfl, by decide +kernel, by decide +kernel⟩
theorem sc_law_beside : FnScope ["_law_cell_here", "_law_a", "_law_b", "_law_near"] ["_law_cell_here"] (defScope s_law_beside) := ⟨rfl, rfl, rfl, by decide +kernel, rfl, by decide +kernel, by decide +kernel⟩
theorem sc_law_far : FnScope ["_law_cell_here"] ["_law_cell_here"] (defScope s_law_far) := ⟨rfl, rfl, rfl, by decide +kernel, rfl, by decide +kernel, by decide +kernel⟩
theorem sc_law_whole : FnScope ["_law_found"] ["_law_found"] (defScope s_law_whole) := ⟨rfl, rfl, rfl, by decide +kernel, rfl, by decide +kernel, by decide +kernel⟩
theorem sc_law_same_cells : FnScope ["_law_found", "_law_due_here", "_law_k"] ["_law_found", "_law_due_here"] (defScope s_law_same_cells) := ⟨rfl, rfl, rfl, by decide +kernel, rfl, by decide +kernel, by decide +kernel⟩
theorem sc_law_cells : FnScope ["_law_purse_here", "_law_cells_here", "_law_way", "_law_left", "_law_second", "_law_both", "_law_k", "_law_other"] ["_law_purse_here"] (defScope s_law_cells) := ⟨rfl, rfl, rfl, by decide +kernel, rfl, by decide +kernel, by decide +kernel⟩
theorem sc_law_reached : FnScope ["_law_cells_here", "_law_firsts", "_law_seconds", "_law_seen", "_law_todo", "_law_other", "_law_inside"] ["_law_cells_here"] (defScope s_law_reached) := ⟨rfl, rfl, rfl, by decide +kernel, rfl, by decide +kernel, by decide +kernel⟩
theorem sc_law_due : FnScope ["_law_cells_here", "_law_seen", "_law_firsts", "_law_seconds", "_law_due_here", "_law_a", "_law_b"] ["_law_cells_here"] (defScope s_law_due) := ⟨rfl, rfl, rfl, by decide +kernel, rfl, by decide +kernel, by decide +kernel⟩
theorem sc_law_hangs : FnScope ["_law_cells_here", "_law_seen", "_law_todo", "_law_one"] ["_law_cells_here"] (defScope s_law_hangs) := ⟨rfl, rfl, rfl, by decide +kernel, rfl, by decide +kernel, by decide +kernel⟩
theorem sc_law_good : FnScope ["_law_found", "_law_cells_here", "_law_due_here", "_law_home", "_law_k", "_law_hole", "_law_cell_here"] ["_law_found", "_law_cells_here"] (defScope s_law_good) := ⟨rfl, rfl, rfl, by decide +kernel, rfl, by decide +kernel, by decide +kernel⟩
theorem sc_law : FnScope ["_law_script", "_law_purse_here", "_law_right", "_law_low", "_law_cells_here", "_law_handed", "_law_found", "_law_hole"] ["_law_script"] (defScope s_law) := ⟨rfl, rfl, rfl, by decide +kernel, rfl, by decide +kernel, by decide +kernel⟩
/-! what the defs promise -/
theorem sml {n : Nat} (h : n ≤ 100000) : n < sizeLine := Nat.lt_of_le_of_lt h (by decide)
theorem take_snoc {α : Type} {l : List α} {i : Nat} {c : α} (h : l[i]? = some c) : l.take (i + 1) = l.take i ++ [c] := by rw [List.take_add_one, h]; rfl
theorem not_take {α : Type} {l : List α} {i : Nat} {c : α} (hn : l.Nodup) (h : l[i]? = some c) : c ∉ l.take i := by
  intro z
  obtain ⟨hi, e⟩ := List.getElem?_eq_some_iff.mp h
  have h1 := List.take_append_drop i l
  rw [← h1] at hn
  refine (List.nodup_append.mp hn).2.2 c z c ?_ rfl
  rw [List.drop_eq_getElem_cons hi, e]
  exact List.mem_cons_self
def WholeB (K : PySem.W.Frag) (H : Hp) (y : V) (r : Bool) : Prop := ∃ t b c, TyOf K H y t ∧ PySem.W.kitOne K t (.type "int") = some b ∧ PySem.W.kitOne K t (.type "bool") = some c ∧ r = (b && !c)
def sp_law_whole (K : PySem.W.Frag) : Sp := fun vs H Q _ => ∃ x r, vs = [x] ∧ WholeB K H x r ∧ Q (.bl r) H
def sp_beside (K : PySem.W.Frag) : Sp := fun vs H Q _ => ∃ v c, vs = [v] ∧ Ce H v c ∧ ∀ r ws H', Same H H' → H r = none → H' r = some (.lst ws) → Cs H' ws (nb c) → Q (.ref r) H'
def sp_law_beside (K : PySem.W.Frag) : Sp := sp_beside K
def sp_marked (K : PySem.W.Frag) : Sp := fun vs H Q _ => ∃ l us cs, vs = [.ref l] ∧ H l = some (.lst us) ∧ Cs H us cs ∧ cs.Nodup ∧ cs.length ≤ 100000 ∧ ∀ d H', Same H H' → H d = none → H' d = some (.dT (dk cs)) → Q (.ref d) H'
def sp_part_from (K : PySem.W.Frag) : Sp := fun vs H Q _ => ∃ v d a fr, vs = [v, .ref d] ∧ Ce H v a ∧ H d = some (.dT (dk fr)) ∧ fr.Nodup ∧ a ∈ fr ∧ fr.length ≤ 100000 ∧
  ∀ l ws H' fr' r, (∀ b o, b ≠ d → H b = some o → H' b = some o) → H' d = some (.dT (dk fr')) → H l = none → H' l = some (.lst ws) → Cs H' ws r → Asc r → (∀ x, x ∈ r ↔ Reach (· ∈ fr) a x) → fr'.Nodup → fr'.length ≤ fr.length → (∀ x, x ∈ fr' ↔ x ∈ fr ∧ ¬ Reach (· ∈ fr) a x) → Q (.ref l) H'
/-- a list of lists of cells, new ones -/
def Ps (H₀ H : Hp) (ws : List V) (ps : List (List C)) : Prop := Paired (fun (w : V) (p : List C) => ∃ a us, w = .ref a ∧ H₀ a = none ∧ H a = some (.lst us) ∧ Cs H us p) ws ps
def sp_parts (K : PySem.W.Frag) : Sp := fun vs H Q _ => ∃ l us cs, vs = [.ref l] ∧ H l = some (.lst us) ∧ Cs H us cs ∧ cs.Nodup ∧ cs.length ≤ 100000 ∧
  ∀ r ws H' T, Same H H' → H r = none → H' r = some (.lst ws) → Asc T → T.Perm cs → Ps H H' ws (partsL T) → (∀ w ∈ ws, w ≠ .ref r) → Q (.ref r) H'
def sp_law_cell (K : PySem.W.Frag) : Sp := fun vs H Q _ => ∃ (a : Addr) (ns : List Int) (k : Int), vs = [.ref a, .int k] ∧ SqL K H a (ns.map V.int) ∧ 0 ≤ k ∧ ∀ z : Int, Q (.int z) H
def sp_law_far (K : PySem.W.Frag) : Sp := fun vs H Q _ => ∃ c, vs = [.int c] ∧ ∀ z : Int, Q (.int z) H
def sp_law_purse (K : PySem.W.Frag) : Sp := fun vs H Q _ => ∃ c y : Int, vs = [.int c, .int y] ∧ 0 ≤ y ∧ y < 1000 ∧ ∀ p a t, H p = none → Q (.ref p) (upd H p (.lst [.int a, .int t]))
def sp_law_take (K : PySem.W.Frag) : Sp := fun vs H Q _ => ∃ p a t m, vs = [.ref p, .int m] ∧ H p = some (.lst [.int a, .int t]) ∧ 0 < m ∧ m < 1000000 ∧ ∀ a' z : Int, 0 ≤ z → z < m → Q (.int z) (upd H p (.lst [.int a', .int t]))
def sp_law_same_cells (K : PySem.W.Frag) : Sp := fun vs H Q _ => ∃ r d ws us nss, vs = [.ref r, .ref d] ∧ H r = some (.lst ws) ∧ Tps H ws nss ∧ H d = some (.lst us) ∧ Tps H us nss ∧ (∀ ns ∈ nss, ns.length = 2) ∧ nss.length ≤ 100000 ∧ Q (.bl true) H
def Fit (cs : List C) : Prop := cs ≠ [] ∧ cs.Nodup ∧ cs.length ≤ 1000 ∧ ∃ x y : Int, ∀ c ∈ cs, (x ≤ c.1 ∧ c.1 ≤ x + 200) ∧ y ≤ c.2 ∧ c.2 ≤ y + 200
def Airs (cs T : List C) (m1 M1 m2 M2 : Int) : Prop := Box cs m1 M1 m2 M2 ∧ Asc T ∧ T.length ≤ 100000 ∧ ∀ x, x ∈ T ↔ Air cs m1 M1 m2 M2 x
def sp_cells_around (K : PySem.W.Frag) : Sp := fun vs H Q _ => ∃ l us cs, vs = [.ref l] ∧ H l = some (.lst us) ∧ Cs H us cs ∧ Fit cs ∧ ∀ r ws H' T m1 M1 m2 M2, Same H H' → H r = none → H' r = some (.lst ws) → Cs H' ws T → Airs cs T m1 M1 m2 M2 → Q (.ref r) H'
def sp_holes (K : PySem.W.Frag) : Sp := fun vs H Q _ => ∃ l us cs, vs = [.ref l] ∧ H l = some (.lst us) ∧ Cs H us cs ∧ Fit cs ∧ ∀ r ws H' T m1 M1 m2 M2, Same H H' → H r = none → H' r = some (.lst ws) → Airs cs T m1 M1 m2 M2 → Ps H H' ws (partsL T).tail → (∀ w ∈ ws, w ≠ .ref r) → Q (.ref r) H'
def sp_law_reached (K : PySem.W.Frag) : Sp := fun vs H Q _ => ∃ l us cs T m1 M1 m2 M2, vs = [.ref l] ∧ H l = some (.lst us) ∧ Cs H us cs ∧ cs.length ≤ 1000 ∧ Airs cs T m1 M1 m2 M2 ∧ ∀ d H' fo, Same H H' → H d = none → H' d = some (.dT (dk fo)) → fo.Nodup → (∀ x, x ∈ fo ↔ Reach (· ∈ T) (m1 - 1, m2 - 1) x) → Q (.ref d) H'
def sp_law_due (K : PySem.W.Frag) : Sp := fun vs H Q _ => ∃ l us cs T m1 M1 m2 M2, vs = [.ref l] ∧ H l = some (.lst us) ∧ Cs H us cs ∧ cs.length ≤ 1000 ∧ Airs cs T m1 M1 m2 M2 ∧ ∀ d H' ds, Same H H' → H d = none → H' d = some (.dT (dk ds)) → ds.Nodup → (∀ x, x ∈ ds ↔ x ∈ T ∧ ¬ Reach (· ∈ T) (m1 - 1, m2 - 1) x) → Q (.ref d) H'
def sp_law_cells (K : PySem.W.Frag) : Sp := fun vs H Q _ => ∃ p a t, vs = [.ref p] ∧ H p = some (.lst [.int a, .int t]) ∧
  ∀ q ws cs H', But p H H' → H q = none → H' q = some (.lst ws) → Cs H' ws cs → cs.Nodup → cs.length ≤ 100 → cs ≠ [] → (∀ c ∈ cs, (-90 ≤ c.1 ∧ c.1 ≤ 90) ∧ -90 ≤ c.2 ∧ c.2 ≤ 90) → Q (.ref q) H'
def sp_law_hangs (K : PySem.W.Frag) : Sp := fun vs H Q _ => ∃ l us c r, vs = [.ref l] ∧ H l = some (.lst us) ∧ Cs H us (c :: r) ∧ (c :: r).Nodup ∧ (c :: r).length ≤ 100000 ∧ (∀ x ∈ c :: r, Reach (· ∈ c :: r) c x) ∧ ∀ H', Same H H' → Q (.bl true) H'
def sp_law_good (K : PySem.W.Frag) : Sp := fun vs H Q _ => ∃ f l ws us cs T m1 M1 m2 M2 H₀, vs = [.ref f, .ref l] ∧ H f = some (.lst ws) ∧ Ps H₀ H ws (partsL T).tail ∧ H l = some (.lst us) ∧ Cs H us cs ∧ cs.length ≤ 1000 ∧ Airs cs T m1 M1 m2 M2 ∧ ∀ H', Same H H' → Q (.bl true) H'
def spLaw (K : PySem.W.Frag) : Sp := fun vs H Q _ => ∃ (a : Addr) (ns : List Int), vs = [.ref a] ∧ SqL K H a (ns.map V.int) ∧ ns.length ≤ 63 ∧ ∀ H', Q (.bl true) H'
section
variable (K : PySem.W.Frag)
theorem kit_int_int : PySem.W.kitOne K (.type "int") (.type "int") = some true := kit_same K _
theorem kit_tuple_tuple : PySem.W.kitOne K (.type "tuple") (.type "tuple") = some true := kit_same K _
theorem kit_list_list : PySem.W.kitOne K (.type "list") (.type "list") = some true := kit_same K _
theorem kit_int_bool : PySem.W.kitOne K (.type "int") (.type "bool") = some false := by rfl
end
theorem wh_int {K : PySem.W.Frag} {H : Hp} (i : Int) : WholeB K H (.int i) true := ⟨_, _, _, .int i, kit_int_int K, kit_int_bool K, rfl⟩
theorem mul120 : IntMulOk (10 ^ Int.toNat 60) (10 ^ Int.toNat 60) := by
  unfold IntMulOk
  decide
structure Blt (mg : Str → Option Value) : Prop where
  bool_ : mg "bool" = none
  enumerate_ : mg "enumerate" = none
  int_ : mg "int" = none
  isinstance_ : mg "isinstance" = none
  len_ : mg "len" = none
  list_ : mg "list" = none
  max_ : mg "max" = none
  min_ : mg "min" = none
  range_ : mg "range" = none
  sorted_ : mg "sorted" = none
  tuple_ : mg "tuple" = none
section
variable {P : Program} {w : World} {K : PySem.W.Frag} {mg : Str → Option Value} {base : Heap}
theorem ok_law_whole {f : Addr} {fd : FuncData} (F : Fun K "_law_whole" "_law_whole" s_law_whole f fd) (bl : Blt mg)  : FnOk P w K mg base CX0 1 f fd ["_law_found"] (sp_law_whole K) := by
  refine F.ok sc_law_whole (fun vs H Q E h => ?_) (fun cdv A outer s H vs Q E hr h => ?_)
  · obtain ⟨x, r, rfl, _⟩ := h; rfl
  · obtain ⟨x, r, rfl, ⟨t, b, c, ty, h1, h2, rfl⟩, q⟩ := h
    refine ⟨_, (pss_one (ps_ret (pe_and (pe_callB call_isinst rfl bl.isinstance_ bt_isinstance (pa_cons (pv 0) (pa_cons (pe_bltn (v := .ty "int") rfl bl.int_ bt_int rfl) pa_nil))) (pe_one (pe_not (pe_callB call_isinst rfl bl.isinstance_ bt_isinstance (pa_cons (pv 0) (pa_cons (pe_bltn (v := .ty "bool") rfl bl.bool_ bt_bool rfl) pa_nil)))))))), ?_⟩
    refine ⟨_, rfl, x, t, "int", b, rfl, ty, h1, b, rfl, ?_⟩
    cases b with
    | false => exact iteF q
    | true => exact iteT ⟨_, rfl, x, t, "bool", c, rfl, ty, h2, c, rfl, by simpa using q⟩
theorem ok_beside {f : Addr} {fd : FuncData} (F : Fun K "beside" "beside" s_beside f fd) (bl : Blt mg)  : FnOk P w K mg base CX0 1 f fd ["cell"] (sp_beside K) := by
  refine F.ok sc_beside (fun vs H Q E h => ?_) (fun cdv A outer s H vs Q E hr h => ?_)
  · obtain ⟨x, r, rfl, _⟩ := h; rfl
  · obtain ⟨v, ⟨a, b⟩, rfl, ⟨p, rfl, hp⟩, q⟩ := h
    refine ⟨_, (pss_cons (ps_set (i := 1) sc_beside.nd rfl (Or.inl rfl) (pe_ix ix_tup (pv 0) pe_int (fun _ _ => rfl)))
    (pss_cons (ps_set (i := 2) sc_beside.nd rfl (Or.inl rfl) (pe_ix ix_tup (pv 0) pe_int (fun _ _ => rfl)))
    (pss_one (ps_ret (pe_lst (pa_cons (pe_tup (pa_cons (pe_op op_add (pv 1) pe_int) (pa_cons (pe_op op_sub (pv 2) pe_int) pa_nil))) (pa_cons (pe_tup (pa_cons (pe_op op_add (pv 1) pe_int) (pa_cons (pv 2) pa_nil))) (pa_cons (pe_tup (pa_cons (pv 1) (pa_cons (pe_op op_add (pv 2) pe_int) pa_nil))) (pa_cons (pe_tup (pa_cons (pe_op op_sub (pv 1) pe_int) (pa_cons (pe_op op_add (pv 2) pe_int) pa_nil))) (pa_cons (pe_tup (pa_cons (pe_op op_sub (pv 1) pe_int) (pa_cons (pv 2) pa_nil))) (pa_cons (pe_tup (pa_cons (pv 1) (pa_cons (pe_op op_sub (pv 2) pe_int) pa_nil))) pa_nil))))))))))), ?_⟩
    refine ⟨_, rfl, p, _, 0, .int a, rfl, rfl, SqT.of hp, rfl, _, rfl, p, _, 1, .int b, rfl, rfl, SqT.of hp, rfl, ?_⟩
    refine ⟨_, rfl, _, _, rfl, rfl, _, rfl, _, _, rfl, rfl, (by show 2 ≤ sizeLine; decide), fun p1 h1 => ?_⟩
    refine ⟨_, rfl, _, _, rfl, rfl, _, rfl, (by show 2 ≤ sizeLine; decide), fun p2 h2 => ?_⟩
    refine ⟨_, rfl, _, rfl, _, _, rfl, rfl, (by show 2 ≤ sizeLine; decide), fun p3 h3 => ?_⟩
    refine ⟨_, rfl, _, _, rfl, rfl, _, rfl, _, _, rfl, rfl, (by show 2 ≤ sizeLine; decide), fun p4 h4 => ?_⟩
    refine ⟨_, rfl, _, _, rfl, rfl, _, rfl, (by show 2 ≤ sizeLine; decide), fun p5 h5 => ?_⟩
    refine ⟨_, rfl, _, rfl, _, _, rfl, rfl, (by show 2 ≤ sizeLine; decide), fun p6 h6 => ?_⟩
    refine ⟨(by show 6 ≤ sizeLine; decide), fun r h7 => ?_⟩
    have s1 := Same.new h1 (.tup [.int (a + 1), .int (b - 1)])
    have s2 := Same.new h2 (.tup [.int (a + 1), .int b])
    have s3 := Same.new h3 (.tup [.int a, .int (b + 1)])
    have s4 := Same.new h4 (.tup [.int (a - 1), .int (b + 1)])
    have s5 := Same.new h5 (.tup [.int (a - 1), .int b])
    have s6 := Same.new h6 (.tup [.int a, .int (b - 1)])
    have s7 := Same.new h7 (.lst [.ref p1, .ref p2, .ref p3, .ref p4, .ref p5, .ref p6])
    have t6 := s7
    have t5 := s6.trans t6
    have t4 := s5.trans t5
    have t3 := s4.trans t4
    have t2 := s3.trans t3
    have t1 := s2.trans t2
    have t0 := s1.trans t1
    refine q r _ _ t0 ((s1.trans (s2.trans (s3.trans (s4.trans (s5.trans s6))))).free h7) upd_same ?_
    exact .cons ⟨p1, rfl, t1 _ _ upd_same⟩ (.cons ⟨p2, rfl, t2 _ _ upd_same⟩ (.cons ⟨p3, rfl, t3 _ _ upd_same⟩ (.cons ⟨p4, rfl, t4 _ _ upd_same⟩ (.cons ⟨p5, rfl, t5 _ _ upd_same⟩ (.cons ⟨p6, rfl, t6 _ _ upd_same⟩ .nil)))))
theorem ok_law_beside {f : Addr} {fd : FuncData} (F : Fun K "_law_beside" "_law_beside" s_law_beside f fd) (bl : Blt mg)  : FnOk P w K mg base CX0 1 f fd ["_law_cell_here"] (sp_law_beside K) := by
  refine F.ok sc_law_beside (fun vs H Q E h => ?_) (fun cdv A outer s H vs Q E hr h => ?_)
  · obtain ⟨x, r, rfl, _⟩ := h; rfl
  · obtain ⟨v, ⟨a, b⟩, rfl, ⟨p, rfl, hp⟩, q⟩ := h
    refine ⟨_, (pss_cons (ps_asg (pv 0) (pg_tup rfl (pgs_cons (pg_name (i := 1) sc_law_beside.nd rfl (Or.inl rfl)) (pgs_cons (pg_name (i := 2) sc_law_beside.nd rfl (Or.inl rfl)) pgs_nil))))
    (pss_cons (ps_set (i := 3) sc_law_beside.nd rfl (Or.inl rfl) (pe_lst (pa_cons (pe_tup (pa_cons (pe_op op_add (pv 1) pe_int) (pa_cons (pe_op op_sub (pv 2) pe_int) pa_nil))) (pa_cons (pe_tup (pa_cons (pe_op op_add (pv 1) pe_int) (pa_cons (pv 2) pa_nil))) (pa_cons (pe_tup (pa_cons (pv 1) (pa_cons (pe_op op_add (pv 2) pe_int) pa_nil))) pa_nil)))))
    (pss_one (ps_ret (pe_op op_cat (pv 3) (pe_lst (pa_cons (pe_tup (pa_cons (pe_op op_sub (pv 1) pe_int) (pa_cons (pe_op op_add (pv 2) pe_int) pa_nil))) (pa_cons (pe_tup (pa_cons (pe_op op_sub (pv 1) pe_int) (pa_cons (pv 2) pa_nil))) (pa_cons (pe_tup (pa_cons (pv 1) (pa_cons (pe_op op_sub (pv 2) pe_int) pa_nil))) pa_nil))))))))), ?_⟩
    refine ⟨_, rfl, p, _, rfl, SqT.of hp, rfl, _, _, rfl, _, _, rfl, rfl, ?_⟩
    refine ⟨_, rfl, _, _, rfl, rfl, _, rfl, _, _, rfl, rfl, (by show 2 ≤ sizeLine; decide), fun p1 h1 => ?_⟩
    refine ⟨_, rfl, _, _, rfl, rfl, _, rfl, (by show 2 ≤ sizeLine; decide), fun p2 h2 => ?_⟩
    refine ⟨_, rfl, _, rfl, _, _, rfl, rfl, (by show 2 ≤ sizeLine; decide), fun p3 h3 => ?_⟩
    refine ⟨(by show 3 ≤ sizeLine; decide), fun r1 hr1 => ?_⟩
    refine ⟨_, rfl, ?_⟩
    refine ⟨_, rfl, _, _, rfl, rfl, _, rfl, _, _, rfl, rfl, (by show 2 ≤ sizeLine; decide), fun p4 h4 => ?_⟩
    refine ⟨_, rfl, _, _, rfl, rfl, _, rfl, (by show 2 ≤ sizeLine; decide), fun p5 h5 => ?_⟩
    refine ⟨_, rfl, _, rfl, _, _, rfl, rfl, (by show 2 ≤ sizeLine; decide), fun p6 h6 => ?_⟩
    refine ⟨(by show 3 ≤ sizeLine; decide), fun r2 hr2 => ?_⟩
    have s1 := Same.new h1 (.tup [.int (a + 1), .int (b - 1)])
    have s2 := Same.new h2 (.tup [.int (a + 1), .int b])
    have s3 := Same.new h3 (.tup [.int a, .int (b + 1)])
    have s3' := Same.new hr1 (.lst [.ref p1, .ref p2, .ref p3])
    have s4 := Same.new h4 (.tup [.int (a - 1), .int (b + 1)])
    have s5 := Same.new h5 (.tup [.int (a - 1), .int b])
    have s6 := Same.new h6 (.tup [.int a, .int (b - 1)])
    have s7 := Same.new hr2 (.lst [.ref p4, .ref p5, .ref p6])
    refine ⟨r1, r2, _, _, rfl, rfl, (s4.trans (s5.trans (s6.trans s7))) _ _ upd_same, upd_same, (by show 3 + 3 ≤ sizeLine; decide), fun r h7 => ?_⟩
    have s8 := Same.new h7 (.lst ([.ref p1, .ref p2, .ref p3] ++ [.ref p4, .ref p5, .ref p6]))
    have t7 := s8
    have t6 := s7.trans t7
    have t5 := s6.trans t6
    have t4 := s5.trans t5
    have t3' := s4.trans t4
    have t3 := s3'.trans t3'
    have t2 := s3.trans t3
    have t1 := s2.trans t2
    have t0 := s1.trans t1
    refine q r _ _ t0 ((s1.trans (s2.trans (s3.trans (s3'.trans (s4.trans (s5.trans (s6.trans s7))))))).free h7) upd_same ?_
    exact .cons ⟨p1, rfl, t1 _ _ upd_same⟩ (.cons ⟨p2, rfl, t2 _ _ upd_same⟩ (.cons ⟨p3, rfl, t3 _ _ upd_same⟩ (.cons ⟨p4, rfl, t4 _ _ upd_same⟩ (.cons ⟨p5, rfl, t5 _ _ upd_same⟩ (.cons ⟨p6, rfl, t6 _ _ upd_same⟩ .nil)))))
theorem ok_marked {f : Addr} {fd : FuncData} (F : Fun K "marked" "marked" s_marked f fd) (bl : Blt mg)  : FnOk P w K mg base CX0 1 f fd ["cells"] (sp_marked K) := by
  refine F.ok sc_marked (fun vs H Q E h => ?_) (fun cdv A outer s H vs Q E hr h => ?_)
  · obtain ⟨x, r, _, rfl, _⟩ := h; rfl
  · obtain ⟨l, us, cs, rfl, hl, hc, hn, hz, q⟩ := h
    have hu := hu_of hr
    refine ⟨_, (pss_cons (ps_set (i := 1) sc_marked.nd rfl (Or.inl rfl) pe_dnewT)
    (pss_cons (ps_for PassesOwn.never rfl (pi_list (pv 0)) (pg_name (i := 2) sc_marked.nd rfl (Or.inl rfl))
      (pss_one (ps_dput hu (pv 1) (pv 2) pe_bl rfl)))
    (pss_one (ps_ret (pv 1))))), ?_⟩
    intro d hd
    have s0 := Same.new hd (.dT [])
    refine ⟨_, rfl, l, rfl, ⟨us, SqL.of (s0 _ _ hl)⟩, for_list (xs := us) (fun i σ H2 => Same H H2 ∧ H2 d = some (.dT (dk (cs.take i))) ∧ ∃ v, σ = [some (.ref l), some (.ref d), v]) ⟨s0, upd_same, _, rfl⟩ (fun i σ H2 _ h => SqL.of (h.1 _ _ hl)) ?_ ?_⟩
    · rintro i x σ H2 hi ⟨s2, hd2, v, rfl⟩
      obtain ⟨c, hci, ce⟩ := Cs.of (Tps.mono s2 hc) hi
      obtain ⟨p, rfl, hp⟩ := ce.key
      have hlen : (dk (cs.take i)).length < sizeLine := by rw [dv_len, List.length_take]; exact sml (by omega)
      refine ⟨_, rfl, _, rfl, d, _, rfl, DPut.t (k := kc c) hd2 hp hlen, ?_⟩
      refine ⟨fun b o z => ?_, ?_, _, rfl⟩
      · rw [upd_ne (ne_of_none z hd)]; exact s2 b o z
      · rw [upd_same, putK_dv (f := fun _ => .bl true) (not_take hn hci), take_snoc hci]
    · rintro σ H2 ⟨s2, hd2, v, rfl⟩
      refine ⟨_, rfl, q d H2 s2 hd ?_⟩
      rw [hd2, Cs.len hc, List.take_length]
def WP (H : Hp) (d f wt p : Addr) (a : C) (fr : List C) (m : Nat) (σ : St) (H2 : Hp) : Prop := ∃ frr fo wa fvs wvs v4 v5, m = 2 * frr.length + wa.length ∧ Dfs fr a frr fo wa [] [] ∧ frr.length + fo.length = fr.length ∧ wa.length ≤ fo.length ∧ But d H H2 ∧ H2 d = some (.dT (dk frr)) ∧
  H2 f = some (.lst fvs) ∧ Cs H2 fvs fo ∧ H2 wt = some (.lst wvs) ∧ Cs H2 wvs wa ∧ σ = [some (.ref p), some (.ref d), some (.ref f), some (.ref wt), v4, v5]
def WI (H : Hp) (d f wt p r : Addr) (a here : C) (fr : List C) (rs : List V) (v4 : Option V) (m i : Nat) (σ : St) (H2 : Hp) : Prop := ∃ frr fo wa fvs wvs v5, 2 * frr.length + wa.length < m ∧ Dfs fr a frr fo wa [here] ((nb here).drop i) ∧ frr.length + fo.length = fr.length ∧ wa.length ≤ fo.length ∧ But d H H2 ∧ H2 d = some (.dT (dk frr)) ∧
  H2 f = some (.lst fvs) ∧ Cs H2 fvs fo ∧ H2 wt = some (.lst wvs) ∧ Cs H2 wvs wa ∧ H2 r = some (.lst rs) ∧ Cs H2 rs (nb here) ∧ σ = [some (.ref p), some (.ref d), some (.ref f), some (.ref wt), v4, v5]
theorem ok_part_from {f : Addr} {fd : FuncData} (F : Fun K "part_from" "part_from" s_part_from f fd) (bl : Blt mg) (F_beside : Fn P w K mg base 1 "beside" ["cell"] (sp_beside K)) : FnOk P w K mg base CX0 2 f fd ["start", "free"] (sp_part_from K) := by
  refine F.ok sc_part_from (fun vs H Q E h => ?_) (fun cdv A outer s H vs Q E hr h => ?_)
  · obtain ⟨x, r, _, _, rfl, _⟩ := h; rfl
  · obtain ⟨v, d, a, fr, rfl, ⟨p, rfl, hp⟩, hd, hn, ha, hz, q⟩ := h
    have hu := hu_of hr
    refine ⟨_, (pss_cons (ps_expr (pe_dpopT hu (pv 1) (pv 0) ⟨rfl, rfl, rfl, rfl⟩))
    (pss_cons (ps_set (i := 2) sc_part_from.nd rfl (Or.inl rfl) (pe_lst (pa_cons (pv 0) pa_nil)))
    (pss_cons (ps_set (i := 3) sc_part_from.nd rfl (Or.inl rfl) (pe_lst (pa_cons (pv 0) pa_nil)))
    (pss_cons (ps_while PassesOwn.never (pt_truth (pv 3) (fun _ => rfl))
      (pss_cons (ps_set (i := 4) sc_part_from.nd rfl (Or.inl rfl) (pe_bm0 PySem.F.plainAttrs_list PySem.F.slot_list_pop PySem.F.type_list_pop mt_pop (pv 3)))
      (pss_one (ps_for PassesOwn.never rfl (pi_list (pe_callG F_beside (hr.mono (by decide)) rfl (pa_cons (pv 4) pa_nil))) (pg_name (i := 5) sc_part_from.nd rfl (Or.inl rfl))
        (pss_one (ps_if (pt_cmp (pc_din hu (pv 5) (pv 1)) (by with_unfolding_all rfl)) (pss_cons (ps_expr (pe_dpopT hu (pv 1) (pv 5) ⟨rfl, rfl, rfl, rfl⟩))
          (pss_cons (ps_expr (pe_bm PySem.F.plainAttrs_list PySem.F.slot_list_append PySem.F.type_list_append mt_append (pv 2) (pa_cons (pv 5) pa_nil)))
          (pss_one (ps_expr (pe_bm PySem.F.plainAttrs_list PySem.F.slot_list_append PySem.F.type_list_append mt_append (pv 3) (pa_cons (pv 5) pa_nil)))))) pss_nil))))))
    (pss_one (ps_ret (pe_callB call_sortedT rfl bl.sorted_ bt_sorted (pa_cons (pv 2) pa_nil)))))))), ?_⟩
    refine ⟨_, rfl, d, rfl, .inr ⟨_, .inl hd⟩, _, rfl, _, p, kc a, _, rfl, hd, hp, (by rw [valV_dv, if_pos ha]), ?_⟩
    rw [dropK_dv hn]
    refine ⟨_, rfl, (by show 1 ≤ sizeLine; decide), fun f hf => ?_⟩
    refine ⟨_, rfl, (by show 1 ≤ sizeLine; decide), fun wt hw => ?_⟩
    have hfd : f ≠ d := (ne_of_none upd_same hf).symm
    have hwf : wt ≠ f := (ne_of_none upd_same hw).symm
    have hwd : wt ≠ d := (ne_of_none (show upd (upd H d (.dT (dk (fr.erase a)))) f (.lst [.ref p]) d = some (.dT (dk (fr.erase a))) by rw [upd_ne hfd.symm, upd_same]) hw).symm
    have f0 : H f = none := by rw [upd_ne hfd] at hf; exact hf
    have w0 : H wt = none := by rw [upd_ne hwf, upd_ne hwd] at hw; exact hw
    have ts : TupS H (upd (upd (upd H d (.dT (dk (fr.erase a)))) f (.lst [.ref p])) wt (.lst [.ref p])) := (TupS.upd hd rfl).trans ((TupS.of (Same.new hf _)).trans (TupS.of (Same.new hw _)))
    refine ⟨WP H d f wt p a fr, ⟨_, fr.erase a, [a], [a], [.ref p], [.ref p], _, _, rfl, Dfs.init ha hn, ?_, Nat.le_refl _, ((But.upd _).at f0 _).at w0 _, ?_, ?_, .cons ⟨p, rfl, ts _ _ hp⟩ .nil, upd_same, .cons ⟨p, rfl, ts _ _ hp⟩ .nil, rfl⟩, ?_⟩
    · rw [List.length_erase_of_mem ha]
      have := List.length_pos_of_mem ha
      simp only [List.length_cons, List.length_nil]
      omega
    · rw [upd_ne hwd.symm, upd_ne hfd.symm, upd_same]
    · rw [upd_ne hwf.symm, upd_same]
    · rintro m σ H2 ⟨frr, fo, wa, fvs, wvs, v4, v5, rfl, D, hlen, hwl, s2, d2, f2, fc, w2, wc, rfl⟩
      refine ⟨_, rfl, _, .inl ⟨wvs, SqL.of w2, rfl⟩, ?_⟩
      rcases List.eq_nil_or_concat wa with rfl | ⟨wa', here, ew⟩
      · cases wc
        refine iteF ?_
        refine ⟨_, rfl, f, fvs, fo.map cl, rfl, SqL.of f2, fc, cl_ne _, fun l vs' nss' hl ht pm srt => ?_⟩
        obtain ⟨tt, rfl, pts⟩ := perm_map pm
        exact q l vs' _ frr tt (But.trans s2 (But.of (Same.new hl _))) ((Same.new hl _) _ _ d2) (s2.free (by rw [d2]; simp) hl) upd_same ht (asc_of srt pts D.ndf) (fun x => by rw [pts.mem_iff]; exact D.found x) D.ndr (by omega) D.left
      · rw [List.concat_eq_append] at ew
        subst ew
        obtain ⟨ws, hv, rfl, wc', hc⟩ := Cs.dropLast wc
        have e1 : (!(ws ++ [hv]).isEmpty) = true := by simp
        rw [e1]
        refine iteT ⟨fun σ' H' => ∃ m', m' < 2 * frr.length + (wa' ++ [here]).length ∧ WP H d f wt p a fr m' σ' H', fun _ _ h => h, ?_⟩
        refine ⟨_, rfl, .inl ⟨rfl, _, SqL.of w2⟩, wt, ws ++ [hv], hv, rfl, rfl, w2, (by simp), ?_⟩
        rw [List.dropLast_concat]
        have t3 : TupS H2 (upd H2 wt (.lst ws)) := TupS.upd w2 rfl
        refine ⟨_, rfl, hv, here, rfl, hc.mt t3, fun r rs H4 s4 hr4 l4 d4 => ?_⟩
        have rw' : r ≠ wt := (ne_of_none upd_same hr4).symm
        have rf : r ≠ f := (ne_of_none (show upd H2 wt (.lst ws) f = some (.lst fvs) by rw [upd_ne hwf.symm]; exact f2) hr4).symm
        have rd : r ≠ d := (ne_of_none (show upd H2 wt (.lst ws) d = some (.dT (dk frr)) by rw [upd_ne hwd.symm]; exact d2) hr4).symm
        have b4 : But d H H4 := (s2.at w0 _).trans (But.of s4)
        have r0 : H r = none := by
          have : H2 r = none := by rw [upd_ne rw'] at hr4; exact hr4
          exact s2.free (by rw [d2]; simp) this
        have t4 : TupS H2 H4 := t3.trans (TupS.of s4)
        refine ⟨r, rfl, ⟨rs, SqL.of l4⟩, for_list (xs := rs) (WI H d f wt p r a here fr rs (some hv) (2 * frr.length + (wa' ++ [here]).length)) ?_ (fun i σ H5 _ h => ?_) ?_ ?_⟩
        · refine ⟨frr, fo, wa', fvs, ws, _, by simp, by simpa using D.pop, hlen, by simp at hwl; omega, b4, s4 _ _ (by rw [upd_ne hwd.symm]; exact d2), s4 _ _ (by rw [upd_ne hwf.symm]; exact f2), Tps.mt t4 fc, s4 _ _ upd_same, Tps.mt t4 wc', l4, d4, rfl⟩
        · obtain ⟨_, _, _, _, _, _, _, _, _, _, _, _, _, _, _, _, z, _⟩ := h
          exact SqL.of z
        · rintro i x σ H5 hi ⟨fr5, fo5, wa5, fv5, wv5, v5, hm, D5, hl5, hw5, b5, d5, f5, fc5, w5, wc5, r5, rc5, rfl⟩
          obtain ⟨c, hci, ce⟩ := Cs.of rc5 hi
          obtain ⟨pc, rfl, hpc⟩ := ce.key
          have hcn : c ∈ nb here := List.mem_of_getElem? hci
          have ed : (nb here).drop i = c :: (nb here).drop (i + 1) := by
            obtain ⟨h1, h2⟩ := List.getElem?_eq_some_iff.mp hci
            rw [List.drop_eq_getElem_cons h1, h2]
          rw [ed] at D5
          refine ⟨_, rfl, _, rfl, d, _, rfl, DGet.t (k := kc c) d5 hpc, _, rfl, ?_⟩
          rw [valV_dv]
          by_cases hin : c ∈ fr5
          · rw [if_pos hin]
            refine iteT ?_
            refine ⟨_, rfl, d, rfl, .inr ⟨_, .inl d5⟩, _, rfl, _, pc, kc c, _, rfl, d5, hpc, (by rw [valV_dv, if_pos hin]), ?_⟩
            rw [dropK_dv D5.ndr]
            have f6 : upd H5 d (.dT (dk (fr5.erase c))) f = some (.lst fv5) := by rw [upd_ne hfd]; exact f5
            have fl := Cs.len fc5
            have wl := Cs.len wc5
            refine ⟨_, rfl, .inl ⟨rfl, _, SqL.of f6⟩, _, rfl, f, fv5, _, rfl, rfl, f6, sml (by omega), ?_⟩
            have w6 : upd (upd H5 d (.dT (dk (fr5.erase c)))) f (.lst (fv5 ++ [.ref pc])) wt = some (.lst wv5) := by rw [upd_ne hwf, upd_ne hwd]; exact w5
            refine ⟨_, rfl, .inl ⟨rfl, _, SqL.of w6⟩, _, rfl, wt, wv5, _, rfl, rfl, w6, sml (by omega), ?_⟩
            have t6 : TupS H5 (upd (upd (upd H5 d (.dT (dk (fr5.erase c)))) f (.lst (fv5 ++ [.ref pc]))) wt (.lst (wv5 ++ [.ref pc]))) := (TupS.upd d5 rfl).trans ((TupS.upd f6 rfl).trans (TupS.upd w6 rfl))
            have hpos := List.length_pos_of_mem hin
            refine ⟨fr5.erase c, fo5 ++ [c], wa5 ++ [c], fv5 ++ [.ref pc], wv5 ++ [.ref pc], _, ?_, D5.take hin hcn, ?_, ?_, (((b5.trans (But.upd _)).at f0 _).at w0 _), ?_, ?_, Cs.snoc (Tps.mt t6 fc5) (ce.mt t6), upd_same, Cs.snoc (Tps.mt t6 wc5) (ce.mt t6), ?_, Tps.mt t6 rc5, rfl⟩
            · rw [List.length_erase_of_mem hin, List.length_append, List.length_singleton]; omega
            · rw [List.length_erase_of_mem hin, List.length_append, List.length_singleton]; omega
            · rw [List.length_append, List.length_append, List.length_singleton]; omega
            · rw [upd_ne hwd.symm, upd_ne hfd.symm, upd_same]
            · rw [upd_ne hwf.symm, upd_same]
            · rw [upd_ne rw', upd_ne rf, upd_ne rd]; exact r5
          · rw [if_neg hin]
            refine iteF ?_
            exact ⟨fr5, fo5, wa5, fv5, wv5, _, hm, D5.skip hin, hl5, hw5, b5, d5, f5, fc5, w5, wc5, r5, rc5, rfl⟩
        · rintro σ H5 ⟨fr5, fo5, wa5, fv5, wv5, v5, hm, D5, hl5, hw5, b5, d5, f5, fc5, w5, wc5, r5, rc5, rfl⟩
          have e6 : (nb here).drop rs.length = [] := by rw [Cs.len d4]; exact List.drop_length
          rw [e6] at D5
          exact ⟨_, hm, fr5, fo5, wa5, fv5, wv5, _, _, rfl, D5.next, hl5, hw5, b5, d5, f5, fc5, w5, wc5, rfl⟩
theorem Ps.mono {H₀ H H' : Hp} {ws : List V} {ps : List (List C)} (k : ∀ a us, H₀ a = none → H a = some (.lst us) → H' a = some (.lst us)) (t : TupS H H') (h : Ps H₀ H ws ps) : Ps H₀ H' ws ps :=
  Paired.mapP h fun _ _ ⟨a, us, e, n, l, c⟩ => ⟨a, us, e, n, k a us n l, Tps.mt t c⟩
def WQ (H : Hp) (l d f st : Addr) (T : List C) (sv : List V) (i : Nat) (σ : St) (H2 : Hp) : Prop := ∃ fr fvs found v4, Pts T (T.take i) fr found ∧ fr.length ≤ 100000 ∧ Same H H2 ∧ H2 d = some (.dT (dk fr)) ∧ H2 f = some (.lst fvs) ∧ fvs.length ≤ i ∧ Ps H H2 fvs found ∧ (∀ w ∈ fvs, w ≠ .ref d ∧ w ≠ .ref f ∧ w ≠ .ref st) ∧
  H2 st = some (.lst sv) ∧ Cs H2 sv T ∧ σ = [some (.ref l), some (.ref d), some (.ref f), v4]
theorem ok_parts {f : Addr} {fd : FuncData} (F : Fun K "parts" "parts" s_parts f fd) (bl : Blt mg) (F_marked : Fn P w K mg base 1 "marked" ["cells"] (sp_marked K)) (F_part_from : Fn P w K mg base 2 "part_from" ["start", "free"] (sp_part_from K)) : FnOk P w K mg base CX0 3 f fd ["cells"] (sp_parts K) := by
  refine F.ok sc_parts (fun vs H Q E h => ?_) (fun cdv A outer s H vs Q E hr h => ?_)
  · obtain ⟨x, r, _, rfl, _⟩ := h; rfl
  · obtain ⟨l, us, cs, rfl, hl, hc, hn, hz, q⟩ := h
    have hu := hu_of hr
    refine ⟨_, (pss_cons (ps_set (i := 1) sc_parts.nd rfl (Or.inl rfl) (pe_callG F_marked (hr.mono (by decide)) rfl (pa_cons (pv 0) pa_nil)))
    (pss_cons (ps_set (i := 2) sc_parts.nd rfl (Or.inl rfl) (pe_lst pa_nil))
    (pss_cons (ps_for PassesOwn.never rfl (pi_list (pe_callB call_sortedT rfl bl.sorted_ bt_sorted (pa_cons (pv 0) pa_nil))) (pg_name (i := 3) sc_parts.nd rfl (Or.inl rfl))
      (pss_one (ps_if (pt_cmp (pc_din hu (pv 3) (pv 1)) (by with_unfolding_all rfl)) (pss_one (ps_expr (pe_bm PySem.F.plainAttrs_list PySem.F.slot_list_append PySem.F.type_list_append mt_append (pv 2) (pa_cons (pe_callG F_part_from (hr.mono (by decide)) rfl (pa_cons (pv 3) (pa_cons (pv 1) pa_nil))) pa_nil)))) pss_nil)))
    (pss_one (ps_ret (pv 2)))))), ?_⟩
    refine ⟨_, rfl, l, us, cs, rfl, hl, hc, hn, hz, fun d H1 s1 hd d1 => ?_⟩
    refine ⟨(by show 0 ≤ sizeLine; decide), fun f hf => ?_⟩
    have s2 := Same.new hf (.lst [])
    have hfd : f ≠ d := (ne_of_none d1 hf).symm
    have f0 : H f = none := s1.free hf
    refine ⟨_, rfl, l, us, cs.map cl, rfl, SqL.of (s2 _ _ (s1 _ _ hl)), Tps.mono (s1.trans s2) hc, cl_ne _, fun st sv nss' hst ht pm srt => ?_⟩
    obtain ⟨T, rfl, pT⟩ := perm_map pm
    have aT := asc_of srt pT hn
    have hsf : st ≠ f := (ne_of_none upd_same hst).symm
    have hsd : st ≠ d := (ne_of_none (s2 _ _ d1) hst).symm
    have st0 : H st = none := s1.free (s2.free hst)
    have s3 := Same.new hst (.lst sv)
    have zT : sv.length = T.length := Cs.len ht
    have hTl : T.length = cs.length := pT.length_eq
    refine ⟨st, rfl, ⟨sv, SqL.of upd_same⟩, for_list (xs := sv) (WQ H l d f st T sv) ?_ (fun i σ H5 _ h => ?_) ?_ ?_⟩
    · refine ⟨cs, [], [], _, Pts.init (fun x => by rw [pT.mem_iff]) hn, hz, s1.trans (s2.trans s3), s3 _ _ (s2 _ _ d1), s3 _ _ upd_same, Nat.zero_le _, .nil, fun _ z => (nomatch z), upd_same, ht, rfl⟩
    · obtain ⟨_, _, _, _, _, _, _, _, _, _, _, _, z, _⟩ := h
      exact SqL.of z
    · rintro i x σ H5 hi ⟨fr, fvs, found, v4, P5, z5, s5, d5, f5, lf5, ps5, nw5, st5, sc5, rfl⟩
      obtain ⟨c, hci, ce⟩ := Cs.of sc5 hi
      obtain ⟨pc, rfl, hpc⟩ := ce.key
      obtain ⟨hi1, hi2⟩ := List.getElem?_eq_some_iff.mp hci
      have eT : T = T.take i ++ c :: T.drop (i + 1) := by rw [← hi2, ← List.drop_eq_getElem_cons hi1, List.take_append_drop]
      refine ⟨_, rfl, _, rfl, d, _, rfl, DGet.t (k := kc c) d5 hpc, _, rfl, ?_⟩
      rw [valV_dv]
      by_cases hin : c ∈ fr
      · rw [if_pos hin]
        refine iteT ?_
        refine ⟨_, rfl, .inl ⟨rfl, _, SqL.of f5⟩, ?_⟩
        refine ⟨_, rfl, _, rfl, .ref pc, d, c, fr, rfl, ⟨pc, rfl, hpc⟩, d5, P5.nd, hin, z5, fun pl pv H6 fr' pr b6 d6 hpl l6 c6 a6 m6 n6 zz6 e6 => ?_⟩
        have f6 : H6 f = some (.lst fvs) := b6 _ _ hfd f5
        refine ⟨f, fvs, _, rfl, rfl, f6, sml (by omega), ?_⟩
        have h5f : H5 pl = none := hpl
        have hplf : pl ≠ f := (ne_of_none f5 h5f).symm
        have hpld : pl ≠ d := (ne_of_none d5 h5f).symm
        have hpls : pl ≠ st := (ne_of_none st5 h5f).symm
        have s6 : Same H H6 := fun b o z => b6 b o (ne_of_none z hd) (s5 b o z)
        have t6 : TupS H5 H6 := fun b xs z => b6 b _ (by rintro rfl; rw [d5] at z; cases z) z
        have t7 : TupS H6 (upd H6 f (.lst (fvs ++ [.ref pl]))) := TupS.upd f6 rfl
        refine ⟨fr', fvs ++ [.ref pl], found ++ [pr], _, ?_, Nat.le_trans zz6 z5, s6.at f0 _, ?_, upd_same, by simp; omega, ?_, ?_, ?_, Tps.mt (t6.trans t7) sc5, rfl⟩
        · rw [take_snoc hci]
          exact P5.take aT eT hin a6 m6 e6 n6
        · rw [upd_ne hfd.symm]; exact d6
        · refine paired_append (.cons ⟨pl, pv, rfl, s5.free h5f, by rw [upd_ne hplf]; exact l6, Tps.mt t7 c6⟩ .nil) ?_
          have key : ∀ {vs : List V} {ps : List (List C)}, Ps H H5 vs ps → (∀ w ∈ vs, w ≠ .ref d ∧ w ≠ .ref f ∧ w ≠ .ref st) → Ps H (upd H6 f (.lst (fvs ++ [.ref pl]))) vs ps := by
            intro vs ps hp
            induction hp with
            | nil => intro _; exact .nil
            | cons hh _ ih =>
              intro hw
              obtain ⟨a, us, rfl, n, la, ca⟩ := hh
              obtain ⟨g1, g2, g3⟩ := hw _ List.mem_cons_self
              refine .cons ⟨a, us, rfl, n, ?_, Tps.mt (t6.trans t7) ca⟩ (ih fun w hw' => hw w (List.mem_cons_of_mem _ hw'))
              rw [upd_ne (fun z => g2 (by rw [z]))]
              exact b6 _ _ (fun z => g1 (by rw [z])) la
          exact key ps5 nw5
        · intro w hw
          rcases List.mem_append.mp hw with hw | hw
          · exact nw5 w hw
          · rw [List.mem_singleton.mp hw]
            refine ⟨fun z => ?_, fun z => ?_, fun z => ?_⟩
            · injection z with z; exact hpld z
            · injection z with z; exact hplf z
            · injection z with z; exact hpls z
        · rw [upd_ne hsf]; exact b6 _ _ hsd st5
      · rw [if_neg hin]
        refine iteF ?_
        refine ⟨fr, fvs, found, _, ?_, z5, s5, d5, f5, Nat.le_succ_of_le lf5, ps5, nw5, st5, sc5, rfl⟩
        rw [take_snoc hci]
        exact P5.skip aT eT hin
    · rintro σ H5 ⟨fr, fvs, found, v4, P5, z5, s5, d5, f5, lf5, ps5, nw5, st5, sc5, rfl⟩
      refine ⟨_, rfl, q f fvs H5 T s5 f0 f5 aT pT ?_ fun w hw => (nw5 w hw).2.1⟩
      rw [zT, List.take_length] at P5
      rw [← P5.all]
      exact ps5
theorem ok_law_cell {f : Addr} {fd : FuncData} (F : Fun K "_law_cell" "_law_cell" s_law_cell f fd) (bl : Blt mg)  : FnOk P w K mg base CX0 1 f fd ["_law_script", "_law_k"] (sp_law_cell K) := by
  refine F.ok sc_law_cell (fun vs H Q E h => ?_) (fun cdv A outer s H vs Q E hr h => ?_)
  · obtain ⟨x, r, _, rfl, _⟩ := h; rfl
  · obtain ⟨a, ns, k, rfl, hS, h0, q⟩ := h
    refine ⟨_, (pss_cons (ps_if (pt_cmpR op_lt (pv 1) (pe_callB call_len_seq rfl bl.len_ bt_len (pa_cons (pv 0) pa_nil)) (nomark _)) (pss_one (ps_ret (pe_ix ix_list (pv 0) (pv 1) (fun _ _ => rfl)))) pss_nil)
    (pss_one (ps_ret pe_int))), ?_⟩
    refine ⟨_, rfl, _, rfl, a, _, rfl, .inl hS, _, _, rfl, rfl, _, rfl, ?_⟩
    refine ite2 (fun c => ?_) (fun c => q 0)
    have c' : k < ((ns.map V.int).length : Int) := of_decide_eq_true c
    rw [List.length_map] at c'
    have hk : k.toNat < ns.length := by omega
    have ek : ((k.toNat : Nat) : Int) = k := by omega
    have z : atI (ns.map V.int) ((k.toNat : Nat) : Int) = some (.int ns[k.toNat]) := atI_nat (by rw [List.getElem?_map, List.getElem?_eq_getElem hk] <;> rfl)
    rw [ek] at z
    exact ⟨_, rfl, _, rfl, a, _, k, _, rfl, rfl, hS, z, q _⟩
theorem ok_law_far {f : Addr} {fd : FuncData} (F : Fun K "_law_far" "_law_far" s_law_far f fd) (bl : Blt mg)  : FnOk P w K mg base CX0 1 f fd ["_law_cell_here"] (sp_law_far K) := by
  refine F.ok sc_law_far (fun vs H Q E h => ?_) (fun cdv A outer s H vs Q E hr h => ?_)
  · obtain ⟨x, rfl, _⟩ := h; rfl
  · obtain ⟨c, rfl, q⟩ := h
    refine ⟨_, (pss_cons (ps_if (pt_cmpR op_eq (pe_op op_mod (pv 0) pe_int) pe_int (nomark _)) (pss_one (ps_ret (pe_op op_sub (pe_op op_mod (pe_op op_fdiv (pv 0) pe_int) pe_int) pe_int))) pss_nil)
    (pss_one (ps_ret (pe_op op_sub (pe_op op_mod (pe_op op_fdiv (pv 0) pe_int) (pe_op op_mul pe_int (pe_op op_pow pe_int pe_int))) (pe_op op_pow pe_int pe_int))))), ?_⟩
    refine ⟨_, rfl, _, _, rfl, rfl, (by show (0 : Int) < 3; decide), rfl, _, rfl, ?_⟩
    refine ite2 (fun _ => ?_) (fun _ => ?_)
    · exact ⟨_, rfl, _, _, rfl, rfl, ⟨by decide, by decide⟩, _, _, rfl, rfl, (by show (0 : Int) < 9; decide), _, _, rfl, rfl, q _⟩
    · exact ⟨_, rfl, _, _, rfl, rfl, ⟨by decide, by decide⟩, _, _, rfl, rfl, ⟨by decide, by decide, by decide⟩, _, _, rfl, rfl, .inl ⟨by decide, by decide⟩, _, _, rfl, rfl, (by show (0 : Int) < 2 * 10 ^ Int.toNat 59; decide), _, _, rfl, rfl, ⟨by decide, by decide, by decide⟩, _, _, rfl, rfl, q _⟩
theorem tps_get {H : Hp} : ∀ {ws : List V} {nss : List (List Int)} {i : Nat}, Tps H ws nss → i < nss.length → ∃ v ns, ws[i]? = some v ∧ nss[i]? = some ns ∧ Tp H v ns
  | _, _, _, .nil, h => by simp at h
  | _, _, 0, .cons r _, _ => ⟨_, _, rfl, rfl, r⟩
  | _, _, i + 1, .cons _ t, h => by
    obtain ⟨v, ns, h1, h2, h3⟩ := tps_get (i := i) t (by simpa using h)
    exact ⟨v, ns, by simpa using h1, by simpa using h2, h3⟩
theorem ok_law_same_cells {f : Addr} {fd : FuncData} (F : Fun K "_law_same_cells" "_law_same_cells" s_law_same_cells f fd) (bl : Blt mg) (F_law_whole : Fn P w K mg base 1 "_law_whole" ["_law_found"] (sp_law_whole K)) : FnOk P w K mg base CX0 2 f fd ["_law_found", "_law_due_here"] (sp_law_same_cells K) := by
  refine F.ok sc_law_same_cells (fun vs H Q E h => ?_) (fun cdv A outer s H vs Q E hr h => ?_)
  · obtain ⟨x, r, _, _, _, rfl, _⟩ := h; rfl
  · obtain ⟨r, d, ws, us, nss, rfl, hr1, hw, hd, hu, h2, hlen, q⟩ := h
    have lw : ws.length = nss.length := Paired.length hw
    have lu : us.length = nss.length := Paired.length hu
    refine ⟨_, (pss_cons (ps_if (PW.pt (pw_or (pt_not (pt_val (pe_callB call_isinst rfl bl.isinstance_ bt_isinstance (pa_cons (pv 0) (pa_cons (pe_bltn (v := .ty "list") rfl bl.list_ bt_list rfl) pa_nil))))) (pw_or1 (pt_cmpR op_ne (pe_callB call_len_seq rfl bl.len_ bt_len (pa_cons (pv 0) pa_nil)) (pe_callB call_len_seq rfl bl.len_ bt_len (pa_cons (pv 1) pa_nil)) (nomark _))))) (pss_one (ps_ret pe_bl)) pss_nil)
    (pss_cons (ps_for PassesOwn.never rfl (pi_range1 rfl bl.range_ (pa_cons (pe_callB call_len_seq rfl bl.len_ bt_len (pa_cons (pv 1) pa_nil)) pa_nil)) (pg_name (i := 2) sc_law_same_cells.nd rfl (Or.inl rfl))
      (pss_cons (ps_if (PW.pt (pw_or (pt_not (pt_val (pe_callB call_isinst rfl bl.isinstance_ bt_isinstance (pa_cons (pe_ix ix_list (pv 0) (pv 2) (fun _ _ => rfl)) (pa_cons (pe_bltn (v := .ty "tuple") rfl bl.tuple_ bt_tuple rfl) pa_nil))))) (pw_or1 (pt_cmpR op_ne (pe_callB call_len_seq rfl bl.len_ bt_len (pa_cons (pe_ix ix_list (pv 0) (pv 2) (fun _ _ => rfl)) pa_nil)) pe_int (nomark _))))) (pss_one (ps_ret pe_bl)) pss_nil)
      (pss_one (ps_if (PW.pt (pw_or (pt_not (pt_val (pe_callG F_law_whole (hr.mono (by decide)) rfl (pa_cons (pe_ix ix_tup (pe_ix ix_list (pv 0) (pv 2) (fun _ _ => rfl)) pe_int (fun _ _ => rfl)) pa_nil)))) (pw_or (pt_not (pt_val (pe_callG F_law_whole (hr.mono (by decide)) rfl (pa_cons (pe_ix ix_tup (pe_ix ix_list (pv 0) (pv 2) (fun _ _ => rfl)) pe_int (fun _ _ => rfl)) pa_nil)))) (pw_or1 (pt_cmpR (op_neT (hu64 hr)) (pe_ix ix_list (pv 0) (pv 2) (fun _ _ => rfl)) (pe_ix ix_list (pv 1) (pv 2) (fun _ _ => rfl)) (nomark _)))))) (pss_one (ps_ret pe_bl)) pss_nil))))
    (pss_one (ps_ret pe_bl)))), ?_⟩
    refine ⟨_, rfl, _, _, "list", true, rfl, .lst hr1, kit_list_list K, true, rfl, iteF ?_⟩
    refine ⟨_, rfl, r, _, rfl, .inl (SqL.of hr1), _, rfl, d, _, rfl, .inl (SqL.of hd), rfl, _, rfl, ?_⟩
    refine iteNS (by rw [lw, lu]) ?_
    refine ⟨_, rfl, d, _, rfl, .inl (SqL.of hd), _, rfl, (by omega), (by omega), for_range (fun i σ H2 => H2 = H ∧ ∃ v, σ = [some (.ref r), some (.ref d), v]) ⟨rfl, _, rfl⟩ ?_ ?_⟩
    · rintro i σ H2 hi ⟨rfl, v, rfl⟩
      have hi' : i < nss.length := by omega
      obtain ⟨x, ns, hx, hn, ⟨px, rfl, hpx⟩⟩ := tps_get hw hi'
      obtain ⟨y, ms, hy, hm, ⟨py, rfl, hpy⟩⟩ := tps_get hu hi'
      have e : ns = ms := by rw [hn] at hm; exact Option.some.inj hm
      subst e
      have l2 : ns.length = 2 := h2 ns (List.mem_of_getElem? hn)
      obtain ⟨a, b, rfl⟩ : ∃ a b, ns = [a, b] := by
        match ns, l2 with
        | [a, b], _ => exact ⟨a, b, rfl⟩
      have ax : atI ws (0 + (i : Int)) = some (.ref px) := by rw [Int.zero_add]; exact atI_nat hx
      have ay : atI us (0 + (i : Int)) = some (.ref py) := by rw [Int.zero_add]; exact atI_nat hy
      refine ⟨_, rfl, _, rfl, r, _, _, _, rfl, rfl, SqL.of hr1, ax, _, _, "tuple", true, rfl, .tup hpx, kit_tuple_tuple K, true, rfl, iteF ?_⟩
      refine ⟨_, rfl, _, rfl, r, _, _, _, rfl, rfl, SqL.of hr1, ax, px, _, rfl, .inr (SqT.of hpx), rfl, _, rfl, iteF ?_⟩
      refine ⟨_, rfl, _, rfl, r, _, _, _, rfl, rfl, SqL.of hr1, ax, px, _, 0, .int a, rfl, rfl, SqT.of hpx, rfl, _, true, rfl, wh_int a, true, rfl, iteF ?_⟩
      refine ⟨_, rfl, _, rfl, r, _, _, _, rfl, rfl, SqL.of hr1, ax, px, _, 1, .int b, rfl, rfl, SqT.of hpx, rfl, _, true, rfl, wh_int b, true, rfl, iteF ?_⟩
      refine ⟨_, rfl, _, rfl, r, _, _, _, rfl, rfl, SqL.of hr1, ax, _, rfl, _, rfl, d, _, _, _, rfl, rfl, SqL.of hd, ay, [a, b], [a, b], ⟨px, rfl, hpx⟩, ⟨py, rfl, hpy⟩, _, rfl, ?_⟩
      refine iteNS rfl ?_
      exact ⟨rfl, _, rfl⟩
    · rintro σ H2 ⟨rfl, v, rfl⟩
      exact q
theorem ok_law_purse {f : Addr} {fd : FuncData} (F : Fun K "_law_purse" "_law_purse" s_law_purse f fd) (bl : Blt mg)  : FnOk P w K mg base CX0 1 f fd ["_law_cell_here", "_law_way"] (sp_law_purse K) := by
  refine F.ok sc_law_purse (fun vs H Q E h => ?_) (fun cdv A outer s H vs Q E hr h => ?_)
  · obtain ⟨x, _, rfl, _⟩ := h; rfl
  · obtain ⟨c, y, rfl, y0, y1, q⟩ := h
    refine ⟨_, (pss_cons (ps_set (i := 2) sc_law_purse.nd rfl (Or.inl rfl) (pe_op op_mod (pv 0) (pe_op op_mulB (pe_op op_pow pe_int pe_int) (pe_op op_pow pe_int pe_int))))
    (pss_cons (ps_if (pt_cmpR op_ge (pv 2) (pe_op op_pow pe_int pe_int) (nomark _)) (pss_one (ps_ret (pe_lst (pa_cons (pv 2) (pa_cons pe_int pa_nil))))) pss_nil)
    (pss_one (ps_ret (pe_lst (pa_cons (pe_op op_add (pe_op op_mod (pv 0) pe_int) (pe_op op_mul (pe_op op_mul pe_int (pv 1)) (pv 1))) (pa_cons pe_int pa_nil))))))), ?_⟩
    refine ⟨_, rfl, _, _, rfl, rfl, ⟨by decide, by decide, by decide⟩, _, _, rfl, rfl, ⟨by decide, by decide, by decide⟩, _, _, rfl, rfl, mul120, _, _, rfl, rfl, (by show (0 : Int) < 10 ^ Int.toNat 60 * 10 ^ Int.toNat 60; decide), ?_⟩
    refine ⟨_, rfl, _, _, rfl, rfl, ⟨by decide, by decide, by decide⟩, _, _, rfl, rfl, _, rfl, ?_⟩
    refine ite2 (fun _ => ?_) (fun _ => ?_)
    · exact ⟨_, rfl, (by show 2 ≤ sizeLine; decide), fun p hp => q p _ _ hp⟩
    · exact ⟨_, rfl, _, _, rfl, rfl, (by show (0 : Int) < 2147483647; decide), _, rfl, _, _, rfl, rfl, .inl ⟨by decide, by decide⟩, _, rfl, _, _, rfl, rfl, .inr ⟨by omega, by omega⟩, _, _, rfl, rfl, (by show 2 ≤ sizeLine; decide), fun p hp => q p _ _ hp⟩
theorem ok_law_take {f : Addr} {fd : FuncData} (F : Fun K "_law_take" "_law_take" s_law_take f fd) (bl : Blt mg)  : FnOk P w K mg base CX0 1 f fd ["_law_purse_here", "_law_many"] (sp_law_take K) := by
  refine F.ok sc_law_take (fun vs H Q E h => ?_) (fun cdv A outer s H vs Q E hr h => ?_)
  · obtain ⟨x, _, _, _, rfl, _⟩ := h; rfl
  · obtain ⟨p, a, t, m, rfl, hp, m0, m1, q⟩ := h
    refine ⟨_, (pss_cons (ps_if (pt_cmpR op_eq (pe_ix ix_list (pv 0) pe_int (fun _ _ => rfl)) pe_int (nomark _)) (pss_cons (ps_set (i := 2) sc_law_take.nd rfl (Or.inl rfl) (pe_op op_mod (pe_ix ix_list (pv 0) pe_int (fun _ _ => rfl)) (pv 1)))
      (pss_cons (ps_asg (pe_op op_fdiv (pe_ix ix_list (pv 0) pe_int (fun _ _ => rfl)) (pv 1)) (pg_sub (pv 0) pe_int set_list))
      (pss_one (ps_ret (pv 2))))) pss_nil)
    (pss_cons (ps_asg (pe_op op_mod (pe_op op_add (pe_op op_mul (pe_ix ix_list (pv 0) pe_int (fun _ _ => rfl)) pe_int) pe_int) pe_int) (pg_sub (pv 0) pe_int set_list))
    (pss_one (ps_ret (pe_op op_mod (pe_op op_fdiv (pe_op op_mod (pe_op op_mul (pe_ix ix_list (pv 0) pe_int (fun _ _ => rfl)) pe_int) pe_int) pe_int) (pv 1)))))), ?_⟩
    refine ⟨_, rfl, p, _, 1, .int t, rfl, rfl, SqL.of hp, rfl, rfl, _, rfl, ?_⟩
    refine ite2 (fun _ => ?_) (fun _ => ?_)
    · refine ⟨_, rfl, p, _, 0, .int a, rfl, rfl, SqL.of hp, rfl, _, rfl, _, _, rfl, rfl, m0, ?_⟩
      refine ⟨_, rfl, p, _, 0, .int a, rfl, rfl, SqL.of hp, rfl, _, rfl, _, _, rfl, rfl, ⟨m0, by omega⟩, _, rfl, p, _, 0, 0, rfl, rfl, hp, rfl, ?_⟩
      exact ⟨_, rfl, q _ _ (Int.emod_nonneg _ (by omega)) (Int.emod_lt_of_pos _ m0)⟩
    · refine ⟨_, rfl, p, _, 0, .int a, rfl, rfl, SqL.of hp, rfl, _, _, rfl, rfl, .inr ⟨by decide, by decide⟩, _, _, rfl, rfl, _, _, rfl, rfl, (by show (0 : Int) < 2147483647; decide), _, rfl, p, _, 0, 0, rfl, rfl, hp, rfl, ?_⟩
      refine ⟨_, rfl, p, _, 0, _, rfl, rfl, SqL.of upd_same, rfl, _, _, rfl, rfl, .inr ⟨by decide, by decide⟩, _, _, rfl, rfl, (by show (0 : Int) < 2147483629; decide), _, _, rfl, rfl, ⟨by decide, by decide⟩, _, rfl, _, _, rfl, rfl, m0, ?_⟩
      exact q _ _ (Int.emod_nonneg _ (by omega)) (Int.emod_lt_of_pos _ m0)

theorem comp_ints {K : PySem.W.Frag} {j : Nat} {l : Addr} {us : List V} {cs : List C} {pick : C → Int} {g : CA → TG} {tc : CA → TT} {te : CA → TE} {nm : Str} {σ : St} {H : Hp} {Q : VK} (hσ : σ[j]? = some (some (.ref l))) (hl : H l = some (.lst us)) (hc : Cs H us cs) (hz : cs.length ≤ 100000)
    (hs : ∀ k (x : V) (c : C) (H2 : Hp) (v : Option V) (N : V → St → Hp → Prop) (M : St → Hp → Prop), Ce H2 x c → N (.int (pick c)) [some x] H2 → g k x [v] H2 fun τ2 H3 => tc k τ2 H3 fun b H4 => if b = true then te k τ2 H4 (fun y H5 => N y τ2 H5) else M τ2 H4)
    (hd : ∀ D H', Same H H' → H D = none → H' D = some (.lst ((cs.map pick).map V.int)) → Q (.ref D) H') : tComp (iList K (tVar j)) g tc te [nm] [] σ H Q := by
  have lu := Cs.len hc
  refine comp_name (K := K) (j := j) hσ (SqL.of hl) (sml (by omega)) (fun D i ys τ H2 => H D = none ∧ Same H H2 ∧ H2 D = some (.lst ys) ∧ ys = ((cs.take i).map pick).map V.int ∧ ∃ v, τ = [v])
    (fun D hD => ⟨hD, Same.new hD _, upd_same, rfl, none, rfl⟩) ?_ ?_ ?_
  · rintro D i ys τ H2 hi ⟨_, s2, d2, rfl, _⟩
    refine ⟨SqL.of (s2 _ _ hl), d2, ?_⟩
    rw [List.length_map, List.length_map, List.length_take]
    omega
  · rintro k D i x ys τ H2 hi ⟨hD, s2, d2, rfl, v, rfl⟩
    obtain ⟨c, hci, ce⟩ := Cs.of (Tps.mono s2 hc) hi
    refine hs k x c H2 v (fun y τ2 H4 => H4 D = some (.lst _) ∧ H D = none ∧ Same H (upd H4 D _) ∧ upd H4 D _ D = some (.lst _) ∧ _ ++ [y] = ((cs.take (i + 1)).map pick).map V.int ∧ ∃ v, τ2 = [v]) _ ce ?_
    refine ⟨d2, hD, s2.at hD _, upd_same, ?_, _, rfl⟩
    rw [take_snoc hci, List.map_append, List.map_append]
    rfl
  · rintro D ys τ H2 hD ⟨_, s2, d2, rfl, _⟩
    refine hd D H2 s2 hD ?_
    rw [d2, lu, List.take_length]
theorem min_box {cs : List C} {m1 M1 m2 M2 : Int} (a : m1 ∈ cs.map Prod.fst) (a' : ∀ x ∈ cs.map Prod.fst, m1 ≤ x) (b : M1 ∈ cs.map Prod.fst) (b' : ∀ x ∈ cs.map Prod.fst, x ≤ M1)
    (c : m2 ∈ cs.map Prod.snd) (c' : ∀ x ∈ cs.map Prod.snd, m2 ≤ x) (d : M2 ∈ cs.map Prod.snd) (d' : ∀ x ∈ cs.map Prod.snd, x ≤ M2) : Box cs m1 M1 m2 M2 where
  a1 := by simpa using a
  a2 := fun x hx => a' _ (List.mem_map_of_mem hx)
  b1 := by simpa using b
  b2 := fun x hx => b' _ (List.mem_map_of_mem hx)
  c1 := by simpa using c
  c2 := fun x hx => c' _ (List.mem_map_of_mem hx)
  d1 := by simpa using d
  d2 := fun x hx => d' _ (List.mem_map_of_mem hx)
theorem Fit.span {cs : List C} {m1 M1 m2 M2 : Int} (f : Fit cs) (B : Box cs m1 M1 m2 M2) : M1 ≤ m1 + 200 ∧ M2 ≤ m2 + 200 := by
  obtain ⟨_, _, _, x, y, h⟩ := f
  obtain ⟨c1, h1, e1⟩ := B.a1; obtain ⟨c2, h2, e2⟩ := B.b1; obtain ⟨c3, h3, e3⟩ := B.c1; obtain ⟨c4, h4, e4⟩ := B.d1
  have := h c1 h1; have := h c2 h2; have := h c3 h3; have := h c4 h4
  omega
/-- the rows so far -/
def gR (cs : List C) (a b : Int) (n i j : Nat) : List C := (grid a b n i ++ row (a + (i : Int)) b j).filter fun c => decide (c ∉ cs)
theorem gR_len {cs : List C} {a b : Int} {n i j : Nat} (hi : i ≤ 203) (hn : n ≤ 203) (hj : j ≤ n) : (gR cs a b n i j).length ≤ 50000 := by
  have h1 : (gR cs a b n i j).length ≤ (grid a b n i ++ row (a + (i : Int)) b j).length := List.length_filter_le _ _
  rw [List.length_append, grid_len, row_len] at h1
  have h2 : i * n ≤ 203 * 203 := Nat.mul_le_mul hi hn
  omega
theorem gR_snoc {cs : List C} {a b : Int} {n i j : Nat} : gR cs a b n i (j + 1) = gR cs a b n i j ++ (if (a + (i : Int), b + (j : Int)) ∈ cs then [] else [(a + (i : Int), b + (j : Int))]) := by
  unfold gR
  rw [row_succ, ← List.append_assoc, List.filter_append]
  congr 1
  split
  · rename_i h; simp [h]
  · rename_i h; simp [h]
theorem gR_next {cs : List C} {a b : Int} {n i : Nat} : gR cs a b n (i + 1) 0 = gR cs a b n i n := by
  unfold gR
  rw [grid_succ]
  simp [row]
def WA (H : Hp) (l d1 d2 tk fd : Addr) (cs : List C) (a0 b0 : Int) (n i : Nat) (σ : St) (H2 : Hp) : Prop := ∃ ws v5 v6, Same H H2 ∧ H2 fd = some (.lst ws) ∧ Cs H2 ws (gR cs a0 b0 n i 0) ∧ σ = [some (.ref l), some (.ref d1), some (.ref d2), some (.ref tk), some (.ref fd), v5, v6]
def WB (H : Hp) (l d1 d2 tk fd : Addr) (cs : List C) (a0 b0 : Int) (n i j : Nat) (σ : St) (H2 : Hp) : Prop := ∃ ws v6, Same H H2 ∧ H2 fd = some (.lst ws) ∧ Cs H2 ws (gR cs a0 b0 n i j) ∧ σ = [some (.ref l), some (.ref d1), some (.ref d2), some (.ref tk), some (.ref fd), some (.int (a0 + (i : Int))), v6]
theorem has_min : ∀ {l : List Int}, l ≠ [] → ∃ m, m ∈ l ∧ ∀ a ∈ l, m ≤ a
  | [], h => absurd rfl h
  | [x], _ => ⟨x, by simp, fun a ha => by rw [List.mem_singleton.mp ha]; exact Int.le_refl _⟩
  | x :: y :: r, _ => by
    obtain ⟨m, hm, h⟩ := has_min (l := y :: r) (by simp)
    by_cases k : x ≤ m
    · exact ⟨x, List.mem_cons_self, fun a ha => by rcases List.mem_cons.mp ha with rfl | ha; exact Int.le_refl _; exact Int.le_trans k (h a ha)⟩
    · exact ⟨m, List.mem_cons_of_mem _ hm, fun a ha => by rcases List.mem_cons.mp ha with rfl | ha; omega; exact h a ha⟩
theorem has_max : ∀ {l : List Int}, l ≠ [] → ∃ m, m ∈ l ∧ ∀ a ∈ l, a ≤ m
  | [], h => absurd rfl h
  | [x], _ => ⟨x, by simp, fun a ha => by rw [List.mem_singleton.mp ha]; exact Int.le_refl _⟩
  | x :: y :: r, _ => by
    obtain ⟨m, hm, h⟩ := has_max (l := y :: r) (by simp)
    by_cases k : m ≤ x
    · exact ⟨x, List.mem_cons_self, fun a ha => by rcases List.mem_cons.mp ha with rfl | ha; exact Int.le_refl _; exact Int.le_trans (h a ha) k⟩
    · exact ⟨m, List.mem_cons_of_mem _ hm, fun a ha => by rcases List.mem_cons.mp ha with rfl | ha; omega; exact h a ha⟩
theorem one_min {l : List Int} {m n : Int} (a : m ∈ l) (a' : ∀ x ∈ l, m ≤ x) (b : n ∈ l) (b' : ∀ x ∈ l, n ≤ x) : m = n := by have := a' n b; have := b' m a; omega
theorem one_max {l : List Int} {m n : Int} (a : m ∈ l) (a' : ∀ x ∈ l, x ≤ m) (b : n ∈ l) (b' : ∀ x ∈ l, x ≤ n) : m = n := by have := a' n b; have := b' m a; omega
theorem ok_cells_around {f : Addr} {fd : FuncData} (F : Fun K "cells_around" "cells_around" s_cells_around f fd) (bl : Blt mg) (F_marked : Fn P w K mg base 1 "marked" ["cells"] (sp_marked K)) : FnOk P w K mg base CX0 2 f fd ["cells"] (sp_cells_around K) := by
  refine F.ok sc_cells_around (fun vs H Q E h => ?_) (fun cdv A outer s H vs Q E hr h => ?_)
  · obtain ⟨x, _, _, rfl, _⟩ := h; rfl
  · obtain ⟨l, us, cs, rfl, hl, hc, fit, q⟩ := h
    have hu := hu_of hr
    obtain ⟨hne, hn, hz, _⟩ := id fit
    refine ⟨_, (pss_cons (ps_setComp (i := 1) (own := ["cell"]) (caps := []) (cns := []) ⟨of_decide_eq_true rfl, rfl, of_decide_eq_true rfl, of_decide_eq_true rfl, of_decide_eq_true rfl, rfl, rfl, of_decide_eq_true rfl⟩ rfl sc_cells_around.nd rfl rfl (pi_list (pv 0)) (fun _ => (pg_name (i := 0) (of_decide_eq_true rfl) rfl (Or.inl rfl))) (fun _ => pcs_nil) (fun _ => (pe_ix ix_tup (pv 0) pe_int (fun _ _ => rfl))) rfl)
    (pss_cons (ps_setComp (i := 2) (own := ["cell"]) (caps := []) (cns := []) ⟨of_decide_eq_true rfl, rfl, of_decide_eq_true rfl, of_decide_eq_true rfl, of_decide_eq_true rfl, rfl, rfl, of_decide_eq_true rfl⟩ rfl sc_cells_around.nd rfl rfl (pi_list (pv 0)) (fun _ => (pg_name (i := 0) (of_decide_eq_true rfl) rfl (Or.inl rfl))) (fun _ => pcs_nil) (fun _ => (pe_ix ix_tup (pv 0) pe_int (fun _ _ => rfl))) rfl)
    (pss_cons (ps_set (i := 3) sc_cells_around.nd rfl (Or.inl rfl) (pe_callG F_marked (hr.mono (by decide)) rfl (pa_cons (pv 0) pa_nil)))
    (pss_cons (ps_set (i := 4) sc_cells_around.nd rfl (Or.inl rfl) (pe_lst pa_nil))
    (pss_cons (ps_for PassesOwn.never rfl (pi_rangeL rfl bl.range_ (pa_cons (pe_op op_sub (pe_callB (call_minL rfl) rfl bl.min_ bt_min (pa_cons (pv 1) pa_nil)) pe_int) (pa_cons (pe_op op_add (pe_callB (call_maxL rfl) rfl bl.max_ bt_max (pa_cons (pv 1) pa_nil)) pe_int) pa_nil))) (pg_name (i := 5) sc_cells_around.nd rfl (Or.inl rfl))
      (pss_one (ps_for PassesOwn.never rfl (pi_rangeL rfl bl.range_ (pa_cons (pe_op op_sub (pe_callB (call_minL rfl) rfl bl.min_ bt_min (pa_cons (pv 2) pa_nil)) pe_int) (pa_cons (pe_op op_add (pe_callB (call_maxL rfl) rfl bl.max_ bt_max (pa_cons (pv 2) pa_nil)) pe_int) pa_nil))) (pg_name (i := 6) sc_cells_around.nd rfl (Or.inl rfl))
        (pss_one (ps_if (pt_cmp (pc_dnotin hu (pe_tup (pa_cons (pv 5) (pa_cons (pv 6) pa_nil))) (pv 3)) (by with_unfolding_all rfl)) (pss_one (ps_expr (pe_bm PySem.F.plainAttrs_list PySem.F.slot_list_append PySem.F.type_list_append mt_append (pv 4) (pa_cons (pe_tup (pa_cons (pv 5) (pa_cons (pv 6) pa_nil))) pa_nil)))) pss_nil)))))
    (pss_one (ps_ret (pv 4)))))))), ?_⟩
    refine tSeq_i ?_
    refine comp_ints (pick := Prod.fst) (j := 0) rfl hl hc (by omega) (fun k x c H2 v N M ce q => ?_) fun d1 H1 s1 e1 f1 => ?_
    · obtain ⟨p, rfl, hp⟩ := ce
      exact iteT (B := M [some (.ref p)] H2) ⟨_, rfl, p, _, 0, _, rfl, rfl, SqT.of hp, rfl, q⟩
    refine tNext_i ?_
    dsimp only
    refine tSeq_i ?_
    show tComp _ _ _ _ _ _ _ _ _
    refine comp_ints (pick := Prod.snd) (j := 0) rfl (s1 _ _ hl) (Tps.mono s1 hc) (by omega) (fun k x c H2 v N M ce q => ?_) fun d2 H2 s2 e2 f2 => ?_
    · obtain ⟨p, rfl, hp⟩ := ce
      exact iteT (B := M [some (.ref p)] H2) ⟨_, rfl, p, _, 1, _, rfl, rfl, SqT.of hp, rfl, q⟩
    have s02 := s1.trans s2
    refine ⟨_, rfl, l, us, cs, rfl, s02 _ _ hl, Tps.mono s02 hc, hn, by omega, fun tk H3 s3 e3 f3 => ?_⟩
    have s03 := s02.trans s3
    refine ⟨(by show 0 ≤ sizeLine; decide), fun fd hfd => ?_⟩
    have s4 := Same.new hfd (.lst [])
    have s04 := s03.trans s4
    have fd0 : H fd = none := s03.free hfd
    have g1 : upd H3 fd (.lst []) d1 = some (.lst ((cs.map Prod.fst).map V.int)) := s4 _ _ (s3 _ _ (s2 _ _ f1))
    have g2 : upd H3 fd (.lst []) d2 = some (.lst ((cs.map Prod.snd).map V.int)) := s4 _ _ (s3 _ _ f2)
    have g3 := s4 _ _ f3
    have g4 : upd H3 fd (.lst []) fd = some (.lst []) := upd_same
    generalize upd H3 fd (.lst []) = H4 at *
    have n1 : cs.map Prod.fst ≠ [] := by simpa using hne
    have n2 : cs.map Prod.snd ≠ [] := by simpa using hne
    refine ⟨_, rfl, d1, _, rfl, SqL.of g1, n1, fun m1 a a' => ⟨_, _, rfl, rfl, _, rfl, d1, _, rfl, SqL.of g1, n1, fun M1 b b' => ⟨_, _, rfl, rfl, _, _, rfl, ?_⟩⟩⟩
    obtain ⟨m2, c, c'⟩ := has_min n2
    obtain ⟨M2, e, e'⟩ := has_max n2
    have B := min_box a a' b b' c c' e e'
    obtain ⟨sp1, sp2⟩ := fit.span B
    obtain ⟨le1, le2⟩ := B.le
    generalize hN1 : (M1 + 2 - (m1 - 1)).toNat = N1
    generalize hN2 : (M2 + 2 - (m2 - 1)).toNat = N2
    refine for_range (WA H3 l d1 d2 tk fd cs (m1 - 1) (m2 - 1) N2) ?_ ?_ ?_
    · exact ⟨[], _, _, s4, g4, .nil, rfl⟩
    · rintro i σ H5 hi ⟨ws, v5, v6, s5, f5, c5, rfl⟩
      have k2 := s5 _ _ (s3 _ _ f2)
      refine ⟨_, rfl, d2, _, rfl, SqL.of k2, n2, fun m2' x x' => ⟨_, _, rfl, rfl, _, rfl, d2, _, rfl, SqL.of k2, n2, fun M2' y y' => ⟨_, _, rfl, rfl, _, _, rfl, ?_⟩⟩⟩
      have q1 := one_min x x' c c'
      have q2 := one_max y y' e e'
      subst q1 q2
      rw [hN2]
      refine for_range (WB H3 l d1 d2 tk fd cs (m1 - 1) (m2' - 1) N2 i) ⟨ws, _, s5, f5, c5, rfl⟩ ?_ ?_
      · rintro j σ H6 hj ⟨ws, v6, s6, f6, c6, rfl⟩
        have t6 := s6 _ _ f3
        refine ⟨_, rfl, _, rfl, (by show 2 ≤ sizeLine; decide), fun pt hpt => ?_⟩
        have s7 := Same.new hpt (.tup [.int (m1 - 1 + (i : Int)), .int (m2' - 1 + (j : Int))])
        have hp7 : upd H6 pt (.tup [.int (m1 - 1 + (i : Int)), .int (m2' - 1 + (j : Int))]) pt = some (.tup ((kc (m1 - 1 + (i : Int), m2' - 1 + (j : Int))).map kV)) := upd_same
        have s47 := s6.trans s7
        have f7 := s7 _ _ f6
        have c7 := Tps.mono s7 c6
        generalize upd H6 pt (.tup [.int (m1 - 1 + (i : Int)), .int (m2' - 1 + (j : Int))]) = H7 at *
        refine ⟨_, rfl, tk, _, rfl, DGet.t (k := kc (m1 - 1 + (i : Int), m2' - 1 + (j : Int))) (s7 _ _ t6) hp7, _, rfl, ?_⟩
        rw [valV_dv]
        by_cases hin : (m1 - 1 + (i : Int), m2' - 1 + (j : Int)) ∈ cs
        · rw [if_pos hin]
          refine iteF ⟨ws, _, s47, f7, ?_, rfl⟩
          rw [gR_snoc, if_pos hin, List.append_nil]
          exact c7
        · rw [if_neg hin]
          have zl : ws.length ≤ 50000 := by rw [Cs.len c7]; exact gR_len (by omega) (by omega) (by omega)
          refine iteT ⟨_, rfl, .inl ⟨rfl, _, SqL.of f7⟩, _, rfl, _, rfl, (by show 2 ≤ sizeLine; decide), fun pu hpu => ?_⟩
          have s8 := Same.new hpu (.tup [.int (m1 - 1 + (i : Int)), .int (m2' - 1 + (j : Int))])
          have hp8 : upd H7 pu (.tup [.int (m1 - 1 + (i : Int)), .int (m2' - 1 + (j : Int))]) pu = some (.tup ((kc (m1 - 1 + (i : Int), m2' - 1 + (j : Int))).map kV)) := upd_same
          have f8 := s8 _ _ f7
          have c8 := Tps.mono s8 c7
          have s48 := s47.trans s8
          generalize upd H7 pu (.tup [.int (m1 - 1 + (i : Int)), .int (m2' - 1 + (j : Int))]) = H8 at *
          refine ⟨fd, ws, _, rfl, rfl, f8, sml (by omega), ?_⟩
          have t9 : TupS H8 (upd H8 fd (.lst (ws ++ [.ref pu]))) := TupS.upd f8 rfl
          refine ⟨ws ++ [.ref pu], _, ?_, upd_same, ?_, rfl⟩
          · exact s48.at hfd _
          · rw [gR_snoc, if_neg hin]
            exact Cs.snoc (Tps.mt t9 c8) ((Ce.of hp8).mt t9)
      · rintro σ H6 ⟨ws, v6, s6, f6, c6, rfl⟩
        exact ⟨ws, _, _, s6, f6, by rw [gR_next]; exact c6, rfl⟩
    · rintro σ H5 ⟨ws, v5, v6, s5, f5, c5, rfl⟩
      refine ⟨_, rfl, q fd ws H5 _ m1 M1 m2 M2 (s03.trans s5) fd0 f5 c5 ⟨B, ?_, ?_, ?_⟩⟩
      · exact List.Pairwise.filter _ (by simpa [row] using asc_grid _ _ _ _)
      · exact Nat.le_trans (gR_len (by omega) (by omega) (Nat.zero_le _)) (by decide)
      · intro x
        unfold gR Air
        rw [List.mem_filter, List.mem_append, mem_grid, mem_row, decide_eq_true_iff]
        have : ((N1 : Nat) : Int) = M1 + 2 - (m1 - 1) := by omega
        have : ((N2 : Nat) : Int) = M2 + 2 - (m2 - 1) := by omega
        constructor
        · rintro ⟨h, k⟩
          exact ⟨by omega, k⟩
        · rintro ⟨h, k⟩
          exact ⟨.inl (by omega), k⟩
theorem Ps.get {H₀ H : Hp} : ∀ {ws : List V} {ps : List (List C)}, Ps H₀ H ws ps → ∀ {i : Nat} {x : V}, ws[i]? = some x → ∃ p a us, ps[i]? = some p ∧ x = .ref a ∧ H₀ a = none ∧ H a = some (.lst us) ∧ Cs H us p
  | _, _, .nil, i, x, h => by simp at h
  | _, _, .cons r t, i, x, h => by
    cases i with
    | zero =>
      simp only [List.getElem?_cons_zero, Option.some.injEq] at h
      subst h
      obtain ⟨a, us, e, n, l, c⟩ := r
      exact ⟨_, a, us, rfl, e, n, l, c⟩
    | succ j =>
      simp only [List.getElem?_cons_succ] at h ⊢
      exact Ps.get t h
theorem Ps.len {H₀ H : Hp} {ws : List V} {ps : List (List C)} (h : Ps H₀ H ws ps) : ws.length = ps.length := Paired.length h
theorem Ps.same {H₀ H H' : Hp} {ws : List V} {ps : List (List C)} (s : Same H H') (h : Ps H₀ H ws ps) : Ps H₀ H' ws ps := h.mono (fun _ _ _ z => s _ _ z) (TupS.of s)
theorem cut1 : ∀ xs : List V, cutV xs (some 1) none = xs.tail
  | [] => by unfold cutV; simp
  | x :: r => by
    have h1 : HT.sIx (x :: r).length 0 (some 1) = 1 := by
      rw [show (1 : Int) = ((1 : Nat) : Int) from rfl, HT.sIx_nat]
      simp
    unfold cutV
    rw [h1, HT.sIx_none]
    simp
theorem ok_holes {f : Addr} {fd : FuncData} (F : Fun K "holes" "holes" s_holes f fd) (bl : Blt mg) (F_parts : Fn P w K mg base 3 "parts" ["cells"] (sp_parts K)) (F_cells_around : Fn P w K mg base 2 "cells_around" ["cells"] (sp_cells_around K)) : FnOk P w K mg base CX0 4 f fd ["cells"] (sp_holes K) := by
  refine F.ok sc_holes (fun vs H Q E h => ?_) (fun cdv A outer s H vs Q E hr h => ?_)
  · obtain ⟨x, _, _, rfl, _⟩ := h; rfl
  · obtain ⟨l, us, cs, rfl, hl, hc, fit, q⟩ := h
    refine ⟨_, (pss_one (ps_ret (pe_slice sl_list (pe_callG F_parts (hr.mono (by decide)) rfl (pa_cons (pe_callG F_cells_around (hr.mono (by decide)) rfl (pa_cons (pv 0) pa_nil)) pa_nil)) (po_some pe_int) po_none))), ?_⟩
    refine ⟨_, rfl, l, us, cs, rfl, hl, hc, fit, fun r ws H1 T m1 M1 m2 M2 s1 hr1 l1 c1 air => ?_⟩
    obtain ⟨B, aT, zT, mT⟩ := id air
    refine ⟨r, ws, T, rfl, l1, c1, aT.nodup, zT, fun r2 ws2 H2 T2 s2 hr2 l2 aT2 pT2 ps2 nw2 => ?_⟩
    have eT : T2 = T := Asc.ext aT2 aT fun x => pT2.mem_iff
    subst eT
    refine ⟨1, rfl, r2, ws2, rfl, SqL.of l2, fun p hp => ?_⟩
    rw [cut1]
    have s3 := Same.new hp (.lst ws2.tail)
    have h1p : H1 p = none := s2.free hp
    refine q p ws2.tail _ T2 m1 M1 m2 M2 (s1.trans (s2.trans s3)) (s1.free h1p) upd_same air ?_ fun w hw e => ?_
    · have k : Ps H1 (upd H2 p (.lst ws2.tail)) ws2.tail (partsL T2).tail := by
        have := ps2.mono (H' := upd H2 p (.lst ws2.tail)) (fun _ _ _ z => s3 _ _ z) (TupS.of s3)
        revert this
        cases ws2 with
        | nil => intro z; cases h : partsL T2 with
          | nil => exact .nil
          | cons a b => rw [h] at z; cases z
        | cons a b => intro z; cases h : partsL T2 with
          | nil => rw [h] at z; cases z
          | cons c d => rw [h] at z; cases z with | cons _ t => exact t
      exact Paired.mapP k fun _ _ ⟨a, us, e, n, l, c⟩ => ⟨a, us, e, s1.free n, l, c⟩
    · have hw2 : w ∈ ws2 := List.mem_of_mem_tail hw
      obtain ⟨i, hi⟩ := List.mem_iff_getElem?.mp hw2
      obtain ⟨_, g, gu, _, e', _, lg, _⟩ := ps2.get hi
      rw [e] at e'
      injection e' with e'
      rw [e', lg] at hp
      cases hp

def WRh (H : Hp) (l d1 d2 sn td : Addr) (c : C) (T : List C) (m : Nat) (σ : St) (H2 : Hp) : Prop := ∃ frr fo wa wvs v5 v6, m = 2 * frr.length + wa.length ∧ Dfs T c frr fo wa [] [] ∧ frr.length + fo.length = T.length ∧ wa.length ≤ fo.length ∧ Same H H2 ∧ H2 sn = some (.dT (dk fo)) ∧
  H2 td = some (.lst wvs) ∧ Cs H2 wvs wa ∧ σ = [some (.ref l), some (.ref d1), some (.ref d2), some (.ref sn), some (.ref td), v5, v6]
def WRg (H : Hp) (l d1 d2 sn td r : Addr) (c here : C) (T : List C) (rs : List V) (m i : Nat) (σ : St) (H2 : Hp) : Prop := ∃ frr fo wa wvs v5 v6, 2 * frr.length + wa.length < m ∧ Dfs T c frr fo wa [here] ((nb here).drop i) ∧ frr.length + fo.length = T.length ∧ wa.length ≤ fo.length ∧ Same H H2 ∧
  H2 sn = some (.dT (dk fo)) ∧ H2 td = some (.lst wvs) ∧ Cs H2 wvs wa ∧ H2 r = some (.lst rs) ∧ Cs H2 rs (nb here) ∧ σ = [some (.ref l), some (.ref d1), some (.ref d2), some (.ref sn), some (.ref td), v5, v6]
theorem ok_law_reached {f : Addr} {fd : FuncData} (F : Fun K "_law_reached" "_law_reached" s_law_reached f fd) (bl : Blt mg) (F_law_beside : Fn P w K mg base 1 "_law_beside" ["_law_cell_here"] (sp_law_beside K)) : FnOk P w K mg base CX0 2 f fd ["_law_cells_here"] (sp_law_reached K) := by
  refine F.ok sc_law_reached (fun vs H Q E h => ?_) (fun cdv A outer s H vs Q E hr h => ?_)
  · obtain ⟨x, _, _, _, _, _, _, _, rfl, _⟩ := h; rfl
  · obtain ⟨l, us, cs, T, m1, M1, m2, M2, rfl, hl, hc, hz, ⟨B, aT, zT, mT⟩, q⟩ := h
    have hu := hu_of hr
    have hne : cs ≠ [] := by obtain ⟨x, hx, _⟩ := B.a1; intro z; rw [z] at hx; cases hx
    refine ⟨_, (pss_cons (ps_setComp (i := 1) (own := ["_law_cell_here"]) (caps := []) (cns := []) ⟨of_decide_eq_true rfl, rfl, of_decide_eq_true rfl, of_decide_eq_true rfl, of_decide_eq_true rfl, rfl, rfl, of_decide_eq_true rfl⟩ rfl sc_law_reached.nd rfl rfl (pi_list (pv 0)) (fun _ => (pg_name (i := 0) (of_decide_eq_true rfl) rfl (Or.inl rfl))) (fun _ => pcs_nil) (fun _ => (pe_ix ix_tup (pv 0) pe_int (fun _ _ => rfl))) rfl)
    (pss_cons (ps_setComp (i := 2) (own := ["_law_cell_here"]) (caps := []) (cns := []) ⟨of_decide_eq_true rfl, rfl, of_decide_eq_true rfl, of_decide_eq_true rfl, of_decide_eq_true rfl, rfl, rfl, of_decide_eq_true rfl⟩ rfl sc_law_reached.nd rfl rfl (pi_list (pv 0)) (fun _ => (pg_name (i := 0) (of_decide_eq_true rfl) rfl (Or.inl rfl))) (fun _ => pcs_nil) (fun _ => (pe_ix ix_tup (pv 0) pe_int (fun _ _ => rfl))) rfl)
    (pss_cons (ps_set (i := 3) sc_law_reached.nd rfl (Or.inl rfl) pe_dnewT)
    (pss_cons (ps_set (i := 4) sc_law_reached.nd rfl (Or.inl rfl) (pe_lst (pa_cons (pe_tup (pa_cons (pe_op op_sub (pe_callB (call_minL rfl) rfl bl.min_ bt_min (pa_cons (pv 1) pa_nil)) pe_int) (pa_cons (pe_op op_sub (pe_callB (call_minL rfl) rfl bl.min_ bt_min (pa_cons (pv 2) pa_nil)) pe_int) pa_nil))) pa_nil)))
    (pss_cons (ps_dput hu (pv 3) (pe_ix ix_list (pv 4) pe_int (fun _ _ => rfl)) pe_bl rfl)
    (pss_cons (ps_while PassesOwn.never (pt_cmpR op_gt (pe_callB call_len_seq rfl bl.len_ bt_len (pa_cons (pv 4) pa_nil)) pe_int (nomark _))
      (pss_one (ps_for PassesOwn.never rfl (pi_list (pe_callG F_law_beside (hr.mono (by decide)) rfl (pa_cons (pe_bm0 PySem.F.plainAttrs_list PySem.F.slot_list_pop PySem.F.type_list_pop mt_pop (pv 4)) pa_nil))) (pg_name (i := 5) sc_law_reached.nd rfl (Or.inl rfl))
        (pss_cons (ps_set (i := 6) sc_law_reached.nd rfl (Or.inl rfl) (pe_and (pe_chain op_le op_le (pe_op op_sub (pe_callB (call_minL rfl) rfl bl.min_ bt_min (pa_cons (pv 1) pa_nil)) pe_int) (pe_ix ix_tup (pv 5) pe_int (fun _ _ => rfl)) (pe_op op_add (pe_callB (call_maxL rfl) rfl bl.max_ bt_max (pa_cons (pv 1) pa_nil)) pe_int)) (pe_one (pe_cmpR op_le (pe_op op_sub (pe_callB (call_minL rfl) rfl bl.min_ bt_min (pa_cons (pv 2) pa_nil)) pe_int) (pe_ix ix_tup (pv 5) pe_int (fun _ _ => rfl)) (nomark _)))))
        (pss_one (ps_if (PW.pt (pw_and (pt_val (pv 6)) (pw_and (pt_cmpR op_le (pe_ix ix_tup (pv 5) pe_int (fun _ _ => rfl)) (pe_op op_add (pe_callB (call_maxL rfl) rfl bl.max_ bt_max (pa_cons (pv 2) pa_nil)) pe_int) (nomark _)) (pw_and (pt_cmpR (op_notInT (hu64 hr)) (pv 5) (pv 0) (by with_unfolding_all rfl)) (pw_and1 (pt_cmp (pc_dnotin hu (pv 5) (pv 3)) (by with_unfolding_all rfl))))))) (pss_cons (ps_dput hu (pv 3) (pv 5) pe_bl rfl)
          (pss_one (ps_expr (pe_bm PySem.F.plainAttrs_list PySem.F.slot_list_append PySem.F.type_list_append mt_append (pv 4) (pa_cons (pv 5) pa_nil))))) pss_nil))))))
    (pss_one (ps_ret (pv 3))))))))), ?_⟩
    refine tSeq_i ?_
    refine comp_ints (pick := Prod.fst) (j := 0) rfl hl hc (by omega) (fun k x c H2 v N M ce q => ?_) fun d1 H1 s1 e1 f1 => ?_
    · obtain ⟨p, rfl, hp⟩ := ce
      exact iteT (B := M [some (.ref p)] H2) ⟨_, rfl, p, _, 0, _, rfl, rfl, SqT.of hp, rfl, q⟩
    refine tNext_i ?_
    dsimp only
    refine tSeq_i ?_
    show tComp _ _ _ _ _ _ _ _ _
    refine comp_ints (pick := Prod.snd) (j := 0) rfl (s1 _ _ hl) (Tps.mono s1 hc) (by omega) (fun k x c H2 v N M ce q => ?_) fun d2 H2 s2 e2 f2 => ?_
    · obtain ⟨p, rfl, hp⟩ := ce
      exact iteT (B := M [some (.ref p)] H2) ⟨_, rfl, p, _, 1, _, rfl, rfl, SqT.of hp, rfl, q⟩
    have s02 := s1.trans s2
    have n1 : cs.map Prod.fst ≠ [] := by simpa using hne
    have n2 : cs.map Prod.snd ≠ [] := by simpa using hne
    have g1 := s2 _ _ f1
    have mn1 : ∀ {m : Int}, m ∈ cs.map Prod.fst → (∀ x ∈ cs.map Prod.fst, m ≤ x) → m = m1 := fun a a' => one_min a a' (by simpa using B.a1) (by simpa using B.a2)
    have mx1 : ∀ {m : Int}, m ∈ cs.map Prod.fst → (∀ x ∈ cs.map Prod.fst, x ≤ m) → m = M1 := fun a a' => one_max a a' (by simpa using B.b1) (by simpa using B.b2)
    have mn2 : ∀ {m : Int}, m ∈ cs.map Prod.snd → (∀ x ∈ cs.map Prod.snd, m ≤ x) → m = m2 := fun a a' => one_min a a' (by simpa using B.c1) (fun x hx => by obtain ⟨c, hc, rfl⟩ := List.mem_map.mp hx; exact B.c2 c hc)
    have mx2 : ∀ {m : Int}, m ∈ cs.map Prod.snd → (∀ x ∈ cs.map Prod.snd, x ≤ m) → m = M2 := fun a a' => one_max a a' (by simpa using B.d1) (fun x hx => by obtain ⟨c, hc, rfl⟩ := List.mem_map.mp hx; exact B.d2 c hc)
    refine fun sn hsn => ?_
    have s3 := Same.new hsn (.dT [])
    refine ⟨_, rfl, d1, _, rfl, SqL.of (s3 _ _ g1), n1, fun x a a' => ⟨_, _, rfl, rfl, _, rfl, d2, _, rfl, SqL.of (s3 _ _ f2), n2, fun y b b' => ⟨_, _, rfl, rfl, (by show 2 ≤ sizeLine; decide), fun p0 hp0 => ⟨(by show 1 ≤ sizeLine; decide), fun td htd => ?_⟩⟩⟩⟩
    have ex := mn1 a a'
    have ey := mn2 b b'
    subst ex ey
    generalize hcn : ((x - 1, y - 1) : C) = c at *
    have cT : c ∈ T := by rw [← hcn]; exact (mT _).mpr (corner_air B)
    have s4 := Same.new hp0 (.tup [.int (x - 1), .int (y - 1)])
    have hp4 : upd (upd H2 sn (.dT [])) p0 (.tup [.int (x - 1), .int (y - 1)]) p0 = some (.tup ((kc c).map kV)) := by rw [← hcn]; exact upd_same
    have sn4 := s4 _ _ (upd_same (H := H2) (a := sn) (o := .dT []))
    have s24 := s3.trans s4
    generalize upd (upd H2 sn (.dT [])) p0 (.tup [.int (x - 1), .int (y - 1)]) = H4 at *
    have s5 := Same.new htd (.lst [.ref p0])
    have sn5 := s5 _ _ sn4
    have hp5 := s5 _ _ hp4
    have s25 := s24.trans s5
    have td5 : upd H4 td (.lst [.ref p0]) td = some (.lst [.ref p0]) := upd_same
    have td0 : H2 td = none := s24.free htd
    have nst : sn ≠ td := ne_of_none sn4 htd
    generalize upd H4 td (.lst [.ref p0]) = H5 at *
    refine ⟨_, rfl, _, rfl, td, _, 0, _, rfl, rfl, SqL.of td5, rfl, sn, _, rfl, DPut.t (k := kc c) sn5 hp5 (by decide), ?_⟩
    have e6 : putK [] (kc c) (V.bl true) = dk [c] := rfl
    rw [e6]
    have s26 := s25.at hsn (.dT (dk [c]))
    have t6 : TupS H5 (upd H5 sn (.dT (dk [c]))) := TupS.upd sn5 rfl
    refine ⟨WRh H2 l d1 d2 sn td c T, ⟨_, T.erase c, [c], [c], [.ref p0], _, _, rfl, Dfs.init cT aT.nodup, ?_, Nat.le_refl _, s26, upd_same, by rw [upd_ne nst.symm]; exact td5, .cons ⟨p0, rfl, t6 _ _ hp5⟩ .nil, rfl⟩, ?_⟩
    · rw [List.length_erase_of_mem cT]
      have := List.length_pos_of_mem cT
      simp only [List.length_cons, List.length_nil]
      omega
    · rintro m σ H5 ⟨frr, fo, wa, wvs, v5, v6, rfl, D, hlen, hwl, s5, n5, t5, wc, rfl⟩
      refine ⟨_, rfl, td, wvs, rfl, .inl (SqL.of t5), _, _, rfl, rfl, _, rfl, ?_⟩
      rcases List.eq_nil_or_concat wa with rfl | ⟨wa', here, ew⟩
      · cases wc
        refine iteF ?_
        refine ⟨_, rfl, q sn H5 fo (s02.trans s5) (s02.free hsn) n5 D.ndf fun x => ?_⟩
        rw [D.found x, ← hcn]
      · rw [List.concat_eq_append] at ew
        subst ew
        obtain ⟨ws, hv, rfl, wc', hcc⟩ := Cs.dropLast wc
        have e1 : decide ((0 : Int) < (((ws ++ [hv]).length : Nat) : Int)) = true := decide_eq_true (by rw [List.length_append, List.length_singleton]; omega)
        rw [e1]
        refine iteT ⟨fun σ' H' => ∃ m', m' < 2 * frr.length + (wa' ++ [here]).length ∧ WRh H2 l d1 d2 sn td c T m' σ' H', fun _ _ h => h, ?_⟩
        refine ⟨_, rfl, .inl ⟨rfl, _, SqL.of t5⟩, td, ws ++ [hv], hv, rfl, rfl, t5, (by simp), ?_⟩
        rw [List.dropLast_concat]
        have t6 : TupS H5 (upd H5 td (.lst ws)) := TupS.upd t5 rfl
        refine ⟨hv, here, rfl, hcc.mt t6, fun r rs H6 s6 hr6 l6 d6 => ?_⟩
        have rt : r ≠ td := (ne_of_none upd_same hr6).symm
        have rn : r ≠ sn := (ne_of_none (show upd H5 td (.lst ws) sn = some (.dT (dk fo)) by rw [upd_ne nst]; exact n5) hr6).symm
        have t7 : TupS H5 H6 := t6.trans (TupS.of s6)
        refine ⟨r, rfl, ⟨rs, SqL.of l6⟩, for_list (xs := rs) (WRg H2 l d1 d2 sn td r c here T rs (2 * frr.length + (wa' ++ [here]).length)) ?_ (fun i σ H5 _ h => ?_) ?_ ?_⟩
        · exact ⟨frr, fo, wa', ws, _, _, by simp, by simpa using D.pop, hlen, by (simp at hwl; omega), (s5.at td0 _).trans s6, s6 _ _ (by rw [upd_ne nst]; exact n5), s6 _ _ upd_same, Tps.mt t7 wc', l6, d6, rfl⟩
        · obtain ⟨_, _, _, _, _, _, _, _, _, _, _, _, _, _, z, _⟩ := h
          exact SqL.of z
        · rintro i x' σ H7 hi ⟨fr7, fo7, wa7, wv7, v7, v8, hm, D7, hl7, hw7, s7, n7, t7', wc7, r7, rc7, rfl⟩
          obtain ⟨e, hci, ce⟩ := Cs.of rc7 hi
          obtain ⟨pc, rfl, hpc⟩ := ce.key
          have hcn' : e ∈ nb here := List.mem_of_getElem? hci
          have ed : (nb here).drop i = e :: (nb here).drop (i + 1) := by
            obtain ⟨h1, h2⟩ := List.getElem?_eq_some_iff.mp hci
            rw [List.drop_eq_getElem_cons h1, h2]
          rw [ed] at D7
          have mem : e ∈ fr7 ↔ e ∈ T ∧ e ∉ fo7 := ⟨fun h => ⟨(D7.split e).mpr (.inl h), D7.apart e h⟩, fun h => ((D7.split e).mp h.1).resolve_right h.2⟩
          have k1 := s7 _ _ g1
          have k2 := s7 _ _ f2
          have kl := s7 _ _ (s02 _ _ hl)
          have kc' := Tps.mono (s02.trans s7) hc
          have skip : ∀ v6, e ∉ fr7 → WRg H2 l d1 d2 sn td r c here T rs (2 * frr.length + (wa' ++ [here]).length) (i + 1) [some (.ref l), some (.ref d1), some (.ref d2), some (.ref sn), some (.ref td), some (.ref pc), some (.bl v6)] H7 :=
            fun v6 h => ⟨fr7, fo7, wa7, wv7, _, _, hm, D7.skip h, hl7, hw7, s7, n7, t7', wc7, r7, rc7, rfl⟩
          have no1 : ¬ (x - 1 ≤ e.1 ∧ e.1 ≤ M1 + 1 ∧ y - 1 ≤ e.2 ∧ e.2 ≤ M2 + 1) → e ∉ fr7 := fun h z => h ((mT e).mp (mem.mp z).1).1
          refine ⟨_, rfl, d1, _, rfl, SqL.of k1, n1, fun z a a' => ⟨_, _, rfl, rfl, _, rfl, pc, _, 0, _, rfl, rfl, SqT.of hpc, rfl, ?_⟩⟩
          have ez := mn1 a a'
          subst ez
          have far : ¬ (z - 1 ≤ e.1 ∧ e.1 ≤ M1 + 1 ∧ y - 1 ≤ e.2) → e ∉ fr7 := fun h k => by have := ((mT e).mp (mem.mp k).1).1; omega
          refine ⟨_, _, rfl, rfl, _, rfl, ?_⟩
          refine ite2 (fun q1 => ?_) (fun q1 => ?_)
          rotate_left
          · have q1 := fun k => q1 (decide_eq_true k)
            exact ⟨_, rfl, iteF ⟨_, rfl, _, rfl, iteF (iteF (skip _ (far fun k => q1 k.1)))⟩⟩
          have q1 := of_decide_eq_true q1
          refine ⟨_, rfl, d1, _, rfl, SqL.of k1, n1, fun w a a' => ⟨_, _, rfl, rfl, _, _, rfl, rfl, _, rfl, ?_⟩⟩
          have ez := mx1 a a'
          subst ez
          refine ite2 (fun q2 => ?_) (fun q2 => ?_)
          rotate_left
          · have q2 := fun k => q2 (decide_eq_true k)
            exact ⟨_, rfl, _, rfl, iteF (iteF (skip _ (far fun k => q2 k.2.1)))⟩
          have q2 := of_decide_eq_true q2
          refine ⟨_, rfl, d2, _, rfl, SqL.of k2, n2, fun u a a' => ⟨_, _, rfl, rfl, _, rfl, pc, _, 1, _, rfl, rfl, SqT.of hpc, rfl, _, _, rfl, rfl, ?_⟩⟩
          have ez := mn2 a a'
          subst ez
          refine ⟨_, rfl, _, rfl, ?_⟩
          refine ite2 (fun q3 => ?_) (fun q3 => ?_)
          rotate_left
          · have q3 := fun k => q3 (decide_eq_true k)
            exact iteF (skip _ (far fun k => q3 k.2.2))
          have q3 := of_decide_eq_true q3
          refine ⟨_, rfl, pc, _, 1, _, rfl, rfl, SqT.of hpc, rfl, _, rfl, d2, _, rfl, SqL.of k2, n2, fun u' a a' => ⟨_, _, rfl, rfl, _, _, rfl, rfl, _, rfl, ?_⟩⟩
          have ez := mx2 a a'
          subst ez
          refine ite2 (fun q4 => ?_) (fun q4 => ?_)
          rotate_left
          · have q4 := fun k => q4 (decide_eq_true k)
            exact iteF (skip _ (no1 fun k => q4 k.2.2.2))
          have q4 := of_decide_eq_true q4
          refine ⟨_, rfl, _, rfl, cl e, cs.map cl, ce, rd_lt (SqL.of kl) kc', _, rfl, ?_⟩
          by_cases h1 : e ∈ cs
          · rw [decide_eq_true (cl_mem.mpr h1)]
            exact iteF (iteF (skip _ fun k => ((mT e).mp (mem.mp k).1).2 h1))
          rw [decide_eq_false (fun z => h1 (cl_mem.mp z))]
          refine iteT ⟨_, rfl, _, rfl, sn, _, rfl, DGet.t (k := kc e) n7 hpc, _, rfl, ?_⟩
          rw [valV_dv]
          by_cases h2 : e ∈ fo7
          · rw [if_pos h2]
            exact iteF (skip _ fun z => (mem.mp z).2 h2)
          rw [if_neg h2]
          have hin := mem.mpr ⟨(mT e).mpr ⟨⟨q1, q2, q3, q4⟩, h1⟩, h2⟩
          have hpos := List.length_pos_of_mem hin
          have wl := Cs.len wc7
          refine iteT ?_
          refine ⟨_, rfl, _, rfl, sn, _, rfl, DPut.t (k := kc e) n7 hpc (by rw [dv_len]; exact sml (by omega)), ?_⟩
          rw [putK_dv (f := fun _ => .bl true) h2]
          have t8 : upd H7 sn (.dT (dk (fo7 ++ [e]))) td = some (.lst wv7) := by rw [upd_ne nst.symm]; exact t7'
          refine ⟨_, rfl, .inl ⟨rfl, _, SqL.of t8⟩, _, rfl, td, wv7, _, rfl, rfl, t8, sml (by omega), ?_⟩
          have t9 : TupS H7 (upd (upd H7 sn (.dT (dk (fo7 ++ [e])))) td (.lst (wv7 ++ [.ref pc]))) := (TupS.upd n7 rfl).trans (TupS.upd t8 rfl)
          refine ⟨fr7.erase e, fo7 ++ [e], wa7 ++ [e], wv7 ++ [.ref pc], _, _, ?_, D7.take hin hcn', ?_, ?_, (s7.at hsn _).at td0 _, ?_, upd_same, Cs.snoc (Tps.mt t9 wc7) (ce.mt t9), ?_, Tps.mt t9 rc7, rfl⟩
          · rw [List.length_erase_of_mem hin, List.length_append, List.length_singleton]; omega
          · rw [List.length_erase_of_mem hin, List.length_append, List.length_singleton]; omega
          · rw [List.length_append, List.length_append, List.length_singleton]; omega
          · rw [upd_ne nst, upd_same]
          · rw [upd_ne rt, upd_ne rn]; exact r7
        · rintro σ H7 ⟨fr7, fo7, wa7, wv7, v7, v8, hm, D7, hl7, hw7, s7, n7, t7', wc7, r7, rc7, rfl⟩
          have e6 : (nb here).drop rs.length = [] := by rw [Cs.len d6]; exact List.drop_length
          rw [e6] at D7
          exact ⟨_, hm, fr7, fo7, wa7, wv7, _, _, rfl, D7.next, hl7, hw7, s7, n7, t7', wc7, rfl⟩
/-- the rows so far, of those that p lets stay -/
def gP (p : C → Bool) (a b : Int) (n i j : Nat) : List C := (grid a b n i ++ row (a + (i : Int)) b j).filter p
theorem gP_snoc {p : C → Bool} {a b : Int} {n i j : Nat} : gP p a b n i (j + 1) = gP p a b n i j ++ (if p (a + (i : Int), b + (j : Int)) = true then [(a + (i : Int), b + (j : Int))] else []) := by
  unfold gP
  rw [row_succ, ← List.append_assoc, List.filter_append]
  congr 1
  split <;> simp [*]
theorem gP_next {p : C → Bool} {a b : Int} {n i : Nat} : gP p a b n (i + 1) 0 = gP p a b n i n := by
  unfold gP
  rw [grid_succ]
  simp [row]
theorem gP_mem {p : C → Bool} {a b : Int} {n i j : Nat} {x : C} : x ∈ gP p a b n i j ↔ ((a ≤ x.1 ∧ x.1 < a + i ∧ b ≤ x.2 ∧ x.2 < b + n) ∨ (x.1 = a + i ∧ b ≤ x.2 ∧ x.2 < b + j)) ∧ p x = true := by
  unfold gP
  rw [List.mem_filter, List.mem_append, mem_grid, mem_row]
theorem gP_not {p : C → Bool} {a b : Int} {n i j : Nat} : (a + (i : Int), b + (j : Int)) ∉ gP p a b n i j := by
  intro h
  have := (gP_mem.mp h).1
  simp only at this
  omega
theorem gP_nd {p : C → Bool} {a b : Int} {n : Nat} : ∀ {i j : Nat}, (gP p a b n i j).Nodup := by
  intro i j
  unfold gP
  refine List.Pairwise.filter p ?_
  refine List.nodup_append.mpr ⟨(asc_grid a b n i).nodup, (asc_row _ b j).nodup, fun x hx y hy e => ?_⟩
  subst e
  have h1 := mem_grid.mp hx
  have h2 := mem_row.mp hy
  omega
def WU (H : Hp) (l sn d1 d2 du : Addr) (p : C → Bool) (a b : Int) (n i : Nat) (σ : St) (H2 : Hp) : Prop := ∃ v5 v6, Same H H2 ∧ H2 du = some (.dT (dk (gP p a b n i 0))) ∧ σ = [some (.ref l), some (.ref sn), some (.ref d1), some (.ref d2), some (.ref du), v5, v6]
def WV (H : Hp) (l sn d1 d2 du : Addr) (p : C → Bool) (a b : Int) (n i j : Nat) (σ : St) (H2 : Hp) : Prop := ∃ v6, Same H H2 ∧ H2 du = some (.dT (dk (gP p a b n i j))) ∧ σ = [some (.ref l), some (.ref sn), some (.ref d1), some (.ref d2), some (.ref du), some (.int (a + (i : Int))), v6]
theorem ok_law_due {f : Addr} {fd : FuncData} (F : Fun K "_law_due" "_law_due" s_law_due f fd) (bl : Blt mg) (F_law_reached : Fn P w K mg base 2 "_law_reached" ["_law_cells_here"] (sp_law_reached K)) : FnOk P w K mg base CX0 3 f fd ["_law_cells_here"] (sp_law_due K) := by
  refine F.ok sc_law_due (fun vs H Q E h => ?_) (fun cdv A outer s H vs Q E hr h => ?_)
  · obtain ⟨x, _, _, _, _, _, _, _, rfl, _⟩ := h; rfl
  · obtain ⟨l, us, cs, T, m1, M1, m2, M2, rfl, hl, hc, hz, ⟨B, aT, zT, mT⟩, q⟩ := h
    have hu := hu_of hr
    have hne : cs ≠ [] := by obtain ⟨x, hx, _⟩ := B.a1; intro z; rw [z] at hx; cases hx
    refine ⟨_, (pss_cons (ps_set (i := 1) sc_law_due.nd rfl (Or.inl rfl) (pe_callG F_law_reached (hr.mono (by decide)) rfl (pa_cons (pv 0) pa_nil)))
    (pss_cons (ps_setComp (i := 2) (own := ["_law_cell_here"]) (caps := []) (cns := []) ⟨of_decide_eq_true rfl, rfl, of_decide_eq_true rfl, of_decide_eq_true rfl, of_decide_eq_true rfl, rfl, rfl, of_decide_eq_true rfl⟩ rfl sc_law_due.nd rfl rfl (pi_list (pv 0)) (fun _ => (pg_name (i := 0) (of_decide_eq_true rfl) rfl (Or.inl rfl))) (fun _ => pcs_nil) (fun _ => (pe_ix ix_tup (pv 0) pe_int (fun _ _ => rfl))) rfl)
    (pss_cons (ps_setComp (i := 3) (own := ["_law_cell_here"]) (caps := []) (cns := []) ⟨of_decide_eq_true rfl, rfl, of_decide_eq_true rfl, of_decide_eq_true rfl, of_decide_eq_true rfl, rfl, rfl, of_decide_eq_true rfl⟩ rfl sc_law_due.nd rfl rfl (pi_list (pv 0)) (fun _ => (pg_name (i := 0) (of_decide_eq_true rfl) rfl (Or.inl rfl))) (fun _ => pcs_nil) (fun _ => (pe_ix ix_tup (pv 0) pe_int (fun _ _ => rfl))) rfl)
    (pss_cons (ps_set (i := 4) sc_law_due.nd rfl (Or.inl rfl) pe_dnewT)
    (pss_cons (ps_for PassesOwn.never rfl (pi_rangeL rfl bl.range_ (pa_cons (pe_callB (call_minL rfl) rfl bl.min_ bt_min (pa_cons (pv 2) pa_nil)) (pa_cons (pe_op op_add (pe_callB (call_maxL rfl) rfl bl.max_ bt_max (pa_cons (pv 2) pa_nil)) pe_int) pa_nil))) (pg_name (i := 5) sc_law_due.nd rfl (Or.inl rfl))
      (pss_one (ps_for PassesOwn.never rfl (pi_rangeL rfl bl.range_ (pa_cons (pe_callB (call_minL rfl) rfl bl.min_ bt_min (pa_cons (pv 3) pa_nil)) (pa_cons (pe_op op_add (pe_callB (call_maxL rfl) rfl bl.max_ bt_max (pa_cons (pv 3) pa_nil)) pe_int) pa_nil))) (pg_name (i := 6) sc_law_due.nd rfl (Or.inl rfl))
        (pss_one (ps_if (PW.pt (pw_and (pt_cmpR (op_notInT (hu64 hr)) (pe_tup (pa_cons (pv 5) (pa_cons (pv 6) pa_nil))) (pv 0) (by with_unfolding_all rfl)) (pw_and1 (pt_cmp (pc_dnotin hu (pe_tup (pa_cons (pv 5) (pa_cons (pv 6) pa_nil))) (pv 1)) (by with_unfolding_all rfl))))) (pss_one (ps_dput hu (pv 4) (pe_tup (pa_cons (pv 5) (pa_cons (pv 6) pa_nil))) pe_bl rfl)) pss_nil)))))
    (pss_one (ps_ret (pv 4)))))))), ?_⟩
    refine ⟨_, rfl, l, us, cs, T, m1, M1, m2, M2, rfl, hl, hc, hz, ⟨B, aT, zT, mT⟩, fun sn H0 fo s0 e0 f0 nfo mfo => ?_⟩
    refine tNext_i ?_
    dsimp only
    refine tSeq_i ?_
    show tComp _ _ _ _ _ _ _ _ _
    refine comp_ints (pick := Prod.fst) (j := 0) rfl (s0 _ _ hl) (Tps.mono s0 hc) (by omega) (fun k x c H2 v N M ce q => ?_) fun d1 H1 s1 e1 f1 => ?_
    · obtain ⟨p, rfl, hp⟩ := ce
      exact iteT (B := M [some (.ref p)] H2) ⟨_, rfl, p, _, 0, _, rfl, rfl, SqT.of hp, rfl, q⟩
    have s01 := s0.trans s1
    refine tNext_i ?_
    dsimp only
    refine tSeq_i ?_
    show tComp _ _ _ _ _ _ _ _ _
    refine comp_ints (pick := Prod.snd) (j := 0) rfl (s01 _ _ hl) (Tps.mono s01 hc) (by omega) (fun k x c H2 v N M ce q => ?_) fun d2 H2 s2 e2 f2 => ?_
    · obtain ⟨p, rfl, hp⟩ := ce
      exact iteT (B := M [some (.ref p)] H2) ⟨_, rfl, p, _, 1, _, rfl, rfl, SqT.of hp, rfl, q⟩
    have s02 := s01.trans s2
    have n1 : cs.map Prod.fst ≠ [] := by simpa using hne
    have n2 : cs.map Prod.snd ≠ [] := by simpa using hne
    have g1 := s2 _ _ f1
    have g0 := s2 _ _ (s1 _ _ f0)
    have mn1 : ∀ {m : Int}, m ∈ cs.map Prod.fst → (∀ x ∈ cs.map Prod.fst, m ≤ x) → m = m1 := fun a a' => one_min a a' (by simpa using B.a1) (by simpa using B.a2)
    have mx1 : ∀ {m : Int}, m ∈ cs.map Prod.fst → (∀ x ∈ cs.map Prod.fst, x ≤ m) → m = M1 := fun a a' => one_max a a' (by simpa using B.b1) (by simpa using B.b2)
    have mn2 : ∀ {m : Int}, m ∈ cs.map Prod.snd → (∀ x ∈ cs.map Prod.snd, m ≤ x) → m = m2 := fun a a' => one_min a a' (by simpa using B.c1) (fun x hx => by obtain ⟨c, hc, rfl⟩ := List.mem_map.mp hx; exact B.c2 c hc)
    have mx2 : ∀ {m : Int}, m ∈ cs.map Prod.snd → (∀ x ∈ cs.map Prod.snd, x ≤ m) → m = M2 := fun a a' => one_max a a' (by simpa using B.d1) (fun x hx => by obtain ⟨c, hc, rfl⟩ := List.mem_map.mp hx; exact B.d2 c hc)
    refine fun du hdu => ?_
    have s3 := Same.new hdu (.dT [])
    refine ⟨_, rfl, d1, _, rfl, SqL.of (s3 _ _ g1), n1, fun x a a' => ⟨_, rfl, d1, _, rfl, SqL.of (s3 _ _ g1), n1, fun y b b' => ⟨_, _, rfl, rfl, _, _, rfl, ?_⟩⟩⟩
    have ex := mn1 a a'
    have ey := mx1 b b'
    subst ex ey
    generalize hN1 : (y + 1 - x).toNat = N1
    generalize hN2 : (M2 + 1 - m2).toNat = N2
    obtain ⟨le1, le2⟩ := B.le
    have inT : ∀ i j, i < N1 → j ≤ N2 → ∀ c ∈ gP (fun c => decide (c ∉ cs ∧ c ∉ fo)) x m2 N2 i j, c ∈ T := fun i j hi hj c hc => by
      obtain ⟨h1, h2⟩ := gP_mem.mp hc
      have h2 := of_decide_eq_true h2
      exact (mT c).mpr ⟨by omega, h2.1⟩
    refine for_range (WU H2 l sn d1 d2 du (fun c => decide (c ∉ cs ∧ c ∉ fo)) x m2 N2) ⟨_, _, s3, upd_same, rfl⟩ ?_ ?_
    · rintro i σ H5 hi ⟨v5, v6, s5, f5, rfl⟩
      have k2 := s5 _ _ f2
      refine ⟨_, rfl, d2, _, rfl, SqL.of k2, n2, fun u a a' => ⟨_, rfl, d2, _, rfl, SqL.of k2, n2, fun v b b' => ⟨_, _, rfl, rfl, _, _, rfl, ?_⟩⟩⟩
      have ex := mn2 a a'
      have ey := mx2 b b'
      subst ex ey
      rw [hN2]
      refine for_range (WV H2 l sn d1 d2 du (fun c => decide (c ∉ cs ∧ c ∉ fo)) x u N2 i) ⟨_, s5, f5, rfl⟩ ?_ ?_
      · rintro j σ H6 hj ⟨v6, s6, f6, rfl⟩
        refine ⟨_, rfl, _, rfl, (by show 2 ≤ sizeLine; decide), fun pt hpt => ?_⟩
        have s7 := Same.new hpt (.tup [.int (x + (i : Int)), .int (u + (j : Int))])
        have hp7 : upd H6 pt (.tup [.int (x + (i : Int)), .int (u + (j : Int))]) pt = some (.tup ((kc (x + (i : Int), u + (j : Int))).map kV)) := upd_same
        have s27 := s6.trans s7
        have f7 := s7 _ _ f6
        generalize upd H6 pt (.tup [.int (x + (i : Int)), .int (u + (j : Int))]) = H7 at *
        refine ⟨_, rfl, cl (x + (i : Int), u + (j : Int)), cs.map cl, Ce.of hp7, rd_lt (SqL.of (s27 _ _ (s02 _ _ hl))) (Tps.mono (s02.trans s27) hc), _, rfl, ?_⟩
        by_cases h1 : (x + (i : Int), u + (j : Int)) ∈ cs
        · rw [decide_eq_true (cl_mem.mpr h1)]
          refine iteF (iteF ⟨_, s27, ?_, rfl⟩)
          rw [gP_snoc, if_neg (by simp [h1]), List.append_nil]
          exact f7
        rw [decide_eq_false (fun z => h1 (cl_mem.mp z))]
        refine iteT ⟨_, rfl, _, rfl, (by show 2 ≤ sizeLine; decide), fun pu hpu => ?_⟩
        have s8 := Same.new hpu (.tup [.int (x + (i : Int)), .int (u + (j : Int))])
        have hp8 : upd H7 pu (.tup [.int (x + (i : Int)), .int (u + (j : Int))]) pu = some (.tup ((kc (x + (i : Int), u + (j : Int))).map kV)) := upd_same
        have s28 := s27.trans s8
        have f8 := s8 _ _ f7
        generalize upd H7 pu (.tup [.int (x + (i : Int)), .int (u + (j : Int))]) = H8 at *
        refine ⟨_, rfl, sn, _, rfl, DGet.t (k := kc (x + (i : Int), u + (j : Int))) (s28 _ _ g0) hp8, _, rfl, ?_⟩
        rw [valV_dv]
        by_cases h2 : (x + (i : Int), u + (j : Int)) ∈ fo
        · rw [if_pos h2]
          refine iteF ⟨_, s28, ?_, rfl⟩
          rw [gP_snoc, if_neg (by simp [h2]), List.append_nil]
          exact f8
        rw [if_neg h2]
        have zl : (gP (fun c => decide (c ∉ cs ∧ c ∉ fo)) x u N2 i j).length ≤ 100000 := Nat.le_trans (nodup_len gP_nd (inT i j hi (by omega))) zT
        refine iteT ⟨_, rfl, _, rfl, _, rfl, (by show 2 ≤ sizeLine; decide), fun pw hpw => ?_⟩
        have s9 := Same.new hpw (.tup [.int (x + (i : Int)), .int (u + (j : Int))])
        have hp9 : upd H8 pw (.tup [.int (x + (i : Int)), .int (u + (j : Int))]) pw = some (.tup ((kc (x + (i : Int), u + (j : Int))).map kV)) := upd_same
        have s29 := s28.trans s9
        have f9 := s9 _ _ f8
        generalize upd H8 pw (.tup [.int (x + (i : Int)), .int (u + (j : Int))]) = H9 at *
        refine ⟨du, _, rfl, DPut.t (k := kc (x + (i : Int), u + (j : Int))) f9 hp9 (by rw [dv_len]; exact sml zl), ?_⟩
        rw [putK_dv (f := fun _ => .bl true) gP_not]
        refine ⟨_, s29.at hdu _, ?_, rfl⟩
        rw [upd_same, gP_snoc, if_pos (by simp [h1, h2])]
      · rintro σ H6 ⟨v6, s6, f6, rfl⟩
        exact ⟨_, _, s6, by rw [gP_next]; exact f6, rfl⟩
    · rintro σ H5 ⟨v5, v6, s5, f5, rfl⟩
      refine ⟨_, rfl, q du H5 _ (s02.trans s5) (s02.free hdu) f5 gP_nd fun c => ?_⟩
      rw [gP_mem, decide_eq_true_iff, mfo]
      have : ((N1 : Nat) : Int) = y + 1 - x := by omega
      have : ((N2 : Nat) : Int) = M2 + 1 - m2 := by omega
      constructor
      · rintro ⟨h, k1, k2⟩
        exact ⟨(mT c).mpr ⟨by omega, k1⟩, k2⟩
      · rintro ⟨h, k⟩
        have hin : ¬ (c.1 < x ∨ y < c.1 ∨ c.2 < m2 ∨ M2 < c.2) := fun z => k (ring B mT h z)
        exact ⟨.inl (by omega), ((mT c).mp h).2, k⟩

theorem putK_same {x : C} {seen : List C} (h : x ∈ seen) : putK (dk seen) (kc x) (.bl true) = dk seen := by
  have hany : ((dk seen).any fun kv => decide (kv.1 = kc x)) = true := List.any_eq_true.mpr ⟨(kc x, .bl true), List.mem_map.mpr ⟨x, h, rfl⟩, decide_eq_true rfl⟩
  unfold putK
  rw [if_pos hany]
  have : ∀ kv ∈ dk seen, (if kv.1 = kc x then (kv.1, V.bl true) else kv) = id kv := fun kv hk => by
    obtain ⟨y, _, rfl⟩ := List.mem_map.mp hk
    split <;> rfl
  rw [List.map_congr_left this, List.map_id]
theorem putK_seen (seen : List C) (x : C) : putK (dk seen) (kc x) (.bl true) = dk (seenW seen x) := by
  unfold seenW
  split
  · rename_i h
    exact putK_same h
  · rename_i h
    exact putK_dv (f := fun _ => .bl true) h
def WHh (H : Hp) (l sn td : Addr) (c : C) (cs : List C) (m : Nat) (σ : St) (H2 : Hp) : Prop := ∃ seen stk wvs v3, m = 7 * (cs.length - seen.length) + stk.length ∧ Hg cs c seen stk ∧ stk.length ≤ 6 * seen.length + 1 ∧ Same H H2 ∧ H2 sn = some (.dT (dk seen)) ∧
  H2 td = some (.lst wvs) ∧ Cs H2 wvs stk ∧ σ = [some (.ref l), some (.ref sn), some (.ref td), v3]
def WHe (Hb : Hp) (l sn : Addr) (here : C) (p : C → Bool) (D : Addr) (i : Nat) (ys : List V) (τ : St) (H2 : Hp) : Prop := Hb D = none ∧ Same Hb H2 ∧ H2 D = some (.lst ys) ∧ Cs H2 ys (((nb here).take i).filter p) ∧ ∃ v, τ = [v, some (.ref l), some (.ref sn)]
theorem ok_law_hangs {f : Addr} {fd : FuncData} (F : Fun K "_law_hangs" "_law_hangs" s_law_hangs f fd) (bl : Blt mg) (F_law_beside : Fn P w K mg base 1 "_law_beside" ["_law_cell_here"] (sp_law_beside K)) : FnOk P w K mg base CX0 2 f fd ["_law_cells_here"] (sp_law_hangs K) := by
  refine F.ok sc_law_hangs (fun vs H Q E h => ?_) (fun cdv A outer s H vs Q E hr h => ?_)
  · obtain ⟨x, _, _, _, rfl, _⟩ := h; rfl
  · obtain ⟨l, us, c, r0, rfl, hl, hc, hn, hz, hall, q⟩ := h
    have hu := hu_of hr
    have hc' := hc
    generalize hcs : c :: r0 = cs at hc hn hz hall
    have hc0 : c ∈ cs := by rw [← hcs]; exact List.mem_cons_self
    refine ⟨_, (pss_cons (ps_set (i := 1) sc_law_hangs.nd rfl (Or.inr rfl) pe_dnewT)
    (pss_cons (ps_set (i := 2) sc_law_hangs.nd rfl (Or.inl rfl) (pe_lst (pa_cons (pe_ix ix_list (pv 0) pe_int (fun _ _ => rfl)) pa_nil)))
    (pss_cons (ps_while PassesOwn.never (pt_cmpR op_gt (pe_callB call_len_seq rfl bl.len_ bt_len (pa_cons (pv 2) pa_nil)) pe_int (nomark _))
      (pss_cons (ps_set (i := 3) sc_law_hangs.nd rfl (Or.inl rfl) (pe_bm0 PySem.F.plainAttrs_list PySem.F.slot_list_pop PySem.F.type_list_pop mt_pop (pv 2)))
      (pss_cons (ps_dput hu (pv 1) (pv 3) pe_bl rfl)
      (pss_one (ps_expr (pe_bm PySem.F.plainAttrs_list PySem.F.slot_list_extend PySem.F.type_list_extend mt_extend (pv 2) (pa_cons (pe_comp (own := ["_law_other"]) (caps := [0, 1]) (cns := ["_law_cells_here", "_law_seen"]) ⟨of_decide_eq_true rfl, rfl, of_decide_eq_true rfl, of_decide_eq_true rfl, of_decide_eq_true rfl, rfl, rfl, of_decide_eq_true rfl⟩ rfl (pi_list (pe_callG F_law_beside (hr.mono (by decide)) rfl (pa_cons (pv 3) pa_nil))) (fun _ => (pg_name (i := 0) (of_decide_eq_true rfl) rfl (Or.inl rfl))) (fun _ => (pcs_one (PW.pt (pw_and (pt_cmpR (op_inT (hu64 hr)) (pv 0) (pv 1) (by with_unfolding_all rfl)) (pw_and1 (pt_cmp (pc_dnotin hu (pv 0) (pv 2)) (by with_unfolding_all rfl))))))) (fun _ => (pv 0))) pa_nil)))))))
    (pss_one (ps_ret (pe_cmpR op_eq (pe_callB call_lenDT rfl bl.len_ bt_len (pa_cons (pv 1) pa_nil)) (pe_callB call_len_seq rfl bl.len_ bt_len (pa_cons (pv 0) pa_nil)) (nomark _))))))), ?_⟩
    refine fun sn hsn => ?_
    have s0 := Same.new hsn (.dT [])
    obtain ⟨u0, hu0, ce0⟩ := Cs.get (Tps.mono s0 hc') (i := 0) (c := c) rfl
    have a0 : atI us 0 = some u0 := atI_nat (j := 0) hu0
    refine ⟨_, rfl, l, us, 0, _, rfl, rfl, SqL.of (s0 _ _ hl), a0, (by show 1 ≤ sizeLine; decide), fun td htd => ?_⟩
    have s1 := Same.new htd (.lst [u0])
    have nst : sn ≠ td := ne_of_none upd_same htd
    have td0 : H td = none := s0.free htd
    refine ⟨WHh H l sn td c cs, ⟨_, [], [c], [u0], _, rfl, Hg.init hc0, by simp, s0.trans s1, s1 _ _ upd_same, upd_same, .cons (ce0.mono s1) .nil, rfl⟩, ?_⟩
    rintro m σ H5 ⟨seen, stk, wvs, v3, rfl, G, hlen, s5, n5, t5, wc, rfl⟩
    refine ⟨_, rfl, td, wvs, rfl, .inl (SqL.of t5), _, _, rfl, rfl, _, rfl, ?_⟩
    rcases List.eq_nil_or_concat stk with rfl | ⟨st, here, ew⟩
    · cases wc
      refine iteF ?_
      refine ⟨_, rfl, sn, _, rfl, .inl n5, _, rfl, l, us, rfl, .inl (SqL.of (s5 _ _ hl)), rfl, ?_⟩
      have e1 : seen.length = cs.length := by
        have p : seen.Perm cs := (List.perm_ext_iff_of_nodup G.nd hn).mpr fun x => by
          rw [G.all x]
          exact ⟨fun h => h.right, fun h => hall x h⟩
        exact p.length_eq
      have e2 : decide (V.int ((dk seen).length : Int) = V.int (us.length : Int)) = true := by rw [dv_len, e1, Cs.len hc]; simp
      rw [e2]
      exact q H5 s5
    · rw [List.concat_eq_append] at ew
      subst ew
      obtain ⟨ws, hv, rfl, wc', hcc⟩ := Cs.dropLast wc
      have e1 : decide ((0 : Int) < (((ws ++ [hv]).length : Nat) : Int)) = true := decide_eq_true (by rw [List.length_append, List.length_singleton]; omega)
      rw [e1]
      have less := G.less
      have G2 := G.step
      have l1 := G2.len
      refine iteT ⟨fun σ' H' => ∃ m', m' < 7 * (cs.length - seen.length) + (st ++ [here]).length ∧ WHh H l sn td c cs m' σ' H', fun _ _ h => h, ?_⟩
      refine ⟨_, rfl, .inl ⟨rfl, _, SqL.of t5⟩, td, ws ++ [hv], hv, rfl, rfl, t5, (by simp), ?_⟩
      rw [List.dropLast_concat]
      have t6 : TupS H5 (upd H5 td (.lst ws)) := TupS.upd t5 rfl
      have n6 : upd H5 td (.lst ws) sn = some (.dT (dk seen)) := by rw [upd_ne nst]; exact n5
      have td6 : upd H5 td (.lst ws) td = some (.lst ws) := upd_same
      have s6 := s5.at td0 (.lst ws)
      generalize upd H5 td (.lst ws) = H6 at *
      have hc6 := hcc.mt t6
      obtain ⟨ph, rfl, hph⟩ := hc6.key
      have lseen : seen.length ≤ 100000 := Nat.le_trans G.len hz
      refine ⟨_, rfl, _, rfl, sn, _, rfl, DPut.t (k := kc here) n6 hph (by rw [dv_len]; exact sml (by omega)), ?_⟩
      rw [putK_seen]
      have t7 : TupS H6 (upd H6 sn (.dT (dk (seenW seen here)))) := TupS.upd n6 rfl
      have n7 : upd H6 sn (.dT (dk (seenW seen here))) sn = some (.dT (dk (seenW seen here))) := upd_same
      have td7 : upd H6 sn (.dT (dk (seenW seen here))) td = some (.lst ws) := by rw [upd_ne nst.symm]; exact td6
      have s7 := s6.at hsn (.dT (dk (seenW seen here)))
      generalize upd H6 sn (.dT (dk (seenW seen here))) = H7 at *
      refine ⟨_, rfl, .inl ⟨rfl, _, SqL.of td7⟩, ?_⟩
      refine tCons_i (tComp_i ?_)
      refine ⟨_, rfl, .ref ph, here, rfl, (hc6.mt t7), fun r rs H8 s8 hr8 l8 d8 => ⟨r, rfl, ⟨rs, SqL.of l8⟩, ?_⟩⟩
      have s08 := s7.trans s8
      have n8 := s8 _ _ n7
      have td8 := s8 _ _ td7
      have lr := Cs.len d8
      have lnb : (nb here).length = 6 := rfl
      refine go_list (K := K) (xs := rs) (sml (by omega)) (WHe H8 l sn here (fun y => decide (y ∈ cs ∧ y ∉ seenW seen here))) ?_ ?_ ?_ ?_
      · exact fun D hD => ⟨hD, Same.new hD _, upd_same, .nil, none, rfl⟩
      · rintro D i ys τ H9 hi ⟨hD, s9, d9, c9, v, rfl⟩
        refine ⟨SqL.of (s9 _ _ l8), d9, ?_⟩
        rw [Cs.len c9]
        exact Nat.le_trans (List.length_filter_le _ _) (by rw [List.length_take]; omega)
      · rintro k D i x ys τ H9 hi ⟨hD, s9, d9, c9, v, rfl⟩
        obtain ⟨e, hei, ce⟩ := Cs.of (Tps.mono s9 d8) hi
        obtain ⟨pe, rfl, hpe⟩ := ce.key
        have snoc : ((nb here).take (i + 1)).filter (fun y => decide (y ∈ cs ∧ y ∉ seenW seen here)) = ((nb here).take i).filter (fun y => decide (y ∈ cs ∧ y ∉ seenW seen here)) ++ (if e ∈ cs ∧ e ∉ seenW seen here then [e] else []) := by
          rw [take_snoc hei, List.filter_append]
          congr 1
          split <;> simp [*]
        have no : ¬ (e ∈ cs ∧ e ∉ seenW seen here) → WHe H8 l sn here (fun y => decide (y ∈ cs ∧ y ∉ seenW seen here)) D (i + 1) ys [some (.ref pe), some (.ref l), some (.ref sn)] H9 := fun h => ⟨hD, s9, d9, by rw [snoc, if_neg h, List.append_nil]; exact c9, _, rfl⟩
        refine ⟨_, rfl, _, rfl, cl e, cs.map cl, ce, rd_lt (SqL.of (s9 _ _ (s08 _ _ hl))) (Tps.mono (s08.trans s9) hc), _, rfl, ?_⟩
        by_cases h1 : e ∈ cs
        · rw [decide_eq_true (cl_mem.mpr h1)]
          refine iteT ⟨_, rfl, _, rfl, sn, _, rfl, DGet.t (k := kc e) (s9 _ _ n8) hpe, _, rfl, ?_⟩
          rw [valV_dv]
          by_cases h2 : e ∈ seenW seen here
          · rw [if_pos h2]
            exact iteF (no fun z => z.2 h2)
          · rw [if_neg h2]
            refine iteT ⟨_, rfl, d9, hD, s9.at hD _, upd_same, ?_, _, rfl⟩
            rw [snoc, if_pos ⟨h1, h2⟩]
            have t10 : TupS H9 (upd H9 D (.lst (ys ++ [.ref pe]))) := TupS.upd d9 rfl
            exact Cs.snoc (Tps.mt t10 c9) (ce.mt t10)
        · rw [decide_eq_false (fun z => h1 (cl_mem.mp z))]
          exact iteF (iteF (no fun z => h1 z.1))
      · rintro D ys τ H9 hD ⟨_, s9, d9, c9, v, rfl⟩
        have eN : ((nb here).take rs.length).filter (fun y => decide (y ∈ cs ∧ y ∉ seenW seen here)) = newN cs seen here := by rw [lr, List.take_length]; rfl
        rw [eN] at c9
        have l2 : (newN cs seen here).length ≤ 6 := List.length_filter_le _ _
        have lw := Cs.len wc'
        have ly := Cs.len c9
        have lst : st.length ≤ 6 * seen.length := by rw [List.length_append, List.length_singleton] at hlen; omega
        have ls2 : seen.length ≤ (seenW seen here).length := by unfold seenW; split; exact Nat.le_refl _; simp
        refine ⟨td, D, ws, ys, rfl, rfl, s9 _ _ td8, d9, Nat.le_trans (show _ ≤ 700000 by omega) (by decide), ?_⟩
        have t10 : TupS H9 (upd H9 td (.lst (ws ++ ys))) := TupS.upd (s9 _ _ td8) rfl
        have tt : TupS H5 H9 := t6.trans (t7.trans ((TupS.of s8).trans (TupS.of s9)))
        refine ⟨_, less, seenW seen here, st ++ newN cs seen here, ws ++ ys, _, rfl, G2, ?_, (s08.trans s9).at td0 _, ?_, upd_same, ?_, rfl⟩
        · rw [List.length_append]
          by_cases k : here ∈ seen
          · rw [seenW, if_pos k] at *
            have e0 : newN cs seen here = [] := by
              simp only [List.length_append, List.length_singleton] at less
              exact List.length_eq_zero_iff.mp (by omega)
            rw [e0]
            simp
            omega
          · rw [seenW, if_neg k, List.length_append, List.length_singleton]
            omega
        · rw [upd_ne nst]; exact s9 _ _ n8
        · have := paired_append (R := fun (v : V) (n : List Int) => Tp (upd H9 td (.lst (ws ++ ys))) v n) (Tps.mt t10 c9) (Tps.mt (tt.trans t10) wc')
          show Tps _ _ (List.map cl (st ++ newN cs seen here))
          rw [List.map_append]
          exact this

def Sm (cs : List C) (n : Nat) (b : Int) : Prop := cs.Nodup ∧ cs.length ≤ n ∧ cs ≠ [] ∧ ∀ c ∈ cs, (-b ≤ c.1 ∧ c.1 ≤ b) ∧ -b ≤ c.2 ∧ c.2 ≤ b
def J1 (H : Hp) (p : Addr) (t : Int) (σ : St) (H2 : Hp) : Prop := ∃ a' way c ws cs v3, 0 ≤ way ∧ way < 5 ∧ But p H H2 ∧ H2 p = some (.lst [.int a', .int t]) ∧ H c = none ∧ c ≠ p ∧ H2 c = some (.lst ws) ∧ Cs H2 ws cs ∧ Sm cs 12 4 ∧ σ = [some (.ref p), some (.ref c), some (.int way), v3, none, none, none, none]
def J2 (H : Hp) (p : Addr) (t : Int) (σ : St) (H2 : Hp) : Prop := ∃ a' c ws cs v2 v3 v4 v5, But p H H2 ∧ H2 p = some (.lst [.int a', .int t]) ∧ H c = none ∧ c ≠ p ∧ H2 c = some (.lst ws) ∧ Cs H2 ws cs ∧ Sm cs 12 4 ∧ σ = [some (.ref p), some (.ref c), v2, v3, v4, v5, none, none]
def WL (Hb : Hp) (l0 : Addr) (left : Int) (D : Addr) (i : Nat) (ys : List V) (τ : St) (H2 : Hp) : Prop := Hb D = none ∧ Same Hb H2 ∧ H2 D = some (.lst ys) ∧ ∃ ds v, Cs H2 ys ds ∧ ds.Sublist ((nb (0, 0)).take i) ∧ i ≤ ds.length + 1 ∧ (i ≤ ds.length ∨ left < i) ∧ τ = [v, some (.ref l0), some (.int left)]
def WM (Hb : Hp) (sec : C) (D : Addr) (i : Nat) (ys : List V) (τ : St) (H2 : Hp) : Prop := Hb D = none ∧ Same Hb H2 ∧ H2 D = some (.lst ys) ∧ Cs H2 ys (((nb sec).take i).filter fun y => decide (y ∉ nb (0, 0))) ∧ ∃ v, τ = [v]
def WX (Hb : Hp) (ps : Addr) (sec : C) (both : List C) (D : Addr) (i : Nat) (ys : List V) (τ : St) (H2 : Hp) : Prop := Hb D = none ∧ Same Hb H2 ∧ H2 D = some (.lst ys) ∧ Cs H2 ys ((both.take i).filter fun y => decide (y ≠ sec ∧ y ≠ (0, 0))) ∧ ∃ v, τ = [v, some (.ref ps)]
def WY (H : Hp) (p c : Addr) (t : Int) (v2 v3 v4 v5 : Option V) (i : Nat) (σ : St) (H2 : Hp) : Prop := ∃ a' ws cs v6 v7, But p H H2 ∧ H2 p = some (.lst [.int a', .int t]) ∧ H2 c = some (.lst ws) ∧ Cs H2 ws cs ∧ Sm cs (12 + i) (4 + (i : Int)) ∧ σ = [some (.ref p), some (.ref c), v2, v3, v4, v5, v6, v7]
theorem nb0 : (nb (0, 0)).Nodup ∧ ∀ c ∈ nb (0, 0), (-4 ≤ c.1 ∧ c.1 ≤ 4) ∧ -4 ≤ c.2 ∧ c.2 ≤ 4 := by decide
theorem sm0 : Sm [(0, 0)] 12 4 := by unfold Sm; decide
theorem sm2 {sec : C} (h : sec = (2, 0) ∨ sec = (1, 0)) : Sm ((nb (0, 0) ++ (nb sec).filter fun y => decide (y ∉ nb (0, 0))).filter fun y => decide (y ≠ sec ∧ y ≠ (0, 0))) 12 4 := by
  rcases h with rfl | rfl <;> (unfold Sm; decide)
theorem atI_get {ws : List V} {z : Int} (h0 : 0 ≤ z) (h1 : z < (ws.length : Int)) : ∃ v, ws[z.toNat]? = some v ∧ atI ws z = some v := by
  have hk : z.toNat < ws.length := by omega
  have ek : ((z.toNat : Nat) : Int) = z := by omega
  refine ⟨ws[z.toNat], List.getElem?_eq_getElem hk, ?_⟩
  have := atI_nat (xs := ws) (j := z.toNat) (List.getElem?_eq_getElem hk)
  rwa [ek] at this
theorem ok_law_cells {f : Addr} {fd : FuncData} (F : Fun K "_law_cells" "_law_cells" s_law_cells f fd) (bl : Blt mg) (F_law_take : Fn P w K mg base 1 "_law_take" ["_law_purse_here", "_law_many"] (sp_law_take K)) (F_law_beside : Fn P w K mg base 1 "_law_beside" ["_law_cell_here"] (sp_law_beside K)) : FnOk P w K mg base CX0 2 f fd ["_law_purse_here"] (sp_law_cells K) := by
  refine F.ok sc_law_cells (fun vs H Q E h => ?_) (fun cdv A outer s H vs Q E hr h => ?_)
  · obtain ⟨x, _, _, rfl, _⟩ := h; rfl
  · obtain ⟨p, a, t, rfl, hp, q⟩ := h
    refine ⟨_, (pss_cons (ps_set (i := 1) sc_law_cells.nd rfl (Or.inr rfl) (pe_lst (pa_cons (pe_tup (pa_cons pe_int (pa_cons pe_int pa_nil))) pa_nil)))
    (pss_cons (ps_set (i := 2) sc_law_cells.nd rfl (Or.inl rfl) (pe_callG F_law_take (hr.mono (by decide)) rfl (pa_cons (pv 0) (pa_cons pe_int pa_nil))))
    (pss_cons (ps_join (ps_if (pt_cmpR op_in_seq (pv 2) (pe_tup (pa_cons pe_int (pa_cons pe_int pa_nil))) (by with_unfolding_all rfl)) (pss_cons (ps_set (i := 1) sc_law_cells.nd rfl (Or.inr rfl) (pe_callG F_law_beside (hr.mono (by decide)) rfl (pa_cons (pe_tup (pa_cons pe_int (pa_cons pe_int pa_nil))) pa_nil)))
      (pss_cons (ps_set (i := 3) sc_law_cells.nd rfl (Or.inr rfl) (pe_callG F_law_take (hr.mono (by decide)) rfl (pa_cons (pv 0) (pa_cons pe_int pa_nil))))
      (pss_one (ps_set (i := 1) sc_law_cells.nd rfl (Or.inr rfl) (pe_comp (own := ["_law_k"]) (caps := [1, 3]) (cns := ["_law_cells_here", "_law_left"]) ⟨of_decide_eq_true rfl, rfl, of_decide_eq_true rfl, of_decide_eq_true rfl, of_decide_eq_true rfl, rfl, rfl, of_decide_eq_true rfl⟩ rfl (pi_range1 rfl bl.range_ (pa_cons pe_int pa_nil)) (fun _ => (pg_name (i := 0) (of_decide_eq_true rfl) rfl (Or.inl rfl))) (fun _ => (pcs_one (pt_cmpR op_ne (pv 0) (pv 2) (nomark _)))) (fun _ => (pe_ix ix_list (pv 1) (pv 0) (fun _ _ => rfl)))))))) pss_nil))
    (pss_cons (ps_join (ps_if (pt_cmpR op_gt (pv 2) pe_int (nomark _)) (pss_cons (ps_set (i := 4) sc_law_cells.nd rfl (Or.inr rfl) (pe_ix ix_list (pe_lst (pa_cons (pe_tup (pa_cons pe_int (pa_cons pe_int pa_nil))) (pa_cons (pe_tup (pa_cons pe_int (pa_cons pe_int pa_nil))) pa_nil))) (pe_op op_sub (pv 2) pe_int) (fun _ _ => rfl)))
      (pss_cons (ps_set (i := 5) sc_law_cells.nd rfl (Or.inl rfl) (pe_op op_cat (pe_callG F_law_beside (hr.mono (by decide)) rfl (pa_cons (pe_tup (pa_cons pe_int (pa_cons pe_int pa_nil))) pa_nil)) (pe_comp (own := ["_law_other"]) (caps := []) (cns := []) ⟨of_decide_eq_true rfl, rfl, of_decide_eq_true rfl, of_decide_eq_true rfl, of_decide_eq_true rfl, rfl, rfl, of_decide_eq_true rfl⟩ rfl (pi_list (pe_callG F_law_beside (hr.mono (by decide)) rfl (pa_cons (pv 4) pa_nil))) (fun _ => (pg_name (i := 0) (of_decide_eq_true rfl) rfl (Or.inl rfl))) (fun _ => (pcs_one (pt_cmpR (op_notInT (hu64 hr)) (pv 0) (pe_callG F_law_beside (hr.mono (by decide)) rfl (pa_cons (pe_tup (pa_cons pe_int (pa_cons pe_int pa_nil))) pa_nil)) (by with_unfolding_all rfl)))) (fun _ => (pv 0)))))
      (pss_one (ps_set (i := 1) sc_law_cells.nd rfl (Or.inr rfl) (pe_comp (own := ["_law_other"]) (caps := [4]) (cns := ["_law_second"]) ⟨of_decide_eq_true rfl, rfl, of_decide_eq_true rfl, of_decide_eq_true rfl, of_decide_eq_true rfl, rfl, rfl, of_decide_eq_true rfl⟩ rfl (pi_list (pv 5)) (fun _ => (pg_name (i := 0) (of_decide_eq_true rfl) rfl (Or.inl rfl))) (fun _ => (pcs_one (PW.pt (pw_and (pt_cmpR (op_neT (hu64 hr)) (pv 0) (pv 1) (nomark _)) (pw_and1 (pt_cmpR (op_neT (hu64 hr)) (pv 0) (pe_tup (pa_cons pe_int (pa_cons pe_int pa_nil))) (nomark _))))))) (fun _ => (pv 0))))))) pss_nil))
    (pss_cons (ps_for PassesOwn.never rfl (pi_range1 rfl bl.range_ (pa_cons (pe_callG F_law_take (hr.mono (by decide)) rfl (pa_cons (pv 0) (pa_cons (pe_callB (call_min2 rfl) rfl bl.min_ bt_min (pa_cons pe_int (pa_cons (pe_op op_sub pe_int (pe_callB call_len_seq rfl bl.len_ bt_len (pa_cons (pv 1) pa_nil))) pa_nil))) pa_nil))) pa_nil)) (pg_name (i := 6) sc_law_cells.nd rfl (Or.inl rfl))
      (pss_cons (ps_set (i := 7) sc_law_cells.nd rfl (Or.inl rfl) (pe_ix ix_list (pe_callG F_law_beside (hr.mono (by decide)) rfl (pa_cons (pe_ix ix_list (pv 1) (pe_callG F_law_take (hr.mono (by decide)) rfl (pa_cons (pv 0) (pa_cons (pe_callB call_len_seq rfl bl.len_ bt_len (pa_cons (pv 1) pa_nil)) pa_nil))) (fun _ _ => rfl)) pa_nil)) (pe_callG F_law_take (hr.mono (by decide)) rfl (pa_cons (pv 0) (pa_cons pe_int pa_nil))) (fun _ _ => rfl)))
      (pss_one (ps_if (pt_cmpR (op_notInT (hu64 hr)) (pv 7) (pv 1) (by with_unfolding_all rfl)) (pss_one (ps_expr (pe_bm PySem.F.plainAttrs_list PySem.F.slot_list_append PySem.F.type_list_append mt_append (pv 1) (pa_cons (pv 7) pa_nil)))) pss_nil))))
    (pss_one (ps_ret (pv 1)))))))), ?_⟩
    refine ⟨(by show 2 ≤ sizeLine; decide), fun p0 hp0 => ⟨(by show 1 ≤ sizeLine; decide), fun c0 hc0 => ?_⟩⟩
    have s1 := Same.new hp0 (.tup [.int 0, .int 0])
    have s2 := Same.new hc0 (.lst [.ref p0])
    have s02 := s1.trans s2
    have hp2 := s02 _ _ hp
    have c2 : upd (upd H p0 (.tup [.int 0, .int 0])) c0 (.lst [.ref p0]) c0 = some (.lst [.ref p0]) := upd_same
    have cc2 : Cs (upd (upd H p0 (.tup [.int 0, .int 0])) c0 (.lst [.ref p0])) [.ref p0] [(0, 0)] := .cons ⟨p0, rfl, s2 _ _ upd_same⟩ .nil
    have c00 : H c0 = none := s1.free hc0
    have hcp : c0 ≠ p := (ne_of_none hp c00).symm
    generalize upd (upd H p0 (.tup [.int 0, .int 0])) c0 (.lst [.ref p0]) = H2 at *
    refine ⟨_, rfl, p, a, t, 5, rfl, hp2, by decide, by decide, fun a1 way u1 u2 => ?_⟩
    have b3 : But p H (upd H2 p (.lst [.int a1, .int t])) := (But.of s02).trans (But.upd _)
    have p3 : upd H2 p (.lst [.int a1, .int t]) p = some (.lst [.int a1, .int t]) := upd_same
    have c3 : upd H2 p (.lst [.int a1, .int t]) c0 = some (.lst [.ref p0]) := by rw [upd_ne hcp]; exact c2
    have cc3 := Tps.mt (TupS.upd (o' := .lst [.int a1, .int t]) hp2 rfl) cc2
    generalize upd H2 p (.lst [.int a1, .int t]) = H3 at *
    refine ⟨J1 H p t, ?_, ?_⟩
    · refine ⟨_, rfl, (by show 2 ≤ sizeLine; decide), fun pt hpt => ?_⟩
      refine ⟨pt, _, rfl, .inr (SqT.of upd_same), rfl, rfl, _, rfl, ?_⟩
      have s4 := Same.new hpt (.tup [.int 1, .int 2])
      have b4 := b3.trans (But.of s4)
      have p4 := s4 _ _ p3
      have c4 := s4 _ _ c3
      have cc4 := Tps.mono s4 cc3
      generalize upd H3 pt (.tup [.int 1, .int 2]) = H4 at *
      refine ite2 (fun q1 => ?_) (fun q1 => ⟨a1, way, c0, _, _, _, u1, u2, b4, p4, c00, hcp, c4, cc4, sm0, rfl⟩)
      refine ⟨(by show 2 ≤ sizeLine; decide), fun p5 hp5 => ⟨.ref p5, (0, 0), rfl, ⟨p5, rfl, upd_same⟩, fun r ws H6 s6 hr6 l6 c6 => ?_⟩⟩
      have s46 := (Same.new hp5 (.tup [.int 0, .int 0])).trans s6
      refine ⟨_, rfl, p, a1, t, 8, rfl, s46 _ _ p4, by decide, by decide, fun a2 left u3 u4 => ?_⟩
      have hrp : r ≠ p := (ne_of_none ((Same.new hp5 (.tup [.int 0, .int 0])) _ _ p4) hr6).symm
      have b7 : But p H (upd H6 p (.lst [.int a2, .int t])) := (b4.trans (But.of s46)).trans (But.upd _)
      have p7 : upd H6 p (.lst [.int a2, .int t]) p = some (.lst [.int a2, .int t]) := upd_same
      have l7 : upd H6 p (.lst [.int a2, .int t]) r = some (.lst ws) := by rw [upd_ne hrp]; exact l6
      have c7 := Tps.mt (TupS.upd (o' := .lst [.int a2, .int t]) (s46 _ _ p4) rfl) c6
      generalize upd H6 p (.lst [.int a2, .int t]) = H7 at *
      refine gName_i ?_
      dsimp only
      refine tAsg_i (tComp_i ?_)
      refine ⟨6, rfl, by decide, by decide, ?_⟩
      refine go_range (n := 6) (by decide) (WL H7 r left) (fun D hD => ⟨hD, Same.new hD _, upd_same, [], none, .nil, by simp, by simp, by simp, rfl⟩) ?_ ?_ ?_
      · rintro D i ys τ H8 hi ⟨hD, s8, d8, ds, v, c8, sub, _, _, rfl⟩
        refine ⟨d8, ?_⟩
        rw [Cs.len c8]
        have := sub.length_le
        rw [List.length_take] at this
        omega
      · rintro k D i ys τ H8 hi ⟨hD, s8, d8, ds, v, c8, sub, n8, m8, rfl⟩
        have lnb : (nb (0, 0)).length = 6 := rfl
        have snoc : (nb (0, 0)).take (i + 1) = (nb (0, 0)).take i ++ [(nb (0, 0))[i]] := take_snoc (List.getElem?_eq_getElem (by omega))
        refine ⟨_, rfl, _, rfl, rfl, _, rfl, ?_⟩
        refine ite2 (fun q2 => ?_) (fun q2 => ?_)
        · obtain ⟨e, he, ce⟩ := Cs.get (Tps.mono s8 c7) (i := i) (c := (nb (0, 0))[i]) (List.getElem?_eq_getElem (by omega))
          have ae : atI ws (0 + (i : Int)) = some e := by rw [Int.zero_add]; exact atI_nat he
          refine ⟨_, rfl, _, rfl, r, ws, _, _, rfl, rfl, SqL.of (s8 _ _ l7), ae, d8, hD, s8.at hD _, upd_same, ds ++ [(nb (0, 0))[i]], _, ?_, ?_, ?_, ?_, rfl⟩
          · have t9 : TupS H8 (upd H8 D (.lst (ys ++ [e]))) := TupS.upd d8 rfl
            exact Cs.snoc (Tps.mt t9 c8) (ce.mt t9)
          · rw [snoc]; exact sub.append (List.Sublist.refl _)
          · rw [List.length_append, List.length_singleton]; omega
          · rw [List.length_append, List.length_singleton]; omega
        · have q2 : (i : Int) = left := by simpa using q2
          refine ⟨hD, s8, d8, ds, _, c8, ?_, ?_, ?_, rfl⟩
          · rw [snoc]; exact sub.trans (List.sublist_append_left _ _)
          · omega
          · exact .inr (by omega)
      · rintro D ys τ H8 hD ⟨_, s8, d8, ds, v, c8, sub, n8, m8, rfl⟩
        have sub : ds.Sublist (nb (0, 0)) := sub
        refine ⟨a2, way, D, ys, ds, _, u1, u2, b7.trans (But.of s8), s8 _ _ p7, b7.free (by rw [p7]; simp) hD, (ne_of_none p7 hD).symm, d8, c8, ⟨sub.nodup nb0.1, ?_, ?_, fun c hc => nb0.2 c (sub.subset hc)⟩, rfl⟩
        · exact Nat.le_trans sub.length_le (by decide)
        · intro e
          rw [e] at n8
          simp at n8
    · clear b3 p3 c3 cc3 hp2 c2 cc2 s02 hcp c00 s1 s2 hp0 hc0 u1 u2
      rintro σ H3 ⟨a', way', c, ws, cs, v3, w0, w5, b3, p3, c0', hcp', c3, cc3, sm, rfl⟩
      refine ⟨J2 H p t, ?_, ?_⟩
      · refine ⟨_, rfl, _, _, rfl, rfl, _, rfl, ?_⟩
        refine ite2 (fun q1 => ?_) (fun q1 => ?_)
        · have q1 := of_decide_eq_true q1
          refine ⟨(by show 2 ≤ sizeLine; decide), fun pa ha => ⟨(by show 2 ≤ sizeLine; decide), fun pb hb => ⟨(by show 2 ≤ sizeLine; decide), fun ls hls => ?_⟩⟩⟩
          have s4 := Same.new ha (.tup [.int 2, .int 0])
          have s5 := Same.new hb (.tup [.int 1, .int 0])
          have s6 := Same.new hls (.lst [.ref pa, .ref pb])
          have s36 := s4.trans (s5.trans s6)
          have a6 : upd (upd (upd H3 pa (.tup [.int 2, .int 0])) pb (.tup [.int 1, .int 0])) ls (.lst [.ref pa, .ref pb]) pa = some (.tup [.int 2, .int 0]) := s6 _ _ (s5 _ _ upd_same)
          have b6 : upd (upd (upd H3 pa (.tup [.int 2, .int 0])) pb (.tup [.int 1, .int 0])) ls (.lst [.ref pa, .ref pb]) pb = some (.tup [.int 1, .int 0]) := s6 _ _ upd_same
          have l6 : upd (upd (upd H3 pa (.tup [.int 2, .int 0])) pb (.tup [.int 1, .int 0])) ls (.lst [.ref pa, .ref pb]) ls = some (.lst [.ref pa, .ref pb]) := upd_same
          generalize upd (upd (upd H3 pa (.tup [.int 2, .int 0])) pb (.tup [.int 1, .int 0])) ls (.lst [.ref pa, .ref pb]) = H6 at *
          obtain ⟨ps, sec, esec, hsec, ce⟩ : ∃ (ps : Addr) (sec : C), atI [V.ref pa, V.ref pb] (way' - 3) = some (V.ref ps) ∧ (sec = (2, 0) ∨ sec = (1, 0)) ∧ Ce H6 (V.ref ps) sec := by
            have : way' = 3 ∨ way' = 4 := by omega
            rcases this with rfl | rfl
            · exact ⟨pa, (2, 0), rfl, .inl rfl, pa, rfl, a6⟩
            · exact ⟨pb, (1, 0), rfl, .inr rfl, pb, rfl, b6⟩
          refine ⟨_, rfl, _, _, rfl, rfl, ls, _, _, _, rfl, rfl, SqL.of l6, esec, ?_⟩
          refine ⟨(by show 2 ≤ sizeLine; decide), fun p5 hp5 => ⟨.ref p5, (0, 0), rfl, ⟨p5, rfl, upd_same⟩, fun r1 w1 H7 s7 hr7 l7 c7 => ?_⟩⟩
          have s67 := (Same.new hp5 (.tup [.int 0, .int 0])).trans s7
          refine tComp_i ?_
          refine ⟨_, rfl, .ref ps, sec, rfl, ce.mono s67, fun r2 w2 H8 s8 hr8 l8 c8 => ⟨r2, rfl, ⟨w2, SqL.of l8⟩, ?_⟩⟩
          have lnb : (nb sec).length = 6 := rfl
          refine go_list (K := K) (xs := w2) (sml (by rw [Cs.len c8]; omega)) (WM H8 sec) ?_ ?_ ?_ ?_
          · exact fun D hD => ⟨hD, Same.new hD _, upd_same, .nil, none, rfl⟩
          · rintro D i ys τ H9 hi ⟨hD, s9, d9, c9, v, rfl⟩
            refine ⟨SqL.of (s9 _ _ l8), d9, ?_⟩
            rw [Cs.len c9]
            exact Nat.le_trans (List.length_filter_le _ _) (by rw [List.length_take]; omega)
          · rintro k D i x ys τ H9 hi ⟨hD, s9, d9, c9, v, rfl⟩
            obtain ⟨e, hei, cee⟩ := Cs.of (Tps.mono s9 c8) hi
            obtain ⟨pe, rfl, hpe⟩ := cee.key
            have snoc : ((nb sec).take (i + 1)).filter (fun y => decide (y ∉ nb (0, 0))) = ((nb sec).take i).filter (fun y => decide (y ∉ nb (0, 0))) ++ (if e ∉ nb (0, 0) then [e] else []) := by
              rw [take_snoc hei, List.filter_append]
              congr 1
              split <;> simp [*]
            refine ⟨_, rfl, (by show 2 ≤ sizeLine; decide), fun pz hpz => ⟨.ref pz, (0, 0), rfl, ⟨pz, rfl, upd_same⟩, fun r3 w3 H10 s10 hr10 l10 c10 => ?_⟩⟩
            have s90 := (Same.new hpz (.tup [.int 0, .int 0])).trans s10
            have d10 := s90 _ _ d9
            refine ⟨cl e, (nb (0, 0)).map cl, cee.mono s90, rd_lt (SqL.of l10) c10, _, rfl, ?_⟩
            by_cases h1 : e ∈ nb (0, 0)
            · rw [decide_eq_true (cl_mem.mpr h1)]
              exact iteF ⟨hD, s9.trans s90, d10, by rw [snoc, if_neg (by simpa using h1), List.append_nil]; exact Tps.mono s90 c9, _, rfl⟩
            · rw [decide_eq_false (fun z => h1 (cl_mem.mp z))]
              refine iteT ⟨_, rfl, d10, hD, (s9.trans s90).at hD _, upd_same, ?_, _, rfl⟩
              rw [snoc, if_pos h1]
              have t11 : TupS H9 (upd H10 D (.lst (ys ++ [.ref pe]))) := (TupS.of s90).trans (TupS.upd d10 rfl)
              exact Cs.snoc (Tps.mt t11 c9) (cee.mt t11)
          · rintro D ys τ H9 hD ⟨_, s9, d9, c9, v, rfl⟩
            have e2 : (nb sec).take w2.length = nb sec := by rw [Cs.len c8, List.take_length]
            rw [e2] at c9
            have lw1 := Cs.len c7
            have lys := Cs.len c9
            have lny : ((nb sec).filter fun y => decide (y ∉ nb (0, 0))).length ≤ 6 := List.length_filter_le _ _
            have ln0 : (nb (0, 0)).length = 6 := rfl
            have s79 := s8.trans s9
            refine ⟨r1, D, _, _, rfl, rfl, s79 _ _ l7, d9, Nat.le_trans (show _ ≤ 12 by omega) (by decide), fun bo hbo => ?_⟩
            have s10 := Same.new hbo (.lst (w1 ++ ys))
            have bo10 : upd H9 bo (.lst (w1 ++ ys)) bo = some (.lst (w1 ++ ys)) := upd_same
            have cb10 : Cs (upd H9 bo (.lst (w1 ++ ys))) (w1 ++ ys) (nb (0, 0) ++ (nb sec).filter fun y => decide (y ∉ nb (0, 0))) := by
              show Tps _ _ (List.map cl _)
              rw [List.map_append]
              exact paired_append (Tps.mono s10 c9) (Tps.mono (s79.trans s10) c7)
            have s310 := s36.trans (s67.trans (s79.trans s10))
            have s610 := s67.trans (s79.trans s10)
            generalize upd H9 bo (.lst (w1 ++ ys)) = H10 at *
            generalize hboth : (nb (0, 0) ++ (nb sec).filter fun y => decide (y ∉ nb (0, 0))) = both at *
            have lb : both.length ≤ 12 := by rw [← hboth, List.length_append]; omega
            have lwy := Cs.len cb10
            have sm' := sm2 hsec
            rw [hboth] at sm'
            refine gName_i ?_
            dsimp only
            refine tAsg_i ?_
            refine comp_name (K := K) (j := 5) rfl (SqL.of bo10) (sml (by omega)) (WX H10 ps sec both) ?_ ?_ ?_ ?_
            · exact fun D hD => ⟨hD, Same.new hD _, upd_same, .nil, none, rfl⟩
            · rintro D i ys τ H11 hi ⟨hD, s11, d11, c11, v, rfl⟩
              refine ⟨SqL.of (s11 _ _ bo10), d11, ?_⟩
              rw [Cs.len c11]
              exact Nat.le_trans (List.length_filter_le _ _) (by rw [List.length_take]; omega)
            · rintro k D i x ys τ H11 hi ⟨hD, s11, d11, c11, v, rfl⟩
              obtain ⟨e, hei, cee⟩ := Cs.of (Tps.mono s11 cb10) hi
              obtain ⟨pe, rfl, hpe⟩ := cee.key
              have snoc : (both.take (i + 1)).filter (fun y => decide (y ≠ sec ∧ y ≠ (0, 0))) = (both.take i).filter (fun y => decide (y ≠ sec ∧ y ≠ (0, 0))) ++ (if e ≠ sec ∧ e ≠ (0, 0) then [e] else []) := by
                rw [take_snoc hei, List.filter_append]
                congr 1
                split <;> simp [*]
              refine ⟨_, rfl, _, rfl, cl e, cl sec, cee, ce.mono (s610.trans s11), _, rfl, ?_⟩
              by_cases h1 : e = sec
              · refine iteNS (by rw [h1]) ?_
                exact iteF ⟨hD, s11, d11, by rw [snoc, if_neg (fun z => z.1 h1), List.append_nil]; exact c11, _, rfl⟩
              · rw [decide_eq_false (fun z => h1 (cl_inj z))]
                refine iteT ⟨_, rfl, (by show 2 ≤ sizeLine; decide), fun pz hpz => ?_⟩
                have s12 := Same.new hpz (.tup [.int 0, .int 0])
                have d12 := s12 _ _ d11
                refine ⟨cl e, cl (0, 0), cee.mono s12, ⟨pz, rfl, upd_same⟩, _, rfl, ?_⟩
                by_cases h2 : e = (0, 0)
                · refine iteNS (by rw [h2]) ?_
                  exact ⟨hD, s11.trans s12, d12, by rw [snoc, if_neg (fun z => z.2 h2), List.append_nil]; exact Tps.mono s12 c11, _, rfl⟩
                · rw [decide_eq_false (fun z => h2 (cl_inj z))]
                  refine iteT ⟨_, rfl, d12, hD, (s11.trans s12).at hD _, upd_same, ?_, _, rfl⟩
                  rw [snoc, if_pos ⟨h1, h2⟩]
                  have t13 : TupS H11 (upd (upd H11 pz (.tup [.int 0, .int 0])) D (.lst (ys ++ [.ref pe]))) := (TupS.of s12).trans (TupS.upd d12 rfl)
                  exact Cs.snoc (Tps.mt t13 c11) (cee.mt t13)
            · rintro D ys' τ H11 hD ⟨_, s11, d11, c11, v, rfl⟩
              rw [lwy, List.take_length] at c11
              have b11 := b3.trans (But.of (s310.trans s11))
              exact ⟨a', D, ys', _, _, _, _, _, b11, s11 _ _ (s310 _ _ p3), b3.free (by rw [p3]; simp) (s310.free hD), (ne_of_none (s310 _ _ p3) hD).symm, d11, c11, sm', rfl⟩
        · exact ⟨a', c, ws, cs, _, _, _, _, b3, p3, c0', hcp', c3, cc3, sm, rfl⟩
      · clear b3 p3 c0' hcp' c3 cc3 sm w0 w5
        rintro σ H3 ⟨a', c, ws, cs, v2, v3, v4, v5, b3, p3, c0', hcp, c3, cc3, sm, rfl⟩
        obtain ⟨nd, ln, ne, bd⟩ := id sm
        have lw := Cs.len cc3
        refine ⟨_, rfl, _, rfl, c, ws, rfl, .inl (SqL.of c3), _, _, rfl, rfl, _, _, rfl, p, a', t, _, rfl, p3, ?_, ?_, fun a2 z u1 u2 => ?_⟩
        · split <;> omega
        · split <;> omega
        have u3 : z < 25 := by split at u2 <;> omega
        clear u2
        have p4 : upd H3 p (.lst [.int a2, .int t]) p = some (.lst [.int a2, .int t]) := upd_same
        have c4 : upd H3 p (.lst [.int a2, .int t]) c = some (.lst ws) := by rw [upd_ne hcp]; exact c3
        have cc4 := Tps.mt (TupS.upd (o' := .lst [.int a2, .int t]) p3 rfl) cc3
        have b4 : But p H (upd H3 p (.lst [.int a2, .int t])) := b3.trans (But.upd _)
        generalize upd H3 p (.lst [.int a2, .int t]) = H4 at *
        refine ⟨z, rfl, by omega, by omega, for_range (n := z.toNat) (WY H p c t v2 v3 v4 v5) ⟨a2, ws, cs, _, _, b4, p4, c4, cc4, by simpa using sm, rfl⟩ ?_ ?_⟩
        · rintro i σ H5 hi ⟨a5, ws5, cs5, v6, v7, b5, p5, c5, cc5, ⟨nd5, ln5, ne5, bd5⟩, rfl⟩
          have lw5 := Cs.len cc5
          have lpos : 0 < cs5.length := List.length_pos_iff.mpr ne5
          refine ⟨_, rfl, _, rfl, _, rfl, c, ws5, rfl, .inl (SqL.of c5), p, a5, t, _, rfl, p5, by omega, by omega, fun a6 z3 y1 y2 => ?_⟩
          have p6 : upd H5 p (.lst [.int a6, .int t]) p = some (.lst [.int a6, .int t]) := upd_same
          have c6 : upd H5 p (.lst [.int a6, .int t]) c = some (.lst ws5) := by rw [upd_ne hcp]; exact c5
          have cc6 := Tps.mt (TupS.upd (o' := .lst [.int a6, .int t]) p5 rfl) cc5
          have b6 : But p H (upd H5 p (.lst [.int a6, .int t])) := b5.trans (But.upd _)
          generalize upd H5 p (.lst [.int a6, .int t]) = H6 at *
          obtain ⟨v, hv, av⟩ := atI_get y1 y2
          obtain ⟨cc, hcc, ce⟩ := Cs.of cc6 hv
          refine ⟨c, ws5, z3, v, rfl, rfl, SqL.of c6, av, v, cc, rfl, ce, fun r rs H7 s7 hr7 l7 d7 => ?_⟩
          refine ⟨_, rfl, p, a6, t, 6, rfl, s7 _ _ p6, by decide, by decide, fun a8 z4 y3 y4 => ?_⟩
          have hrp : r ≠ p := (ne_of_none p6 hr7).symm
          have p8 : upd H7 p (.lst [.int a8, .int t]) p = some (.lst [.int a8, .int t]) := upd_same
          have t8 : TupS H7 (upd H7 p (.lst [.int a8, .int t])) := TupS.upd (s7 _ _ p6) rfl
          have c8 : upd H7 p (.lst [.int a8, .int t]) c = some (.lst ws5) := by rw [upd_ne hcp]; exact s7 _ _ c6
          have l8 : upd H7 p (.lst [.int a8, .int t]) r = some (.lst rs) := by rw [upd_ne hrp]; exact l7
          have cc8 := Tps.mt t8 (Tps.mono s7 cc6)
          have d8 := Tps.mt t8 d7
          have b8 : But p H (upd H7 p (.lst [.int a8, .int t])) := (b6.trans (But.of s7)).trans (But.upd _)
          generalize upd H7 p (.lst [.int a8, .int t]) = H8 at *
          have lrs : rs.length = 6 := Cs.len d8
          obtain ⟨v', hv', av'⟩ := atI_get (ws := rs) y3 (by omega)
          obtain ⟨e, hee, cee⟩ := Cs.of d8 hv'
          refine ⟨r, rs, z4, v', rfl, rfl, SqL.of l8, av', ?_⟩
          have en : e ∈ nb cc := List.mem_of_getElem? hee
          have hb := bd5 cc (List.mem_of_getElem? hcc)
          have en' := mem_nb.mp en
          refine ⟨_, rfl, _, rfl, cl e, cs5.map cl, cee, rd_lt (SqL.of c8) cc8, _, rfl, ?_⟩
          have ge : ∀ x ∈ cs5, (-(4 + ((i + 1 : Nat) : Int)) ≤ x.1 ∧ x.1 ≤ 4 + ((i + 1 : Nat) : Int)) ∧ -(4 + ((i + 1 : Nat) : Int)) ≤ x.2 ∧ x.2 ≤ 4 + ((i + 1 : Nat) : Int) := fun x hx => by have := bd5 x hx; omega
          by_cases hin : e ∈ cs5
          · rw [decide_eq_true (cl_mem.mpr hin)]
            exact iteF ⟨a8, ws5, cs5, _, _, b8, p8, c8, cc8, ⟨nd5, by omega, ne5, ge⟩, rfl⟩
          · rw [decide_eq_false (fun z => hin (cl_mem.mp z))]
            refine iteT ?_
            refine ⟨_, rfl, .inl ⟨rfl, _, SqL.of c8⟩, _, rfl, c, ws5, _, rfl, rfl, c8, sml (by omega), ?_⟩
            have t9 : TupS H8 (upd H8 c (.lst (ws5 ++ [v']))) := TupS.upd c8 rfl
            refine ⟨a8, ws5 ++ [v'], cs5 ++ [e], _, _, b8.at c0' _, by rw [upd_ne hcp.symm]; exact p8, upd_same, Cs.snoc (Tps.mt t9 cc8) (cee.mt t9), ⟨?_, ?_, by simp, ?_⟩, rfl⟩
            · exact List.nodup_append.mpr ⟨nd5, by simp, fun u hu v hv => by rw [List.mem_singleton.mp hv]; rintro rfl; exact hin hu⟩
            · rw [List.length_append, List.length_singleton]; omega
            · intro x hx
              rcases List.mem_append.mp hx with hx | hx
              · exact ge x hx
              · rw [List.mem_singleton.mp hx]; omega
        · rintro σ H5 ⟨a5, ws5, cs5, v6, v7, b5, p5, c5, cc5, ⟨nd5, ln5, ne5, bd5⟩, rfl⟩
          exact ⟨_, rfl, q c ws5 cs5 H5 b5 c0' c5 cc5 nd5 (by omega) ne5 fun x hx => by have := bd5 x hx; omega⟩

noncomputable def fJ (T : List C) (c : C) : V := .int (ixP (partsL T).tail c)
def WO (H : Hp) (f l du d : Addr) (T : List C) (i : Nat) (σ : St) (H2 : Hp) : Prop := Same H H2 ∧ H2 d = some (.dT (dv (fJ T) ((partsL T).tail.take i).flatten)) ∧ ∃ v3 v4 v5, σ = [some (.ref f), some (.ref l), some (.ref du), some (.ref d), v3, v4, v5]
def WN (H : Hp) (f l du d a : Addr) (T p : List C) (i j : Nat) (σ : St) (H2 : Hp) : Prop := Same H H2 ∧ H2 d = some (.dT (dv (fJ T) (((partsL T).tail.take i).flatten ++ p.take j))) ∧ ∃ v5, σ = [some (.ref f), some (.ref l), some (.ref du), some (.ref d), some (.int (i : Int)), some (.ref a), v5]
def WD (H : Hp) (f l du d : Addr) (o : Obj) (T : List C) (v3 v4 : Option V) (i : Nat) (σ : St) (H2 : Hp) : Prop := Same H H2 ∧ H2 d = some (.frz o (.dT (dv (fJ T) (partsL T).tail.flatten))) ∧ ∃ v5, σ = [some (.ref f), some (.ref l), some (.ref du), some (.ref d), v3, v4, v5]
def WF (Hb : Hp) (T : List C) (D : Addr) (i : Nat) (ys : List V) (τ : St) (H2 : Hp) : Prop := Hb D = none ∧ Same Hb H2 ∧ H2 D = some (.lst ys) ∧ Cs H2 ys ((firsts T).tail.take i) ∧ ∃ v, τ = [v]
def WZ (Hb : Hp) (d pc : Addr) (D : Addr) (i : Nat) (ys : List V) (τ : St) (H2 : Hp) : Prop := Hb D = none ∧ Same Hb H2 ∧ H2 D = some (.lst ys) ∧ ys = [] ∧ ∃ v, τ = [v, some (.ref d), some (.ref pc)]
theorem tail_small {T : List C} (hT : Asc T) {i : Nat} (h : T.length ≤ 100000) : ((partsL T).tail.take i).flatten.length ≤ 100000 := by
  have h1 : ((partsL T).tail.take i).flatten.length ≤ (partsL T).tail.flatten.length := by
    have e : (partsL T).tail.flatten = ((partsL T).tail.take i).flatten ++ ((partsL T).tail.drop i).flatten := by rw [← List.flatten_append, List.take_append_drop]
    rw [e, List.length_append]; omega
  have h2 : (partsL T).tail.flatten.length ≤ T.length := nodup_len (tail_nodup hT) fun x hx => (parts_mem hT x).mp (by
    cases e : partsL T with
    | nil => rw [e] at hx; simp at hx
    | cons a b => rw [e] at hx; simp at hx; simp [hx])
  omega
theorem tail_len (T : List C) : (partsL T).tail.length = (firsts T).tail.length := by rw [List.length_tail, List.length_tail, parts_len]
theorem ok_law_good {f : Addr} {fd : FuncData} (F : Fun K "_law_good" "_law_good" s_law_good f fd) (bl : Blt mg) (F_law_due : Fn P w K mg base 3 "_law_due" ["_law_cells_here"] (sp_law_due K)) (F_law_hangs : Fn P w K mg base 2 "_law_hangs" ["_law_cells_here"] (sp_law_hangs K)) (F_law_same_cells : Fn P w K mg base 2 "_law_same_cells" ["_law_found", "_law_due_here"] (sp_law_same_cells K)) (F_law_beside : Fn P w K mg base 1 "_law_beside" ["_law_cell_here"] (sp_law_beside K)) : FnOk P w K mg base CX0 4 f fd ["_law_found", "_law_cells_here"] (sp_law_good K) := by
  refine F.ok sc_law_good (fun vs H Q E h => ?_) (fun cdv A outer s H vs Q E hr h => ?_)
  · obtain ⟨x, _, _, _, _, _, _, _, _, _, _, rfl, _⟩ := h; rfl
  · obtain ⟨f, l, ws, us, cs, T, m1, M1, m2, M2, H₀, rfl, hf, hps, hl, hc, hz, ⟨B, aT, lT, mT⟩, q⟩ := h
    have hu := hu_of hr
    have nF := tail_nodup aT
    have cT : (m1 - 1, m2 - 1) ∈ T := (mT _).mpr (corner_air B)
    have cm : ∀ x ∈ T, ¬ Hex.Lt x (m1 - 1, m2 - 1) := fun x hx => by
      have := ((mT x).mp hx).1
      unfold Hex.Lt
      simp only
      omega
    have tm := tail_mem aT cT cm
    refine ⟨_, (pss_cons (ps_set (i := 2) sc_law_good.nd rfl (Or.inl rfl) (pe_callG F_law_due (hr.mono (by decide)) rfl (pa_cons (pv 1) pa_nil)))
    (pss_cons (ps_if (pt_not (pt_val (pe_callB call_isinst rfl bl.isinstance_ bt_isinstance (pa_cons (pv 0) (pa_cons (pe_bltn (v := .ty "list") rfl bl.list_ bt_list rfl) pa_nil))))) (pss_one (ps_ret pe_bl)) pss_nil)
    (pss_cons (ps_set (i := 3) sc_law_good.nd rfl (Or.inr rfl) pe_dnewT)
    (pss_cons (ps_for PassesOwn.never rfl (pi_enum rfl bl.enumerate_ (pa_cons (pv 0) pa_nil)) (pg_tup rfl (pgs_cons (pg_name (i := 4) sc_law_good.nd rfl (Or.inl rfl)) (pgs_cons (pg_name (i := 5) sc_law_good.nd rfl (Or.inl rfl)) pgs_nil)))
      (pss_cons (ps_if (PW.pt (pw_or (pt_not (pt_val (pe_callB call_isinst rfl bl.isinstance_ bt_isinstance (pa_cons (pv 5) (pa_cons (pe_bltn (v := .ty "list") rfl bl.list_ bt_list rfl) pa_nil))))) (pw_or (pt_cmpR (op_eqLT (hu64 hr)) (pv 5) (pe_lst pa_nil) (nomark _)) (pw_or1 (pt_not (pt_val (pe_callG F_law_same_cells (hr.mono (by decide)) rfl (pa_cons (pv 5) (pa_cons (pe_callB call_sortedT rfl bl.sorted_ bt_sorted (pa_cons (pv 5) pa_nil)) pa_nil))))))))) (pss_one (ps_ret pe_bl)) pss_nil)
      (pss_cons (ps_for PassesOwn.never rfl (pi_list (pv 5)) (pg_name (i := 6) sc_law_good.nd rfl (Or.inr rfl))
        (pss_cons (ps_if (PW.pt (pw_or (pt_cmp (pc_dnotin hu (pv 6) (pv 2)) (by with_unfolding_all rfl)) (pw_or1 (pt_cmp (pc_din hu (pv 6) (pv 3)) (by with_unfolding_all rfl))))) (pss_one (ps_ret pe_bl)) pss_nil)
        (pss_one (ps_dput hu (pv 3) (pv 6) (pv 4) rfl))))
      (pss_one (ps_if (pt_not (pt_val (pe_callG F_law_hangs (hr.mono (by decide)) rfl (pa_cons (pv 5) pa_nil)))) (pss_one (ps_ret pe_bl)) pss_nil)))))
    (pss_cons (ps_for PassesOwn.never rfl (pi_dict (pv 3)) (pg_name (i := 6) sc_law_good.nd rfl (Or.inr rfl))
      (pss_one (ps_if (pt_cmpR op_gt (pe_callB call_len_seq rfl bl.len_ bt_len (pa_cons (pe_comp (own := ["_law_other"]) (caps := [3, 6]) (cns := ["_law_home", "_law_cell_here"]) ⟨of_decide_eq_true rfl, rfl, of_decide_eq_true rfl, of_decide_eq_true rfl, of_decide_eq_true rfl, rfl, rfl, of_decide_eq_true rfl⟩ rfl (pi_list (pe_callG F_law_beside (hr.mono (by decide)) rfl (pa_cons (pv 6) pa_nil))) (fun _ => (pg_name (i := 0) (of_decide_eq_true rfl) rfl (Or.inl rfl))) (fun _ => (pcs_one (PW.pt (pw_and (pt_cmp (pc_din hu (pv 0) (pv 1)) (by with_unfolding_all rfl)) (pw_and1 (pt_cmpR op_ne (pe_dget hu (pv 1) (pv 0) (fun _ _ => rfl)) (pe_dget hu (pv 1) (pv 2) (fun _ _ => rfl)) (nomark _))))))) (fun _ => (pv 0))) pa_nil)) pe_int (nomark _)) (pss_one (ps_ret pe_bl)) pss_nil)))
    (pss_one (ps_ret (pe_and (pe_cmpR op_eq (pe_callB call_lenDT rfl bl.len_ bt_len (pa_cons (pv 3) pa_nil)) (pe_callB call_lenDT rfl bl.len_ bt_len (pa_cons (pv 2) pa_nil)) (nomark _)) (pe_one (pe_cmpR (op_eqLT (hu64 hr)) (pe_comp (own := ["_law_hole"]) (caps := []) (cns := []) ⟨of_decide_eq_true rfl, rfl, of_decide_eq_true rfl, of_decide_eq_true rfl, of_decide_eq_true rfl, rfl, rfl, of_decide_eq_true rfl⟩ rfl (pi_list (pv 0)) (fun _ => (pg_name (i := 0) (of_decide_eq_true rfl) rfl (Or.inl rfl))) (fun _ => pcs_nil) (fun _ => (pe_ix ix_list (pv 0) pe_int (fun _ _ => rfl)))) (pe_callB call_sortedT rfl bl.sorted_ bt_sorted (pa_cons (pe_comp (own := ["_law_hole"]) (caps := []) (cns := []) ⟨of_decide_eq_true rfl, rfl, of_decide_eq_true rfl, of_decide_eq_true rfl, of_decide_eq_true rfl, rfl, rfl, of_decide_eq_true rfl⟩ rfl (pi_list (pv 0)) (fun _ => (pg_name (i := 0) (of_decide_eq_true rfl) rfl (Or.inl rfl))) (fun _ => pcs_nil) (fun _ => (pe_ix ix_list (pv 0) pe_int (fun _ _ => rfl)))) pa_nil)) (nomark _))))))))))), ?_⟩
    refine ⟨_, rfl, l, us, cs, T, m1, M1, m2, M2, rfl, hl, hc, hz, ⟨B, aT, lT, mT⟩, fun du H1 ds sd1 hdu1 du1 nds mds => ?_⟩
    have hf := sd1 _ _ hf
    have hps := hps.same sd1
    have hl := sd1 _ _ hl
    have hc := Tps.mono sd1 hc
    have q : ∀ H', Same H1 H' → Q (.bl true) H' := fun H' h => q H' (sd1.trans h)
    clear sd1 hdu1
    refine ⟨_, rfl, _, _, "list", true, rfl, .lst hf, kit_list_list K, true, rfl, iteF ?_⟩
    intro d hd
    have s0 := Same.new hd (.dT [])
    refine ⟨_, rfl, f, ws, rfl, SqL.of (s0 _ _ hf), for_enum (xs := ws) (WO H1 f l du d T) ⟨s0, upd_same, _, _, _, rfl⟩ (fun i σ H2 _ h => SqL.of (h.1 _ _ hf)) ?_ ?_⟩
    · rintro i x pe σ H2 hi ⟨s2, d2, v3, v4, v5, rfl⟩ hpe
      obtain ⟨p, a, pu, hp, rfl, _, la, ca⟩ := hps.get hi
      obtain ⟨g, gr, hg, epc, ap, hangs⟩ := tail_get aT hp
      have s3 := s2.trans (Same.new hpe (.tup [.int (i : Int), .ref a]))
      have d3 := (Same.new hpe (.tup [.int (i : Int), .ref a])) _ _ d2
      refine ⟨pe, _, rfl, SqT.of upd_same, rfl, _, _, rfl, _, _, rfl, rfl, ?_⟩
      generalize upd H2 pe (.tup [.int (i : Int), .ref a]) = H3 at *
      refine ⟨_, rfl, _, _, "list", true, rfl, .lst (s3 _ _ la), kit_list_list K, true, rfl, iteF ?_⟩
      refine ⟨_, rfl, (by show 0 ≤ sizeLine; decide), fun e he => ?_⟩
      have s4 := s3.trans (Same.new he (.lst []))
      have d4 := (Same.new he (.lst [])) _ _ d3
      refine ⟨p.map cl, [], rd_lt (SqL.of (s4 _ _ la)) (Tps.mono s4 ca), rd_lt (SqL.of upd_same) .nil, _, rfl, ?_⟩
      rw [decide_eq_false (show ¬ p.map cl = [] by rw [epc]; simp)]
      refine iteF ?_
      generalize upd H3 e (.lst []) = H4 at *
      refine ⟨_, rfl, _, rfl, a, pu, p.map cl, rfl, SqL.of (s4 _ _ la), Tps.mono s4 ca, cl_ne _, fun sl sv nss' hsl ht pm srt => ?_⟩
      have e1 : nss' = p.map cl := LSrt.ext srt (srt_of ap) pm
      subst e1
      have s5 := s4.trans (Same.new hsl (.lst sv))
      have d5 := (Same.new hsl (.lst sv)) _ _ d4
      have sl5 : upd H4 sl (.lst sv) sl = some (.lst sv) := upd_same
      generalize upd H4 sl (.lst sv) = H5 at *
      have pin : ∀ c ∈ p, c ∈ (partsL T).tail.flatten := fun c hc => List.mem_flatten.mpr ⟨p, List.mem_of_getElem? hp, hc⟩
      have lp : p.length ≤ 100000 := Nat.le_trans (nodup_len ap.nodup fun c hc => ((tm c).mp (pin c hc)).1) lT
      refine ⟨a, sl, pu, sv, p.map cl, rfl, s5 _ _ la, Tps.mono s5 ca, sl5, ht, cl_len2 _, by rw [List.length_map]; exact lp, true, rfl, iteF ?_⟩
      -- the cells of the hole
      refine ⟨_, rfl, a, rfl, ⟨pu, SqL.of (s5 _ _ la)⟩, for_list (xs := pu) (WN H1 f l du d a T p i) ⟨s5, by simpa using d5, _, rfl⟩ (fun j σ H6 _ h => SqL.of (h.1 _ _ la)) ?_ ?_⟩
      · rintro j y σ H6 hj ⟨s6, d6, v6, rfl⟩
        obtain ⟨c, hcj, ce⟩ := Cs.of (Tps.mono s6 ca) hj
        obtain ⟨pc, rfl, hpc⟩ := ce.key
        have hcp : c ∈ p := List.mem_of_getElem? hcj
        have hct : c ∈ ds := (mds c).mpr ((tm c).mp (pin c hcp))
        have hnew : c ∉ ((partsL T).tail.take i).flatten ++ p.take j := by
          intro z
          rcases List.mem_append.mp z with z | z
          · obtain ⟨p', hp', hc'⟩ := List.mem_flatten.mp z
            obtain ⟨i', hi'⟩ := List.mem_iff_getElem?.mp hp'
            have hlt : i' < i := by
              by_cases h : i' < i
              · exact h
              · rw [List.getElem?_take_eq_none (by omega)] at hi'; cases hi'
            rw [List.getElem?_take_of_lt hlt] at hi'
            have := (ixP_of nF hi' hc').symm.trans (ixP_of nF hp hcp)
            omega
          · exact not_take ap.nodup hcj z
        refine ⟨_, rfl, _, rfl, du, _, rfl, DGet.t (k := kc c) (s6 _ _ du1) hpc, _, rfl, ?_⟩
        rw [valV_dv, if_pos hct]
        refine iteF ⟨_, rfl, _, rfl, d, _, rfl, DGet.t (k := kc c) d6 hpc, _, rfl, ?_⟩
        rw [valV_dv, if_neg hnew]
        refine iteF ?_
        have hlen : (dv (fJ T) (((partsL T).tail.take i).flatten ++ p.take j)).length < sizeLine := by
          rw [dv_len, List.length_append, List.length_take]
          have := tail_small aT (i := i) lT
          exact Nat.lt_of_le_of_lt (show _ ≤ 200000 by omega) (by decide)
        refine ⟨_, rfl, _, rfl, _, rfl, d, _, rfl, DPut.t (k := kc c) d6 hpc hlen, ?_⟩
        refine ⟨s6.at hd _, ?_, _, rfl⟩
        have ei : V.int (i : Int) = fJ T c := by unfold fJ; rw [ixP_of nF hp hcp]
        rw [upd_same, ei, putK_dv hnew, List.append_assoc, ← take_snoc hcj]
      · rintro σ H6 ⟨s6, d6, v6, rfl⟩
        refine ⟨_, rfl, a, pu, g, gr, rfl, s6 _ _ la, by rw [← epc]; exact Tps.mono s6 ca, by rw [← epc]; exact ap.nodup, by rw [← epc]; exact lp, by rw [← epc]; exact hangs, fun H7 s7 => ⟨true, rfl, iteF ?_⟩⟩
        refine ⟨s6.trans s7, ?_, _, _, _, rfl⟩
        rw [s7 _ _ d6, take_snoc hp, List.flatten_append, Cs.len ca, List.take_length]
        simp
    · rintro σ H2 ⟨s2, d2, v3, v4, v5, rfl⟩
      rw [hps.len, List.take_length] at d2
      refine ⟨_, rfl, d, _, rfl, d2, fun o => for_dict (WD H1 f l du d o T v3 v4) ⟨s2.at hd _, upd_same, _, rfl⟩ (fun i σ H3 h => h.2.1) ?_ ?_⟩
      · rintro i pc ks v σ H3 hi hpc ⟨s3, d3, v5', rfl⟩
        obtain ⟨c, hci, rfl, rfl⟩ := dv_get hi
        have hcF : c ∈ (partsL T).tail.flatten := List.mem_of_getElem? hci
        refine tIfS_i (tTest_i (tOp_i (tCB_i (tCons_i (tComp_i ?_)))))
        refine ⟨_, rfl, .ref pc, c, rfl, Ce.of hpc, fun r rs H4 s4 hr4 l4 c4 => ⟨r, rfl, ⟨rs, SqL.of l4⟩, ?_⟩⟩
        have lnb : (nb c).length = 6 := rfl
        refine go_list (K := K) (xs := rs) (sml (by rw [Cs.len c4]; omega)) (WZ H4 d pc) ?_ ?_ ?_ ?_
        · exact fun D hD => ⟨hD, Same.new hD _, upd_same, rfl, none, rfl⟩
        · rintro D j ys τ H5 hj ⟨hD, s5, d5, rfl, v, rfl⟩
          exact ⟨SqL.of (s5 _ _ l4), d5, Nat.zero_le _⟩
        · rintro k D j y ys τ H5 hj ⟨hD, s5, d5', rfl, v, rfl⟩
          obtain ⟨e, hej, ce⟩ := Cs.of (Tps.mono s5 c4) hj
          obtain ⟨pe, rfl, hpe⟩ := ce.key
          have d5 := s5 _ _ (s4 _ _ d3)
          have hpc5 := s5 _ _ (s4 _ _ hpc)
          have dg : ∀ {c : C} {pc : Addr}, H5 pc = some (.tup ((kc c).map kV)) → DGet H5 d (.ref pc) (valV (dv (fJ T) (partsL T).tail.flatten) (kc c)) := fun {c pc} h => .inr ⟨_, kc c, pc, .inr ⟨o, d5⟩, rfl, h, rfl⟩
          refine ⟨_, rfl, _, rfl, d, _, rfl, dg hpe, _, rfl, ?_⟩
          rw [valV_dv]
          by_cases hin : e ∈ (partsL T).tail.flatten
          · rw [if_pos hin]
            have g1 := dg hpe
            have g2 := dg hpc5
            rw [valV_dv, if_pos hin] at g1
            rw [valV_dv, if_pos hcF] at g2
            refine iteT ⟨_, rfl, _, rfl, d, _, rfl, g1, _, rfl, _, rfl, d, _, rfl, g2, rfl, _, rfl, ?_⟩
            refine iteNS ?_ ⟨hD, s5, d5', rfl, _, rfl⟩
            unfold fJ
            rw [tail_side aT hcF hin (List.mem_of_getElem? hej)]
          · rw [if_neg hin]
            exact iteF (iteF ⟨hD, s5, d5', rfl, _, rfl⟩)
        · rintro D ys τ H5 hD ⟨_, s5, d5', rfl, v, rfl⟩
          refine ⟨D, [], rfl, .inl (SqL.of d5'), _, _, rfl, rfl, _, rfl, iteF ?_⟩
          exact ⟨s3.trans (s4.trans s5), s5 _ _ (s4 _ _ d3), _, rfl⟩
      · rintro σ H3 ⟨s3, d3, v5', rfl⟩
        refine ⟨_, rfl, d, _, rfl, .inr ⟨o, d3⟩, _, rfl, du, _, rfl, .inl (s3 _ _ du1), rfl, ?_⟩
        have e2 : decide (V.int ((dv (fJ T) (partsL T).tail.flatten).length : Int) = V.int ((dk ds).length : Int)) = true := by
          have pF : (partsL T).tail.flatten.Perm ds := (List.perm_ext_iff_of_nodup nF nds).mpr fun x => by rw [tm x, mds x]
          rw [dv_len, dv_len, pF.length_eq]; simp
        rw [e2]
        refine ⟨true, rfl, iteT ?_⟩
        have lw := hps.len
        have zw : ws.length < sizeLine := by
          rw [lw, tail_len, List.length_tail]
          have : (firsts T).length ≤ T.length := List.length_filter_le _ _
          exact sml (by omega)
        have start : ∀ (Hb : Hp) (σ : St) D, Hb D = none → WF Hb T D 0 [] (cst ["_law_hole"] [] σ) (upd Hb D (.lst [])) := fun Hb σ D hD => ⟨hD, Same.new hD _, upd_same, .nil, _, rfl⟩
        have stays : ∀ (Hb : Hp), Same H1 Hb → ∀ D i ys τ H5, i ≤ ws.length → WF Hb T D i ys τ H5 → SqL K H5 f ws ∧ H5 D = some (.lst ys) ∧ ys.length ≤ i := fun Hb sb D i ys τ H5 _ h => ⟨SqL.of (h.2.1 _ _ (sb _ _ hf)), h.2.2.1, by rw [Cs.len h.2.2.2.1, List.length_take]; omega⟩
        have turn : ∀ (Hb : Hp), Same H1 Hb → ∀ D i x ys H5 v, ws[i]? = some x → WF Hb T D i ys [v] H5 → ∃ a pu u0, x = .ref a ∧ H5 a = some (.lst pu) ∧ atI pu 0 = some u0 ∧ H5 D = some (.lst ys) ∧ WF Hb T D (i + 1) (ys ++ [u0]) [some x] (upd H5 D (.lst (ys ++ [u0]))) := by
          rintro Hb sb D i x ys H5 v hi ⟨h5, s5, d5, c5, _⟩
          obtain ⟨p, a, pu, hp, rfl, _, la, ca⟩ := (hps.same (sb.trans s5)).get hi
          obtain ⟨g, gr, hg, epc, ap, hangs⟩ := tail_get aT hp
          obtain ⟨u0, hu0, ce0⟩ := Cs.get ca (i := 0) (c := g) (by rw [epc]; rfl)
          have t5 : TupS H5 (upd H5 D (.lst (ys ++ [u0]))) := TupS.upd d5 rfl
          refine ⟨a, pu, u0, rfl, la, atI_nat (j := 0) hu0, d5, h5, s5.at h5 _, upd_same, ?_, _, rfl⟩
          rw [take_snoc hg]
          exact Cs.snoc (Tps.mt t5 c5) (ce0.mt t5)
        have fin : ∀ (Hb : Hp) D ys τ H5, WF Hb T D ws.length ys τ H5 → Same Hb H5 ∧ H5 D = some (.lst ys) ∧ Cs H5 ys (firsts T).tail := by
          rintro Hb D ys τ H5 ⟨_, s5, d5, c5, _⟩
          rw [lw, tail_len, List.take_length] at c5
          exact ⟨s5, d5, c5⟩
        refine tOp_i ?_
        refine comp_name (K := K) (j := 0) rfl (SqL.of (s3 _ _ hf)) zw (WF H3 T) (start _ _) (stays _ s3) ?_ ?_
        · rintro k D i x ys τ H5 hi w5
          obtain ⟨_, _, _, _, v, rfl⟩ := id w5
          obtain ⟨a, pu, u0, rfl, la, e0, d5, w6⟩ := turn _ s3 D i x ys H5 v hi w5
          exact iteT (B := WF H3 T D (i + 1) ys [some (.ref a)] H5) ⟨_, rfl, a, pu, 0, u0, rfl, rfl, SqL.of la, e0, d5, w6⟩
        rintro D1 y1 τ H5 h5 w5
        obtain ⟨s5, l5, c5⟩ := fin _ _ _ _ _ w5
        refine tCB_i (tCons_i ?_)
        refine comp_name (K := K) (j := 0) rfl (SqL.of (s5 _ _ (s3 _ _ hf))) zw (WF H5 T) (start _ _) (stays _ (s3.trans s5)) ?_ ?_
        · rintro k D i x ys τ H6 hi w5
          obtain ⟨_, _, _, _, v, rfl⟩ := id w5
          obtain ⟨a, pu, u0, rfl, la, e0, d5, w6⟩ := turn _ (s3.trans s5) D i x ys H6 v hi w5
          exact iteT (B := WF H5 T D (i + 1) ys [some (.ref a)] H6) ⟨_, rfl, a, pu, 0, u0, rfl, rfl, SqL.of la, e0, d5, w6⟩
        rintro D2 y2 τ2 H6 h6 w6
        obtain ⟨s6, l6, c6⟩ := fin _ _ _ _ _ w6
        refine ⟨D2, y2, (firsts T).tail.map cl, rfl, SqL.of l6, c6, cl_ne _, fun sl sv nss' hsl ht pm srt => ?_⟩
        have e1 : nss' = (firsts T).tail.map cl := LSrt.ext srt (srt_of (List.Pairwise.sublist (List.tail_sublist _) (asc_firsts aT))) pm
        subst e1
        have s7 := Same.new hsl (.lst sv)
        refine ⟨_, _, rd_lt (SqL.of (s7 _ _ (s6 _ _ l5))) (Tps.mono (s6.trans s7) c5), rd_lt (SqL.of upd_same) ht, ?_⟩
        rw [decide_eq_true rfl]
        exact q _ (s3.trans (s5.trans (s6.trans s7)))

theorem paired_rev {α β : Type} {R : α → β → Prop} : ∀ {a : List α} {b : List β}, Paired R a b → Paired R a.reverse b.reverse
  | _, _, .nil => .nil
  | _, _, .cons h t => by
    rw [List.reverse_cons, List.reverse_cons]
    exact paired_append (.cons h .nil) (paired_rev t)
theorem Cs.rev {H : Hp} {vs : List V} {cs : List C} (h : Cs H vs cs) : Cs H vs.reverse cs.reverse := by
  show Tps H vs.reverse (cs.reverse.map cl)
  rw [List.map_reverse]
  exact paired_rev h
def mv (x y : Int) (c : C) : C := (c.1 + x, c.2 + y)
def WK (Hb : Hp) (cs : List C) (x y : Int) (D : Addr) (i : Nat) (ys : List V) (τ : St) (H2 : Hp) : Prop := Hb D = none ∧ Same Hb H2 ∧ H2 D = some (.lst ys) ∧ Cs H2 ys ((cs.take i).map (mv x y)) ∧ ∃ v, τ = [v, some (.int x), some (.int y)]
/-- the told lists, spoilt -/
def WS (Hb : Hp) (rs : List V) (σ0 : St) (r : Addr) (i : Nat) (σ : St) (H2 : Hp) : Prop := (∀ b o, Hb b = some o → (∀ w ∈ rs, w ≠ .ref b) → H2 b = some o) ∧ (∀ w ∈ rs, ∃ a us, w = .ref a ∧ H2 a = some (.lst us) ∧ us.length ≤ 100000 + i) ∧ ∃ v, σ = σ0 ++ [v]
def J3 (H : Hp) (a : Addr) (p : Addr) (x y : Int) (σ : St) (H2 : Hp) : Prop := ∃ c ws cs, H2 c = some (.lst ws) ∧ Cs H2 ws cs ∧ Fit cs ∧ σ = [some (.ref a), some (.ref p), some (.int x), some (.int y), some (.ref c), none, none, none]
theorem Fit.rev {cs : List C} (h : Fit cs) : Fit cs.reverse := by
  obtain ⟨h1, h2, h3, x, y, h4⟩ := h
  exact ⟨by simpa using h1, (List.reverse_perm cs).nodup_iff.mpr h2, by rw [List.length_reverse]; exact h3, x, y, fun c hc => h4 c (List.mem_reverse.mp hc)⟩
theorem fit_of {cs : List C} {x y : Int} (h1 : cs.Nodup) (h2 : cs.length ≤ 100) (h3 : cs ≠ []) (h4 : ∀ c ∈ cs, (-90 ≤ c.1 ∧ c.1 ≤ 90) ∧ -90 ≤ c.2 ∧ c.2 ≤ 90) : Fit (cs.map (mv x y)) := by
  refine ⟨by simpa using h3, ?_, by rw [List.length_map]; omega, x - 90, y - 90, fun c hc => ?_⟩
  · refine List.pairwise_map.mpr (List.Pairwise.imp (fun {a b} k e => k ?_) h1)
    unfold mv at e
    have e1 := congrArg Prod.fst e
    have e2 := congrArg Prod.snd e
    simp only at e1 e2
    exact Prod.ext (by omega) (by omega)
  · obtain ⟨d, hd, rfl⟩ := List.mem_map.mp hc
    have := h4 d hd
    unfold mv
    simp only
    omega
theorem ok_law {f : Addr} {fd : FuncData} (F : Fun K "law" "law" s_law f fd) (bl : Blt mg) (F_law_purse : Fn P w K mg base 1 "_law_purse" ["_law_cell_here", "_law_way"] (sp_law_purse K)) (F_law_far : Fn P w K mg base 1 "_law_far" ["_law_cell_here"] (sp_law_far K)) (F_holes : Fn P w K mg base 4 "holes" ["cells"] (sp_holes K)) (F_law_good : Fn P w K mg base 4 "_law_good" ["_law_found", "_law_cells_here"] (sp_law_good K)) (F_law_cell : Fn P w K mg base 1 "_law_cell" ["_law_script", "_law_k"] (sp_law_cell K)) (F_law_cells : Fn P w K mg base 2 "_law_cells" ["_law_purse_here"] (sp_law_cells K)) : FnOk P w K mg base CX0 5 f fd ["_law_script"] (spLaw K) := by
  refine F.ok sc_law (fun vs H Q E h => ?_) (fun cdv A outer s H vs Q E hr h => ?_)
  · obtain ⟨x, r, rfl, _⟩ := h; rfl
  · obtain ⟨a, ns, rfl, hS, h63, q⟩ := h
    refine ⟨_, (pss_cons (ps_set (i := 1) sc_law.nd rfl (Or.inl rfl) (pe_callG F_law_purse (hr.mono (by decide)) rfl (pa_cons (pe_callG F_law_cell (hr.mono (by decide)) rfl (pa_cons (pv 0) (pa_cons pe_int pa_nil))) (pa_cons (pe_op op_mod (pe_callG F_law_cell (hr.mono (by decide)) rfl (pa_cons (pv 0) (pa_cons pe_int pa_nil))) pe_int) pa_nil))))
    (pss_cons (ps_set (i := 2) sc_law.nd rfl (Or.inr rfl) (pe_callG F_law_far (hr.mono (by decide)) rfl (pa_cons (pe_callG F_law_cell (hr.mono (by decide)) rfl (pa_cons (pv 0) (pa_cons pe_int pa_nil))) pa_nil)))
    (pss_cons (ps_set (i := 3) sc_law.nd rfl (Or.inr rfl) (pe_callG F_law_far (hr.mono (by decide)) rfl (pa_cons (pe_callG F_law_cell (hr.mono (by decide)) rfl (pa_cons (pv 0) (pa_cons pe_int pa_nil))) pa_nil)))
    (pss_cons (ps_setComp (i := 4) (own := ["_law_cell_here"]) (caps := [2, 3]) (cns := ["_law_right", "_law_low"]) ⟨of_decide_eq_true rfl, rfl, of_decide_eq_true rfl, of_decide_eq_true rfl, of_decide_eq_true rfl, rfl, rfl, of_decide_eq_true rfl⟩ rfl sc_law.nd rfl rfl (pi_list (pe_callG F_law_cells (hr.mono (by decide)) rfl (pa_cons (pv 1) pa_nil))) (fun _ => (pg_name (i := 0) (of_decide_eq_true rfl) rfl (Or.inl rfl))) (fun _ => pcs_nil) (fun _ => (pe_tup (pa_cons (pe_op op_add (pe_ix ix_tup (pv 0) pe_int (fun _ _ => rfl)) (pv 1)) (pa_cons (pe_op op_add (pe_ix ix_tup (pv 0) pe_int (fun _ _ => rfl)) (pv 2)) pa_nil)))) rfl)
    (pss_cons (ps_join (ps_if (pt_cmpR op_eq (pe_op op_mod (pe_op op_fdiv (pe_callG F_law_cell (hr.mono (by decide)) rfl (pa_cons (pv 0) (pa_cons pe_int pa_nil))) pe_int) pe_int) pe_int (nomark _)) (pss_one (ps_expr (pe_bm0 PySem.F.plainAttrs_list PySem.F.slot_list_reverse PySem.F.type_list_reverse mt_reverse (pv 4)))) pss_nil))
    (pss_cons (ps_set (i := 5) sc_law.nd rfl (Or.inl rfl) (pe_callTy call_list_of rfl bl.list_ bt_list (pa_cons (pv 4) pa_nil)))
    (pss_cons (ps_set (i := 6) sc_law.nd rfl (Or.inl rfl) (pe_callG F_holes (hr.mono (by decide)) rfl (pa_cons (pv 5) pa_nil)))
    (pss_cons (ps_if (PW.pt (pw_or (pt_not (pt_val (pe_callG F_law_good (hr.mono (by decide)) rfl (pa_cons (pv 6) (pa_cons (pv 4) pa_nil))))) (pw_or1 (pt_cmpR (op_neLT (hu64 hr)) (pv 5) (pv 4) (nomark _))))) (pss_one (ps_ret pe_bl)) pss_nil)
    (pss_cons (ps_for PassesOwn.never rfl (pi_list (pv 6)) (pg_name (i := 7) sc_law.nd rfl (Or.inl rfl))
      (pss_one (ps_expr (pe_bm PySem.F.plainAttrs_list PySem.F.slot_list_append PySem.F.type_list_append mt_append (pv 7) (pa_cons (pe_tup (pa_cons pe_int (pa_cons pe_int pa_nil))) pa_nil)))))
    (pss_one (ps_ret (pe_callG F_law_good (hr.mono (by decide)) rfl (pa_cons (pe_callG F_holes (hr.mono (by decide)) rfl (pa_cons (pv 5) pa_nil)) (pa_cons (pv 4) pa_nil)))))))))))))), ?_⟩
    refine ⟨_, rfl, a, ns, 1, rfl, hS, by decide, fun z1 => ?_⟩
    refine ⟨_, rfl, a, ns, 0, rfl, hS, Int.le_refl 0, fun z0 => ?_⟩
    refine ⟨_, _, rfl, rfl, (by show (0 : Int) < 6; decide), _, _, rfl, Int.emod_nonneg _ (by decide), Int.lt_trans (Int.emod_lt_of_pos _ (by decide)) (by decide), fun p pa pt hp => ?_⟩
    have s1 := Same.new hp (.lst [.int pa, .int pt])
    refine ⟨_, rfl, a, ns, 2, rfl, s1.seq hS, by decide, fun z2 => ⟨z2, rfl, fun w2 => ?_⟩⟩
    refine ⟨_, rfl, a, ns, 3, rfl, s1.seq hS, by decide, fun z3 => ⟨z3, rfl, fun w3 => ?_⟩⟩
    refine gName_i ?_
    dsimp only
    refine tSeq_i ?_
    show tComp _ _ _ _ _ _ _ _ _
    refine tComp_i ?_
    refine ⟨_, rfl, p, pa, pt, rfl, upd_same, fun c ws cs H1 b1 hc1 l1 c1 n1 zc ne1 bd1 => ⟨c, rfl, ⟨ws, SqL.of l1⟩, ?_⟩⟩
    have s01 : Same H H1 := fun b o z => b1 b o (ne_of_none z hp) (s1 _ _ z)
    have lws := Cs.len c1
    refine go_list (K := K) (xs := ws) (sml (by omega)) (WK H1 cs w2 w3) ?_ ?_ ?_ ?_
    · exact fun D hD => ⟨hD, Same.new hD _, upd_same, .nil, none, rfl⟩
    · rintro D i ys τ H5 hi ⟨hD, s5, d5, c5, v, rfl⟩
      refine ⟨SqL.of (s5 _ _ l1), d5, ?_⟩
      rw [Cs.len c5, List.length_map, List.length_take]
      omega
    · rintro k D i x ys τ H5 hi ⟨hD, s5, d5, c5, v, rfl⟩
      obtain ⟨e, hei, ce⟩ := Cs.of (Tps.mono s5 c1) hi
      obtain ⟨pe, rfl, hpe⟩ := ce.key
      refine iteT (B := WK H1 cs w2 w3 D (i + 1) ys [some (.ref pe), some (.int w2), some (.int w3)] H5) ?_
      refine ⟨_, rfl, pe, _, 0, _, rfl, rfl, SqT.of hpe, rfl, _, rfl, _, _, rfl, rfl, _, rfl, pe, _, 1, _, rfl, rfl, SqT.of hpe, rfl, _, rfl, _, _, rfl, rfl, (by show 2 ≤ sizeLine; decide), fun pn hpn => ?_⟩
      have s6 := Same.new hpn (.tup [.int (e.1 + w2), .int (e.2 + w3)])
      have d6 := s6 _ _ d5
      have ce6 : Ce (upd H5 pn (.tup [.int (e.1 + w2), .int (e.2 + w3)])) (.ref pn) (mv w2 w3 e) := ⟨pn, rfl, upd_same⟩
      have c6 := Tps.mono s6 c5
      have s56 := s5.trans s6
      refine ⟨d6, hD, s56.at hD _, upd_same, ?_, _, rfl⟩
      generalize upd H5 pn (.tup [.int (e.1 + w2), .int (e.2 + w3)]) = H6 at *
      have t7 : TupS H6 (upd H6 D (.lst (ys ++ [.ref pn]))) := TupS.upd d6 rfl
      rw [take_snoc hei, List.map_append]
      exact Cs.snoc (Tps.mt t7 c6) (ce6.mt t7)
    rintro D ys τ H2 hD ⟨_, s2, d2, c2, v, rfl⟩
    rw [lws, List.take_length] at c2
    have fit0 : Fit (cs.map (mv w2 w3)) := fit_of n1 zc ne1 bd1
    refine ⟨J3 H a p w2 w3, ?_, ?_⟩
    · refine ⟨_, rfl, a, ns, 0, rfl, (s01.trans s2).seq hS, Int.le_refl 0, fun z5 => ?_⟩
      refine ⟨_, _, rfl, rfl, ⟨by decide, by decide⟩, _, _, rfl, rfl, (by show (0 : Int) < 2; decide), rfl, _, rfl, ?_⟩
      refine ite2 (fun _ => ?_) (fun _ => ⟨D, ys, _, d2, c2, fit0, rfl⟩)
      refine ⟨_, rfl, .inl ⟨rfl, _, SqL.of d2⟩, D, ys, rfl, rfl, d2, ?_⟩
      have t3 : TupS H2 (upd H2 D (.lst ys.reverse)) := TupS.upd d2 rfl
      exact ⟨D, ys.reverse, _, upd_same, Cs.rev (Tps.mt t3 c2), fit0.rev, rfl⟩
    clear d2 c2 fit0 s2 hD s01 lws bd1 ne1 zc n1 c1 l1 hc1 b1 v
    rintro σ H1 ⟨c, ws, cs, l1, c1, fit, rfl⟩
    obtain ⟨ne1, n1, z1, _⟩ := id fit
    refine ⟨_, rfl, c, ws, rfl, .inl (SqL.of l1), fun h hh => ?_⟩
    have s2 := Same.new hh (.lst ws)
    have h2 : upd H1 h (.lst ws) h = some (.lst ws) := upd_same
    have c2 := s2 _ _ l1
    have cc2 := Tps.mono s2 c1
    generalize upd H1 h (.lst ws) = H2 at *
    refine ⟨_, rfl, h, ws, cs, rfl, h2, cc2, fit, fun r rs H3 T m1 M1 m2 M2 s3 hr3 l3 air ps3 nw3 => ?_⟩
    obtain ⟨B, aT, lT, mT⟩ := id air
    refine ⟨_, rfl, _, rfl, r, c, rs, ws, cs, T, m1, M1, m2, M2, H2, rfl, l3, ps3, s3 _ _ c2, Tps.mono s3 cc2, z1, air, fun H4 s4 => ⟨true, rfl, iteF ?_⟩⟩
    have s24 := s3.trans s4
    refine ⟨_, rfl, _, rfl, cs.map cl, cs.map cl, rd_lt (SqL.of (s24 _ _ h2)) (Tps.mono s24 cc2), rd_lt (SqL.of (s24 _ _ c2)) (Tps.mono s24 cc2), _, rfl, iteNS rfl ?_⟩
    have ps4 : Ps H2 H4 rs (partsL T).tail := ps3.same s4
    have l4 := s4 _ _ l3
    have lr := ps4.len
    have zr : rs.length ≤ 100000 := by
      rw [lr, tail_len, List.length_tail]
      have : (firsts T).length ≤ T.length := List.length_filter_le _ _
      omega
    have zp : ∀ {i : Nat} {pp : List C}, (partsL T).tail[i]? = some pp → pp.length ≤ 100000 := fun {i pp} hp => by
      have h1 : pp.Sublist (partsL T).tail.flatten := List.sublist_flatten_of_mem (List.mem_of_getElem? hp)
      have h2 := h1.length_le
      have h3 := tail_small aT (i := (partsL T).tail.length) lT
      rw [List.take_length] at h3
      omega
    have nrs : ∀ b o, H2 b = some o → ∀ w ∈ rs, w ≠ .ref b := by
      intro b o hb w hw e
      obtain ⟨i, hi⟩ := List.mem_iff_getElem?.mp hw
      obtain ⟨_, g, _, _, e', n, _⟩ := ps4.get hi
      rw [e] at e'
      injection e' with e'
      rw [e', n] at hb
      cases hb
    refine ⟨_, rfl, r, rfl, ⟨rs, SqL.of l4⟩, for_list (xs := rs) (WS H4 rs [some (.ref a), some (.ref p), some (.int w2), some (.int w3), some (.ref c), some (.ref h), some (.ref r)] r) ⟨fun b o z _ => z, ?_, _, rfl⟩ (fun i σ H6 _ w => SqL.of (w.1 _ _ l4 nw3)) ?_ ?_⟩
    · intro w hw
      obtain ⟨i, hi⟩ := List.mem_iff_getElem?.mp hw
      obtain ⟨pp, g, gu, hpp, e', _, lg, cg⟩ := ps4.get hi
      exact ⟨g, gu, e', lg, by rw [Cs.len cg]; have := zp hpp; omega⟩
    · rintro i x σ H6 hi ⟨k6, w6, v, rfl⟩
      have hx : x ∈ rs := List.mem_of_getElem? hi
      obtain ⟨g, gu, rfl, lg, zg⟩ := w6 x hx
      have hir : i < rs.length := (List.getElem?_eq_some_iff.mp hi).1
      refine ⟨_, rfl, .inl ⟨rfl, _, SqL.of lg⟩, (by show 2 ≤ sizeLine; decide), fun e he => ?_⟩
      have s7 := Same.new he (.tup [.int 0, .int 0])
      refine ⟨g, gu, _, rfl, rfl, s7 _ _ lg, Nat.lt_of_le_of_lt (show _ ≤ 200000 by omega) (by decide), ?_⟩
      refine ⟨fun b o hb hw => ?_, fun w hw => ?_, _, rfl⟩
      · rw [upd_ne (fun z => hw _ hx (by rw [z]))]
        exact s7 _ _ (k6 b o hb hw)
      · obtain ⟨g', gu', rfl, lg', zg'⟩ := w6 w hw
        by_cases e2 : g' = g
        · subst e2
          exact ⟨g', _, rfl, upd_same, by rw [List.length_append, List.length_singleton]; omega⟩
        · exact ⟨g', gu', rfl, by rw [upd_ne e2]; exact s7 _ _ lg', by omega⟩
    · rintro σ H6 ⟨k6, w6, v, rfl⟩
      have up : ∀ b o, H2 b = some o → H6 b = some o := fun b o hb => k6 b o (s24 _ _ hb) (nrs b o hb)
      have cc6 : Cs H6 ws cs := Tps.mono up cc2
      refine ⟨_, rfl, h, ws, cs, rfl, up _ _ h2, cc6, fit, fun r8 rs8 H8 T8 n1' N1' n2' N2' s8 hr8 l8 air8 ps8 _ => ?_⟩
      exact ⟨_, rfl, r8, c, rs8, ws, cs, T8, n1', N1', n2', N2', H6, rfl, l8, ps8, s8 _ _ (up _ _ c2), Tps.mono s8 cc6, z1, air8, fun H9 _ => q _⟩
end
theorem all_mk {l : PySem.W.OpenLaw} {w : World} {K : PySem.W.Frag} {h : Heap} {mg : Str → Option Value} {fa f0 f1 f2 f3 f4 f5 f6 f7 f8 f9 f10 f11 f12 f13 f14 f15 f16 f17 f18 : Addr} (X : K.In h) (G : h.Ns mainGlobals mg) (hfa : mg "law" = some (.ref fa))
    {od0 an0 od1 an1 od2 an2 od3 an3 od4 an4 od5 an5 od6 an6 od7 an7 od8 an8 od9 an9 od10 an10 od11 an11 od12 an12 od13 an13 od14 an14 od15 an15 od16 an16 od17 an17 od18 an18 : Option Addr} {sl0 sl1 sl2 sl3 sl4 sl5 sl6 sl7 sl8 sl9 sl10 sl11 sl12 sl13 sl14 sl15 sl16 sl17 sl18 : Array (Option Value)} {oc0 kV0 dc0 pm0 cd0 ct0 oc1 kV1 dc1 pm1 cd1 ct1 oc2 kV2 dc2 pm2 cd2 ct2 oc3 kV3 dc3 pm3 cd3 ct3 oc4 kV4 dc4 pm4 cd4 ct4 oc5 kV5 dc5 pm5 cd5 ct5 oc6 kV6 dc6 pm6 cd6 ct6 oc7 kV7 dc7 pm7 cd7 ct7 oc8 kV8 dc8 pm8 cd8 ct8 oc9 kV9 dc9 pm9 cd9 ct9 oc10 kV10 dc10 pm10 cd10 ct10 oc11 kV11 dc11 pm11 cd11 ct11 oc12 kV12 dc12 pm12 cd12 ct12 oc13 kV13 dc13 pm13 cd13 ct13 oc14 kV14 dc14 pm14 cd14 ct14 oc15 kV15 dc15 pm15 cd15 ct15 oc16 kV16 dc16 pm16 cd16 ct16 oc17 kV17 dc17 pm17 cd17 ct17 oc18 kV18 dc18 pm18 cd18 ct18 : Value}
    (a0 : PySem.W.nsIn K mainGlobals "beside" = some (some (.ref f0))) (l0 : K.lookup f0 = some ⟨oc0, od0, .func (PySem.W.fnOf "beside" "beside" (defArgs s_beside) (defBody s_beside) (defScope s_beside) .none kV0 dc0 pm0 an0 cd0 ct0), sl0⟩) (c0 : PySem.W.codeIn K cd0 "beside" = true) (k0 : PySem.W.keepIn K (.ref f0) = true)
    (a1 : PySem.W.nsIn K mainGlobals "marked" = some (some (.ref f1))) (l1 : K.lookup f1 = some ⟨oc1, od1, .func (PySem.W.fnOf "marked" "marked" (defArgs s_marked) (defBody s_marked) (defScope s_marked) .none kV1 dc1 pm1 an1 cd1 ct1), sl1⟩) (c1 : PySem.W.codeIn K cd1 "marked" = true) (k1 : PySem.W.keepIn K (.ref f1) = true)
    (a2 : PySem.W.nsIn K mainGlobals "part_from" = some (some (.ref f2))) (l2 : K.lookup f2 = some ⟨oc2, od2, .func (PySem.W.fnOf "part_from" "part_from" (defArgs s_part_from) (defBody s_part_from) (defScope s_part_from) .none kV2 dc2 pm2 an2 cd2 ct2), sl2⟩) (c2 : PySem.W.codeIn K cd2 "part_from" = true) (k2 : PySem.W.keepIn K (.ref f2) = true)
    (a3 : PySem.W.nsIn K mainGlobals "parts" = some (some (.ref f3))) (l3 : K.lookup f3 = some ⟨oc3, od3, .func (PySem.W.fnOf "parts" "parts" (defArgs s_parts) (defBody s_parts) (defScope s_parts) .none kV3 dc3 pm3 an3 cd3 ct3), sl3⟩) (c3 : PySem.W.codeIn K cd3 "parts" = true) (k3 : PySem.W.keepIn K (.ref f3) = true)
    (a4 : PySem.W.nsIn K mainGlobals "cells_around" = some (some (.ref f4))) (l4 : K.lookup f4 = some ⟨oc4, od4, .func (PySem.W.fnOf "cells_around" "cells_around" (defArgs s_cells_around) (defBody s_cells_around) (defScope s_cells_around) .none kV4 dc4 pm4 an4 cd4 ct4), sl4⟩) (c4 : PySem.W.codeIn K cd4 "cells_around" = true) (k4 : PySem.W.keepIn K (.ref f4) = true)
    (a5 : PySem.W.nsIn K mainGlobals "holes" = some (some (.ref f5))) (l5 : K.lookup f5 = some ⟨oc5, od5, .func (PySem.W.fnOf "holes" "holes" (defArgs s_holes) (defBody s_holes) (defScope s_holes) .none kV5 dc5 pm5 an5 cd5 ct5), sl5⟩) (c5 : PySem.W.codeIn K cd5 "holes" = true) (k5 : PySem.W.keepIn K (.ref f5) = true)
    (a6 : PySem.W.nsIn K mainGlobals "_law_cell" = some (some (.ref f6))) (l6 : K.lookup f6 = some ⟨oc6, od6, .func (PySem.W.fnOf "_law_cell" "_law_cell" (defArgs s_law_cell) (defBody s_law_cell) (defScope s_law_cell) .none kV6 dc6 pm6 an6 cd6 ct6), sl6⟩) (c6 : PySem.W.codeIn K cd6 "_law_cell" = true) (k6 : PySem.W.keepIn K (.ref f6) = true)
    (a7 : PySem.W.nsIn K mainGlobals "_law_purse" = some (some (.ref f7))) (l7 : K.lookup f7 = some ⟨oc7, od7, .func (PySem.W.fnOf "_law_purse" "_law_purse" (defArgs s_law_purse) (defBody s_law_purse) (defScope s_law_purse) .none kV7 dc7 pm7 an7 cd7 ct7), sl7⟩) (c7 : PySem.W.codeIn K cd7 "_law_purse" = true) (k7 : PySem.W.keepIn K (.ref f7) = true)
    (a8 : PySem.W.nsIn K mainGlobals "_law_take" = some (some (.ref f8))) (l8 : K.lookup f8 = some ⟨oc8, od8, .func (PySem.W.fnOf "_law_take" "_law_take" (defArgs s_law_take) (defBody s_law_take) (defScope s_law_take) .none kV8 dc8 pm8 an8 cd8 ct8), sl8⟩) (c8 : PySem.W.codeIn K cd8 "_law_take" = true) (k8 : PySem.W.keepIn K (.ref f8) = true)
    (a9 : PySem.W.nsIn K mainGlobals "_law_beside" = some (some (.ref f9))) (l9 : K.lookup f9 = some ⟨oc9, od9, .func (PySem.W.fnOf "_law_beside" "_law_beside" (defArgs s_law_beside) (defBody s_law_beside) (defScope s_law_beside) .none kV9 dc9 pm9 an9 cd9 ct9), sl9⟩) (c9 : PySem.W.codeIn K cd9 "_law_beside" = true) (k9 : PySem.W.keepIn K (.ref f9) = true)
    (a10 : PySem.W.nsIn K mainGlobals "_law_far" = some (some (.ref f10))) (l10 : K.lookup f10 = some ⟨oc10, od10, .func (PySem.W.fnOf "_law_far" "_law_far" (defArgs s_law_far) (defBody s_law_far) (defScope s_law_far) .none kV10 dc10 pm10 an10 cd10 ct10), sl10⟩) (c10 : PySem.W.codeIn K cd10 "_law_far" = true) (k10 : PySem.W.keepIn K (.ref f10) = true)
    (a11 : PySem.W.nsIn K mainGlobals "_law_whole" = some (some (.ref f11))) (l11 : K.lookup f11 = some ⟨oc11, od11, .func (PySem.W.fnOf "_law_whole" "_law_whole" (defArgs s_law_whole) (defBody s_law_whole) (defScope s_law_whole) .none kV11 dc11 pm11 an11 cd11 ct11), sl11⟩) (c11 : PySem.W.codeIn K cd11 "_law_whole" = true) (k11 : PySem.W.keepIn K (.ref f11) = true)
    (a12 : PySem.W.nsIn K mainGlobals "_law_same_cells" = some (some (.ref f12))) (l12 : K.lookup f12 = some ⟨oc12, od12, .func (PySem.W.fnOf "_law_same_cells" "_law_same_cells" (defArgs s_law_same_cells) (defBody s_law_same_cells) (defScope s_law_same_cells) .none kV12 dc12 pm12 an12 cd12 ct12), sl12⟩) (c12 : PySem.W.codeIn K cd12 "_law_same_cells" = true) (k12 : PySem.W.keepIn K (.ref f12) = true)
    (a13 : PySem.W.nsIn K mainGlobals "_law_cells" = some (some (.ref f13))) (l13 : K.lookup f13 = some ⟨oc13, od13, .func (PySem.W.fnOf "_law_cells" "_law_cells" (defArgs s_law_cells) (defBody s_law_cells) (defScope s_law_cells) .none kV13 dc13 pm13 an13 cd13 ct13), sl13⟩) (c13 : PySem.W.codeIn K cd13 "_law_cells" = true) (k13 : PySem.W.keepIn K (.ref f13) = true)
    (a14 : PySem.W.nsIn K mainGlobals "_law_reached" = some (some (.ref f14))) (l14 : K.lookup f14 = some ⟨oc14, od14, .func (PySem.W.fnOf "_law_reached" "_law_reached" (defArgs s_law_reached) (defBody s_law_reached) (defScope s_law_reached) .none kV14 dc14 pm14 an14 cd14 ct14), sl14⟩) (c14 : PySem.W.codeIn K cd14 "_law_reached" = true) (k14 : PySem.W.keepIn K (.ref f14) = true)
    (a15 : PySem.W.nsIn K mainGlobals "_law_due" = some (some (.ref f15))) (l15 : K.lookup f15 = some ⟨oc15, od15, .func (PySem.W.fnOf "_law_due" "_law_due" (defArgs s_law_due) (defBody s_law_due) (defScope s_law_due) .none kV15 dc15 pm15 an15 cd15 ct15), sl15⟩) (c15 : PySem.W.codeIn K cd15 "_law_due" = true) (k15 : PySem.W.keepIn K (.ref f15) = true)
    (a16 : PySem.W.nsIn K mainGlobals "_law_hangs" = some (some (.ref f16))) (l16 : K.lookup f16 = some ⟨oc16, od16, .func (PySem.W.fnOf "_law_hangs" "_law_hangs" (defArgs s_law_hangs) (defBody s_law_hangs) (defScope s_law_hangs) .none kV16 dc16 pm16 an16 cd16 ct16), sl16⟩) (c16 : PySem.W.codeIn K cd16 "_law_hangs" = true) (k16 : PySem.W.keepIn K (.ref f16) = true)
    (a17 : PySem.W.nsIn K mainGlobals "_law_good" = some (some (.ref f17))) (l17 : K.lookup f17 = some ⟨oc17, od17, .func (PySem.W.fnOf "_law_good" "_law_good" (defArgs s_law_good) (defBody s_law_good) (defScope s_law_good) .none kV17 dc17 pm17 an17 cd17 ct17), sl17⟩) (c17 : PySem.W.codeIn K cd17 "_law_good" = true) (k17 : PySem.W.keepIn K (.ref f17) = true)
    (a18 : PySem.W.nsIn K mainGlobals "law" = some (some (.ref f18))) (l18 : K.lookup f18 = some ⟨oc18, od18, .func (PySem.W.fnOf "law" "law" (defArgs s_law) (defBody s_law) (defScope s_law) .none kV18 dc18 pm18 an18 cd18 ct18), sl18⟩) (c18 : PySem.W.codeIn K cd18 "law" = true) (k18 : PySem.W.keepIn K (.ref f18) = true)
    (z_bool : PySem.W.nsIn K mainGlobals "bool" = some none)
    (z_enumerate : PySem.W.nsIn K mainGlobals "enumerate" = some none)
    (z_int : PySem.W.nsIn K mainGlobals "int" = some none)
    (z_isinstance : PySem.W.nsIn K mainGlobals "isinstance" = some none)
    (z_len : PySem.W.nsIn K mainGlobals "len" = some none)
    (z_list : PySem.W.nsIn K mainGlobals "list" = some none)
    (z_max : PySem.W.nsIn K mainGlobals "max" = some none)
    (z_min : PySem.W.nsIn K mainGlobals "min" = some none)
    (z_range : PySem.W.nsIn K mainGlobals "range" = some none)
    (z_sorted : PySem.W.nsIn K mainGlobals "sorted" = some none)
    (z_tuple : PySem.W.nsIn K mainGlobals "tuple" = some none)
    : ∃ fd : FuncData, (∀ (s : Shared) (v : Value), BindsTo s fd ⟨[v], []⟩ [("_law_script", v)]) ∧ ∀ base : Heap, K.In base → base.Ns mainGlobals mg → FnOk l.prog w K mg base CX0 5 fa fd ["_law_script"] (spLaw K) := by
  have e := hfa.symm.trans (PySem.W.mg_of X G a18)
  cases e
  have bl : Blt mg := ⟨PySem.W.mg_none_of X G z_bool, PySem.W.mg_none_of X G z_enumerate, PySem.W.mg_none_of X G z_int, PySem.W.mg_none_of X G z_isinstance, PySem.W.mg_none_of X G z_len, PySem.W.mg_none_of X G z_list, PySem.W.mg_none_of X G z_max, PySem.W.mg_none_of X G z_min, PySem.W.mg_none_of X G z_range, PySem.W.mg_none_of X G z_sorted, PySem.W.mg_none_of X G z_tuple⟩
  have T0 := fun_mk (st := s_beside) l0 c0 k0
  have b0 := T0.binds (ps := ["cell"]) fun _ _ _ _ _ _ us hl => match us, hl with | [_], _ => rfl
  have T1 := fun_mk (st := s_marked) l1 c1 k1
  have b1 := T1.binds (ps := ["cells"]) fun _ _ _ _ _ _ us hl => match us, hl with | [_], _ => rfl
  have T2 := fun_mk (st := s_part_from) l2 c2 k2
  have b2 := T2.binds (ps := ["start", "free"]) fun _ _ _ _ _ _ us hl => match us, hl with | [_, _], _ => rfl
  have T3 := fun_mk (st := s_parts) l3 c3 k3
  have b3 := T3.binds (ps := ["cells"]) fun _ _ _ _ _ _ us hl => match us, hl with | [_], _ => rfl
  have T4 := fun_mk (st := s_cells_around) l4 c4 k4
  have b4 := T4.binds (ps := ["cells"]) fun _ _ _ _ _ _ us hl => match us, hl with | [_], _ => rfl
  have T5 := fun_mk (st := s_holes) l5 c5 k5
  have b5 := T5.binds (ps := ["cells"]) fun _ _ _ _ _ _ us hl => match us, hl with | [_], _ => rfl
  have T6 := fun_mk (st := s_law_cell) l6 c6 k6
  have b6 := T6.binds (ps := ["_law_script", "_law_k"]) fun _ _ _ _ _ _ us hl => match us, hl with | [_, _], _ => rfl
  have T7 := fun_mk (st := s_law_purse) l7 c7 k7
  have b7 := T7.binds (ps := ["_law_cell_here", "_law_way"]) fun _ _ _ _ _ _ us hl => match us, hl with | [_, _], _ => rfl
  have T8 := fun_mk (st := s_law_take) l8 c8 k8
  have b8 := T8.binds (ps := ["_law_purse_here", "_law_many"]) fun _ _ _ _ _ _ us hl => match us, hl with | [_, _], _ => rfl
  have T9 := fun_mk (st := s_law_beside) l9 c9 k9
  have b9 := T9.binds (ps := ["_law_cell_here"]) fun _ _ _ _ _ _ us hl => match us, hl with | [_], _ => rfl
  have T10 := fun_mk (st := s_law_far) l10 c10 k10
  have b10 := T10.binds (ps := ["_law_cell_here"]) fun _ _ _ _ _ _ us hl => match us, hl with | [_], _ => rfl
  have T11 := fun_mk (st := s_law_whole) l11 c11 k11
  have b11 := T11.binds (ps := ["_law_found"]) fun _ _ _ _ _ _ us hl => match us, hl with | [_], _ => rfl
  have T12 := fun_mk (st := s_law_same_cells) l12 c12 k12
  have b12 := T12.binds (ps := ["_law_found", "_law_due_here"]) fun _ _ _ _ _ _ us hl => match us, hl with | [_, _], _ => rfl
  have T13 := fun_mk (st := s_law_cells) l13 c13 k13
  have b13 := T13.binds (ps := ["_law_purse_here"]) fun _ _ _ _ _ _ us hl => match us, hl with | [_], _ => rfl
  have T14 := fun_mk (st := s_law_reached) l14 c14 k14
  have b14 := T14.binds (ps := ["_law_cells_here"]) fun _ _ _ _ _ _ us hl => match us, hl with | [_], _ => rfl
  have T15 := fun_mk (st := s_law_due) l15 c15 k15
  have b15 := T15.binds (ps := ["_law_cells_here"]) fun _ _ _ _ _ _ us hl => match us, hl with | [_], _ => rfl
  have T16 := fun_mk (st := s_law_hangs) l16 c16 k16
  have b16 := T16.binds (ps := ["_law_cells_here"]) fun _ _ _ _ _ _ us hl => match us, hl with | [_], _ => rfl
  have T17 := fun_mk (st := s_law_good) l17 c17 k17
  have b17 := T17.binds (ps := ["_law_found", "_law_cells_here"]) fun _ _ _ _ _ _ us hl => match us, hl with | [_, _], _ => rfl
  have T18 := fun_mk (st := s_law) l18 c18 k18
  have b18 := T18.binds (ps := ["_law_script"]) fun _ _ _ _ _ _ us hl => match us, hl with | [_], _ => rfl
  refine ⟨PySem.W.fnOf "law" "law" (defArgs s_law) (defBody s_law) (defScope s_law) .none kV18 dc18 pm18 an18 cd18 ct18, fun s v => .of_eq rfl, fun base _ _ => ?_⟩
  have G_beside : Fn l.prog w K mg base 1 "beside" ["cell"] (sp_beside K) := ⟨_, _, ok_beside T0 bl , b0, k0, PySem.W.mg_of X G a0⟩
  have G_marked : Fn l.prog w K mg base 1 "marked" ["cells"] (sp_marked K) := ⟨_, _, ok_marked T1 bl , b1, k1, PySem.W.mg_of X G a1⟩
  have G_part_from : Fn l.prog w K mg base 2 "part_from" ["start", "free"] (sp_part_from K) := ⟨_, _, ok_part_from T2 bl G_beside, b2, k2, PySem.W.mg_of X G a2⟩
  have G_parts : Fn l.prog w K mg base 3 "parts" ["cells"] (sp_parts K) := ⟨_, _, ok_parts T3 bl G_marked G_part_from, b3, k3, PySem.W.mg_of X G a3⟩
  have G_cells_around : Fn l.prog w K mg base 2 "cells_around" ["cells"] (sp_cells_around K) := ⟨_, _, ok_cells_around T4 bl G_marked, b4, k4, PySem.W.mg_of X G a4⟩
  have G_holes : Fn l.prog w K mg base 4 "holes" ["cells"] (sp_holes K) := ⟨_, _, ok_holes T5 bl G_parts G_cells_around, b5, k5, PySem.W.mg_of X G a5⟩
  have G_law_cell : Fn l.prog w K mg base 1 "_law_cell" ["_law_script", "_law_k"] (sp_law_cell K) := ⟨_, _, ok_law_cell T6 bl , b6, k6, PySem.W.mg_of X G a6⟩
  have G_law_purse : Fn l.prog w K mg base 1 "_law_purse" ["_law_cell_here", "_law_way"] (sp_law_purse K) := ⟨_, _, ok_law_purse T7 bl , b7, k7, PySem.W.mg_of X G a7⟩
  have G_law_take : Fn l.prog w K mg base 1 "_law_take" ["_law_purse_here", "_law_many"] (sp_law_take K) := ⟨_, _, ok_law_take T8 bl , b8, k8, PySem.W.mg_of X G a8⟩
  have G_law_beside : Fn l.prog w K mg base 1 "_law_beside" ["_law_cell_here"] (sp_law_beside K) := ⟨_, _, ok_law_beside T9 bl , b9, k9, PySem.W.mg_of X G a9⟩
  have G_law_far : Fn l.prog w K mg base 1 "_law_far" ["_law_cell_here"] (sp_law_far K) := ⟨_, _, ok_law_far T10 bl , b10, k10, PySem.W.mg_of X G a10⟩
  have G_law_whole : Fn l.prog w K mg base 1 "_law_whole" ["_law_found"] (sp_law_whole K) := ⟨_, _, ok_law_whole T11 bl , b11, k11, PySem.W.mg_of X G a11⟩
  have G_law_same_cells : Fn l.prog w K mg base 2 "_law_same_cells" ["_law_found", "_law_due_here"] (sp_law_same_cells K) := ⟨_, _, ok_law_same_cells T12 bl G_law_whole, b12, k12, PySem.W.mg_of X G a12⟩
  have G_law_cells : Fn l.prog w K mg base 2 "_law_cells" ["_law_purse_here"] (sp_law_cells K) := ⟨_, _, ok_law_cells T13 bl G_law_take G_law_beside, b13, k13, PySem.W.mg_of X G a13⟩
  have G_law_reached : Fn l.prog w K mg base 2 "_law_reached" ["_law_cells_here"] (sp_law_reached K) := ⟨_, _, ok_law_reached T14 bl G_law_beside, b14, k14, PySem.W.mg_of X G a14⟩
  have G_law_due : Fn l.prog w K mg base 3 "_law_due" ["_law_cells_here"] (sp_law_due K) := ⟨_, _, ok_law_due T15 bl G_law_reached, b15, k15, PySem.W.mg_of X G a15⟩
  have G_law_hangs : Fn l.prog w K mg base 2 "_law_hangs" ["_law_cells_here"] (sp_law_hangs K) := ⟨_, _, ok_law_hangs T16 bl G_law_beside, b16, k16, PySem.W.mg_of X G a16⟩
  have G_law_good : Fn l.prog w K mg base 4 "_law_good" ["_law_found", "_law_cells_here"] (sp_law_good K) := ⟨_, _, ok_law_good T17 bl G_law_due G_law_hangs G_law_same_cells G_law_beside, b17, k17, PySem.W.mg_of X G a17⟩
  exact ok_law T18 bl G_law_purse G_law_far G_holes G_law_good G_law_cell G_law_cells
theorem walk {l : PySem.W.OpenLaw} {q : Program} {loose : List Str} {XP : (Str → Option Value) → Heap → Prop} {YP : World → Heap → Prop} {d : DefRec} {K : Params → PySem.W.Frag} (hn : l.most = some 63) (hdf : d.params.defaults = [])
    (hY : ∀ (w : World) (h : Heap), YP w h → (K w.params).In h)
    (F : ∀ (w : World) (mg : Str → Option Value) (fa : Addr) (h : Heap), (K w.params).In h → h.Ns mainGlobals mg → mg d.name = some (.ref fa) →
      ∃ fd : FuncData, (∀ (s : Shared) (u : Value), BindsTo s fd ⟨[u], []⟩ [("_law_script", u)]) ∧ ∀ base : Heap, (K w.params).In base → base.Ns mainGlobals mg → FnOk l.prog w (K w.params) mg base CX0 5 fa fd ["_law_script"] (spLaw (K w.params))) :
    PySem.W.WalkO q loose XP YP l.row.toRowW d [] (fun f vs => PySem.call f vs) :=
  L2.walk_of (n := 63) (k := 5) (x := "_law_script") (CX := fun _ => CX0) (sp := fun w => spLaw (K w.params)) hn (by decide) hdf ⟨rfl, by decide, by decide⟩ hY F (fun _ _ a ns hl _ hS => ⟨a, ns, rfl, hS, hl, fun _ => rfl⟩) fun _ _ _ _ _ z => z
end My
open PySem PySem.W PyProof.Rows
set_option maxRecDepth 100000 in
set_option maxHeartbeats 0 in
theorem PySem.Challenge.cw_sootring_k03_holes_holds : PySem.Challenge.rw_sootring_k03_holes.Holds := by
  w_on; o_law; k_head; (case hw => w_witness2)
  k_fill
  refine My.walk (l := PySem.Challenge.rw_sootring_k03_holes) rfl rfl (fun w h Y => PySem.W.kIn_of Y) ?F
  case F =>
    intro w mg fa h KX G hmg
    refine' My.all_mk KX G hmg ?a0 ?l0 ?c0 ?k0 ?a1 ?l1 ?c1 ?k1 ?a2 ?l2 ?c2 ?k2 ?a3 ?l3 ?c3 ?k3 ?a4 ?l4 ?c4 ?k4 ?a5 ?l5 ?c5 ?k5 ?a6 ?l6 ?c6 ?k6 ?a7 ?l7 ?c7 ?k7 ?a8 ?l8 ?c8 ?k8 ?a9 ?l9 ?c9 ?k9 ?a10 ?l10 ?c10 ?k10 ?a11 ?l11 ?c11 ?k11 ?a12 ?l12 ?c12 ?k12 ?a13 ?l13 ?c13 ?k13 ?a14 ?l14 ?c14 ?k14 ?a15 ?l15 ?c15 ?k15 ?a16 ?l16 ?c16 ?k16 ?a17 ?l17 ?c17 ?k17 ?a18 ?l18 ?c18 ?k18 ?z_bool ?z_enumerate ?z_int ?z_isinstance ?z_len ?z_list ?z_max ?z_min ?z_range ?z_sorted ?z_tuple
    (case a0 => k_is)
    (case l0 => k_is)
    (case c0 => k_is)
    (case k0 => k_is)
    (case a1 => k_is)
    (case l1 => k_is)
    (case c1 => k_is)
    (case k1 => k_is)
    (case a2 => k_is)
    (case l2 => k_is)
    (case c2 => k_is)
    (case k2 => k_is)
    (case a3 => k_is)
    (case l3 => k_is)
    (case c3 => k_is)
    (case k3 => k_is)
    (case a4 => k_is)
    (case l4 => k_is)
    (case c4 => k_is)
    (case k4 => k_is)
    (case a5 => k_is)
    (case l5 => k_is)
    (case c5 => k_is)
    (case k5 => k_is)
    (case a6 => k_is)
    (case l6 => k_is)
    (case c6 => k_is)
    (case k6 => k_is)
    (case a7 => k_is)
    (case l7 => k_is)
    (case c7 => k_is)
    (case k7 => k_is)
    (case a8 => k_is)
    (case l8 => k_is)
    (case c8 => k_is)
    (case k8 => k_is)
    (case a9 => k_is)
    (case l9 => k_is)
    (case c9 => k_is)
    (case k9 => k_is)
    (case a10 => k_is)
    (case l10 => k_is)
    (case c10 => k_is)
    (case k10 => k_is)
    (case a11 => k_is)
    (case l11 => k_is)
    (case c11 => k_is)
    (case k11 => k_is)
    (case a12 => k_is)
    (case l12 => k_is)
    (case c12 => k_is)
    (case k12 => k_is)
    (case a13 => k_is)
    (case l13 => k_is)
    (case c13 => k_is)
    (case k13 => k_is)
    (case a14 => k_is)
    (case l14 => k_is)
    (case c14 => k_is)
    (case k14 => k_is)
    (case a15 => k_is)
    (case l15 => k_is)
    (case c15 => k_is)
    (case k15 => k_is)
    (case a16 => k_is)
    (case l16 => k_is)
    (case c16 => k_is)
    (case k16 => k_is)
    (case a17 => k_is)
    (case l17 => k_is)
    (case c17 => k_is)
    (case k17 => k_is)
    (case a18 => k_is)
    (case l18 => k_is)
    (case c18 => k_is)
    (case k18 => k_is)
    (case z_bool => k_is)
    (case z_enumerate => k_is)
    (case z_int => k_is)
    (case z_isinstance => k_is)
    (case z_len => k_is)
    (case z_list => k_is)
    (case z_max => k_is)
    (case z_min => k_is)
    (case z_range => k_is)
    (case z_sorted => k_is)
    (case z_tuple => k_is)
