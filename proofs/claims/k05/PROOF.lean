import PyProof.Rows.All
import Wide.All
import OpenK.AllK
import Wide.FinOn
import Lean
import PyProof.EqAt
import PyProof.EqKinds
import PyProof.TupleCall
import PyProof.Rows.SortRuns
import PySem.Challenge.RW_sootring_k05_turned
-- CHANGE: your row's module here, as the last of these rows
set_option Elab.async false
set_option linter.all false
set_option maxRecDepth 100000
namespace L2
open PySem PySem.Spec PyProof.Rows

/-- a key: an int or a str -/
abbrev Key := Sum Int Str
def keyIs : Key → Value → Bool
  | .inl k, v => Value.isInt k v
  | .inr x, v => Value.isStrOf x v
def keyH (w : World) : Key → Int
  | .inl k => hashInt k
  | .inr x => hashStr w x
theorem keyIs_shape : ∀ {k : Key} {v : Value}, keyIs k v = true → (∃ i t, k = Sum.inl i ∧ v = Value.int i t) ∨ (∃ x t, k = Sum.inr x ∧ v = Value.str x t)
  | .inl i, v, h => by
    obtain ⟨t, e⟩ := Value.isInt_shape (k := i) (v := v) h
    exact .inl ⟨i, t, rfl, e⟩
  | .inr x, v, h => by
    obtain ⟨t, e⟩ := Value.isStrOf_shape (x := x) (v := v) h
    exact .inr ⟨x, t, rfl, e⟩
theorem key_ll (a b : Int) : decide ((Sum.inl a : Key) = Sum.inl b) = (a == b) := by
  by_cases e : a = b
  · subst e; simp
  · have h : ¬ (Sum.inl a : Key) = Sum.inl b := fun q => e (Sum.inl.inj q)
    rw [decide_eq_false h]
    exact (beq_eq_false_iff_ne.mpr e).symm
theorem key_rr (a b : Str) : decide ((Sum.inr a : Key) = Sum.inr b) = decide (a = b) := by
  by_cases e : a = b
  · subst e; simp
  · have h : ¬ (Sum.inr a : Key) = Sum.inr b := fun q => e (Sum.inr.inj q)
    rw [decide_eq_false h, decide_eq_false e]
theorem key_lr (a : Int) (b : Str) : decide ((Sum.inl a : Key) = Sum.inr b) = false := decide_eq_false (fun q => nomatch q)
theorem key_rl (a : Str) (b : Int) : decide ((Sum.inr a : Key) = Sum.inl b) = false := decide_eq_false (fun q => nomatch q)

def mixKind (prog : Program) (w : World) : PySem.KeyKind prog w Key where
  is := keyIs
  hash := keyH w
  inj := fun v a b ha hb => by
    rcases keyIs_shape ha with ⟨i, t, rfl, rfl⟩ | ⟨x, t, rfl, rfl⟩
    · rcases keyIs_shape hb with ⟨j, u, rfl, e⟩ | ⟨y, u, rfl, e⟩
      · injection e with e1 _; rw [e1]
      · exact nomatch e
    · rcases keyIs_shape hb with ⟨j, u, rfl, e⟩ | ⟨y, u, rfl, e⟩
      · exact nomatch e
      · injection e with e1 _; rw [e1]
  byValue := fun k v h => by
    rcases keyIs_shape h with ⟨i, t, rfl, rfl⟩ | ⟨x, t, rfl, rfl⟩ <;> rfl
  pyHash := fun hv h => by
    rcases keyIs_shape hv with ⟨i, t, rfl, rfl⟩ | ⟨x, t, rfl, rfl⟩
    · exact wpAny_pyHash_int h
    · exact wpAny_pyHash_str h
  eqBool := fun hu hv h => by
    rcases keyIs_shape hu with ⟨i, t, rfl, rfl⟩ | ⟨x, t, rfl, rfl⟩
    · rcases keyIs_shape hv with ⟨j, u, rfl, rfl⟩ | ⟨y, u, rfl, rfl⟩
      · rw [key_ll] at h; exact wpAny_eqBool_int h
      · rw [key_lr] at h; exact SeqAt.EqAt.int_str i t y u _ _ _ _ h
    · rcases keyIs_shape hv with ⟨j, u, rfl, rfl⟩ | ⟨y, u, rfl, rfl⟩
      · rw [key_rl] at h; exact SeqAt.EqAt.str_int x t j u _ _ _ _ h
      · rw [key_rr] at h; exact wpAny_eqBool_str h
  «strs» := fun k x t v h => by
    rcases keyIs_shape h with ⟨i, u, rfl, e⟩ | ⟨y, u, rfl, e⟩
    · exact nomatch e
    · injection e with e1 _
      subst e1
      cases v <;> rfl

end L2

namespace L2
open PySem PySem.Spec PyProof.Rows

/-- a value, without the heap -/
inductive V where
  | non | bl (b : Bool) | int (i : Int) | str (x : Str) | byt (b : Array UInt8) | flt (b : UInt64) | ref (a : Addr) | ty (n : String)
  deriving DecidableEq

def RelV : V → Value → Prop
  | .non, u => u = Value.none
  | .bl b, u => u = Value.bool b
  | .int i, u => ∃ t, u = Value.int i t
  | .str x, u => ∃ t, u = Value.str x t
  | .byt b, u => ∃ t, u = Value.bytes b t
  | .flt b, u => ∃ t, u = Value.float b t
  | .ref a, u => u = Value.ref a
  | .ty n, u => u = Value.type n

abbrev Vals : List V → List Value → Prop := Paired RelV
theorem Vals.length {xs : List V} {us : List Value} (r : Vals xs us) : xs.length = us.length := Paired.length r
theorem Vals.get : ∀ {xs : List V} {us : List Value} {i : Nat} {x : V}, Vals xs us → xs[i]? = some x → ∃ u, us[i]? = some u ∧ RelV x u
  | _, _, _, _, .nil, e => by simp at e
  | _, _, 0, _, .cons r _, e => by simp at e; subst e; exact ⟨_, rfl, r⟩
  | _, _, i + 1, x, .cons _ t, e => by
    obtain ⟨u, h1, h2⟩ := Vals.get (i := i) (x := x) t (by simpa using e)
    exact ⟨u, by simpa using h1, h2⟩
theorem Vals.set {x : V} {u : Value} (r : RelV x u) : ∀ {xs : List V} {us : List Value} (i : Nat), Vals xs us → Vals (xs.set i x) (us.set i u)
  | _, _, _, .nil => .nil
  | _, _, 0, .cons _ t => .cons r t
  | _, _, i + 1, .cons q t => .cons q (Vals.set r i t)
theorem Vals.append : ∀ {xs ys : List V} {us ws : List Value}, Vals xs us → Vals ys ws → Vals (xs ++ ys) (us ++ ws)
  | _, _, _, _, .nil, s => s
  | _, _, _, _, .cons r t, s => .cons r (Vals.append t s)
theorem Vals.take : ∀ {xs : List V} {us : List Value} (n : Nat), Vals xs us → Vals (xs.take n) (us.take n)
  | _, _, 0, _ => .nil
  | _, _, _ + 1, .nil => .nil
  | _, _, n + 1, .cons r t => .cons r (Vals.take n t)
theorem Vals.drop : ∀ {xs : List V} {us : List Value} (n : Nat), Vals xs us → Vals (xs.drop n) (us.drop n)
  | _, _, 0, r => r
  | _, _, _ + 1, .nil => .nil
  | _, _, n + 1, .cons _ t => Vals.drop n t

def RelO : Option V → Option Value → Prop
  | some v, some u => RelV v u
  | none, none => True
  | _, _ => False
def KV {κ : Type} : List (κ × V) → List (κ × Value) → Prop := Paired fun (p : κ × V) (q : κ × Value) => p.1 = q.1 ∧ RelV p.2 q.2

/-- a key of a dict (00_mix): an int or a text -/
def kV : Key → V
  | .inl i => .int i
  | .inr x => .str x

/-- what stands at a tracked address -/
inductive HO where
  /-- a list -/
  | lst (xs : List V)
  /-- a tuple (never changes) -/
  | tup (xs : List V)
  /-- a dict whose keys are ints and texts; one whose keys are tuples of ints and texts (the empty one is both) -/
  | dK (kvs : List (Key × V)) | dT (kvs : List (List Key × V))
  /-- a set of ints: its members, its size -/
  | set (S : Int → Bool) (n : Nat)
  /-- an instance of the class at C, its dict at dx, its attributes -/
  | ins (C dx : Addr) (fs : List (Str × V))
  /-- the dict of the instance at x -/
  | own (x : Addr)
  /-- the dict of an exception -/
  | xd (fs : List (Str × V))
  /-- a bound method, f of x -/
  | met (f x : Addr)
  /-- a range object lo, lo + 1, .. below hi -/
  | rng (lo hi : Int)
  /-- a thing that is known to the object (the script; a dict while a loop walks it): read, never written while it is so -/
  | frz (o : Obj) (u : HO)
  /-- a code object's table -/
  | tbl (ps : Array Value)
  /-- any other thing, by what is true of its one object (a def of one's own: SetO a S n := HO.ext fun h => ..) -/
  | ext (φ : Heap → Prop)

abbrev Hp := Addr → Option HO
def upd (H : Hp) (a : Addr) (o : HO) : Hp := fun b => if b = a then some o else H b
theorem upd_same {H : Hp} {a : Addr} {o : HO} : upd H a o a = some o := by unfold upd; rw [if_pos rfl]
theorem upd_ne {H : Hp} {a b : Addr} {o : HO} (h : b ≠ a) : upd H a o b = H b := by unfold upd; rw [if_neg h]
theorem ne_of_none {H : Hp} {a b : Addr} {o : HO} (h : H a = some o) (h' : H b = none) : a ≠ b := by
  intro e; subst e; rw [h] at h'; cases h'

section
variable (P : Program) (w : World)
def ObjOk (H : Hp) (h : Heap) (a : Addr) : HO → Prop
  | .lst xs => xs.length ≤ sizeLine ∧ ∃ (its : List Value) (n : Nat), Vals xs its ∧ h.get? a = some { cls := .type "list", data := .seq its.toArray n }
  | .tup xs => xs.length ≤ sizeLine ∧ ∃ its : List Value, Vals xs its ∧ IsTup h a its.toArray
  | .dK kvs => kvs.length ≤ sizeLine ∧ (a == sysModules) = false ∧ ∃ vs, KV kvs vs ∧ h.DictOf (mixKind P w) a vs
  | .dT kvs => kvs.length ≤ sizeLine ∧ (a == sysModules) = false ∧ ∃ xs : List (List Key × Addr × Value),
      Paired (fun (p : List Key × V) (q : List Key × Addr × Value) => p.1 = q.1 ∧ H q.2.1 = some (.tup (p.1.map kV)) ∧ RelV p.2 q.2.2) kvs xs ∧
      ∃ o es ep, h.get? a = some o ∧ o.ExactDict ∧ o.data = .dict es ep ∧ es.toList = xs.map (entryOfKey (tupleKind (mixKind P w))) ∧ (xs.map (·.1)).Nodup
  | .set S n => h.SetOf (intKind P w) a S n
  | .ins C dx fs => H dx = some (.own a) ∧ fs.length ≤ 1000 ∧ dx ≠ a ∧ h.get? a = some (PySem.W.instObj C dx) ∧
      ∃ mA, h.Ns1 dx mA ∧ (∀ f, RelO (fs.lookup f) (mA f)) ∧ PySem.Within mA (fs.map (·.1))
  | .own _ => ∃ o, h.get? a = some o
  | .xd fs => ∃ mA, h.Ns1 a mA ∧ ∀ f, RelO (fs.lookup f) (mA f)
  | .rng lo hi => ∃ t u v, h.get? a = some { cls := .type "range", data := .fields #[.int lo t, .int hi u, .int 1 v] }
  | .frz o u => h.get? a = some o ∧ ObjOk H h a u
  | .tbl ps => h.get? a = some { cls := .none, data := .fields ps }
  | .met f x => h.get? a = some (PySem.W.methodObj (.ref f) (.ref x))
  | .ext φ => φ h ∧ (∃ o, h.get? a = some o) ∧ ∀ h1 h2 : Heap, φ h1 → (∀ o, h1.get? a = some o → h2.get? a = some o) → φ h2
/-- the abstract heap is held -/
def HOk (H : Hp) (h : Heap) : Prop := ∀ a o, H a = some o → ObjOk P w H h a o
end

section
variable {P : Program} {w : World} {H H' : Hp} {h h' : Heap} {a : Addr} {o : HO}
theorem ObjOk.lt (x : ObjOk P w H h a o) : a < h.objs.size := by
  cases o with
  | lst xs => obtain ⟨_, _, _, _, e⟩ := x; exact Heap.lt_size e
  | tup xs => obtain ⟨_, _, _, p⟩ := x; exact p.lt
  | dK kvs => obtain ⟨_, _, _, _, o, _, _, e, _⟩ := x; exact Heap.lt_size e
  | dT kvs => obtain ⟨_, _, _, _, o, _, _, e, _⟩ := x; exact Heap.lt_size e
  | set S n => obtain ⟨o, _, _, _, e, _⟩ := x; exact Heap.lt_size e
  | ins C dx fs => obtain ⟨_, _, _, e, _⟩ := x; exact Heap.lt_size e
  | own y => obtain ⟨_, e⟩ := x; exact Heap.lt_size e
  | xd fs => obtain ⟨_, ⟨_, _, _, e, _⟩, _⟩ := x; exact Heap.lt_size e
  | rng lo hi => obtain ⟨_, _, _, e⟩ := x; exact Heap.lt_size e
  | frz ob u => obtain ⟨e, _⟩ := x; exact Heap.lt_size e
  | tbl ps => exact Heap.lt_size (show h.get? a = some _ from x)
  | met f y => exact Heap.lt_size (show h.get? a = some _ from x)
  | ext φ => obtain ⟨_, ⟨_, e⟩, _⟩ := x; exact Heap.lt_size e
theorem Paired.mapP {α β : Type} {F G : α → β → Prop} : ∀ {l₁ : List α} {l₂ : List β}, Paired F l₁ l₂ → (∀ a b, F a b → G a b) → Paired G l₁ l₂
  | _, _, .nil, _ => .nil
  | _, _, .cons r t, f => .cons (f _ _ r) (Paired.mapP t f)
/-- what an object's description leans on: its own object, its own dict, the tuples -/
theorem ObjOk.stay (x : ObjOk P w H h a o) (k : ∀ b u, (b = a ∨ H b = some (.own a)) → h.get? b = some u → h'.get? b = some u)
    (ho : ∀ b, H b = some (.own a) → H' b = some (.own a)) (ht : ∀ b xs, H b = some (.tup xs) → H' b = some (.tup xs)) : ObjOk P w H' h' a o := by
  induction o with
  | lst xs => obtain ⟨z, its, n, r, e⟩ := x; exact ⟨z, its, n, r, k _ _ (.inl rfl) e⟩
  | tup xs => obtain ⟨z, its, r, ob, e, c⟩ := x; exact ⟨z, its, r, ob, k _ _ (.inl rfl) e, c⟩
  | dK kvs => obtain ⟨z, y, vs, r, ob, es, ep, e, c⟩ := x; exact ⟨z, y, vs, r, ob, es, ep, k _ _ (.inl rfl) e, c⟩
  | dT kvs =>
    obtain ⟨z, y, xs, r, ob, es, ep, e, c⟩ := x
    exact ⟨z, y, xs, Paired.mapP r fun p q z => ⟨z.1, ht _ _ z.2.1, z.2.2⟩, ob, es, ep, k _ _ (.inl rfl) e, c⟩
  | set S n => obtain ⟨ob, es, ep, t, e, c⟩ := x; exact ⟨ob, es, ep, t, k _ _ (.inl rfl) e, c⟩
  | ins C dx fs =>
    obtain ⟨d, z, ne, e, mA, ⟨od, es, ep, e2, c⟩, r⟩ := x
    exact ⟨ho _ d, z, ne, k _ _ (.inl rfl) e, mA, ⟨od, es, ep, k _ _ (.inr d) e2, c⟩, r⟩
  | own y => obtain ⟨ob, e⟩ := x; exact ⟨ob, k _ _ (.inl rfl) e⟩
  | xd fs => obtain ⟨mA, ⟨od, es, ep, e, c⟩, r⟩ := x; exact ⟨mA, ⟨od, es, ep, k _ _ (.inl rfl) e, c⟩, r⟩
  | rng lo hi => obtain ⟨t, u, v, e⟩ := x; exact ⟨t, u, v, k _ _ (.inl rfl) e⟩
  | frz ob u ih => obtain ⟨e, q⟩ := x; exact ⟨k _ _ (.inl rfl) e, ih q⟩
  | tbl ps =>
    have e : h.get? a = some { cls := .none, data := .fields ps } := x
    show h'.get? a = some { cls := .none, data := .fields ps }
    exact k a _ (.inl rfl) e
  | met f y =>
    have e : h.get? a = some (PySem.W.methodObj (.ref f) (.ref y)) := x
    show h'.get? a = some (PySem.W.methodObj (.ref f) (.ref y))
    exact k a _ (.inl rfl) e
  | ext φ => obtain ⟨p, ⟨o, e⟩, st⟩ := x; exact ⟨st _ _ p fun o q => k _ _ (.inl rfl) q, ⟨o, k _ _ (.inl rfl) e⟩, st⟩
theorem HOk.lt (x : HOk P w H h) (e : H a = some o) : a < h.objs.size := (x a o e).lt
theorem HOk.fresh (x : HOk P w H h) (e : h.objs.size ≤ a) : H a = none := by
  cases q : H a with
  | none => rfl
  | some u => exact absurd (Nat.lt_of_lt_of_le (x.lt q) e) (Nat.lt_irrefl _)
/-- every object of the heap is kept -/
theorem HOk.kept (x : HOk P w H h) (k : ∀ b u, h.get? b = some u → h'.get? b = some u) : HOk P w H h' := fun a o e =>
  (x a o e).stay (fun b u _ q => k b u q) (fun _ q => q) fun _ _ q => q
/-- a new object is laid and tracked -/
theorem HOk.laid (x : HOk P w H h) (k : ∀ b u, h.get? b = some u → h'.get? b = some u) (hp : h.objs.size ≤ a) (new : ObjOk P w (upd H a o) h' a o) : HOk P w (upd H a o) h' := fun b u e => by
  have hn := x.fresh hp
  by_cases hb : b = a
  · subst hb; rw [upd_same] at e; cases e; exact new
  · rw [upd_ne hb] at e
    exact (x b u e).stay (fun c v _ q => k c v q) (fun c q => by rw [upd_ne (ne_of_none q hn)]; exact q) fun c xs q => by rw [upd_ne (ne_of_none q hn)]; exact q
end

/-- what may be read as u: it is u, or a known u -/
def Rd (H : Hp) (a : Addr) (u : HO) : Prop := H a = some u ∨ ∃ o, H a = some (.frz o u)
theorem Rd.ok {P : Program} {w : World} {H : Hp} {h : Heap} {a : Addr} {u : HO} (r : Rd H a u) (x : HOk P w H h) : ObjOk P w H h a u := by
  rcases r with r | ⟨o, r⟩
  · exact x a u r
  · obtain ⟨_, q⟩ := x a _ r
    exact q
/-- what may be written -/
def Mut : Option HO → Prop
  | some (.lst _) => True
  | some (.dK _) => True
  | some (.dT _) => True
  | some (.set _ _) => True
  | some (.ins _ _ _) => True
  | some (.ext _) => True
  | _ => False
section
variable {P : Program} {w : World} {H : Hp} {h h' : Heap} {x e : Addr} {o' : HO}
/-- the object at e is changed: x itself, or the dict of the instance x -/
theorem HOk.write (ok : HOk P w H h) (mu : Mut (H x)) (he : e = x ∨ H e = some (.own x)) (k : ∀ b u, b ≠ e → h.get? b = some u → h'.get? b = some u) (heo : ∃ u, h'.get? e = some u)
    (new : ObjOk P w (upd H x o') h' x o') : HOk P w (upd H x o') h' := fun b u q => by
  have nown : ∀ c y, H c = some (.own y) → c ≠ x := fun c y r z => by subst z; rw [r] at mu; exact mu
  have ntup : ∀ c xs, H c = some (.tup xs) → c ≠ x := fun c xs r z => by subst z; rw [r] at mu; exact mu
  by_cases hb : b = x
  · subst hb; rw [upd_same] at q; cases q; exact new
  · rw [upd_ne hb] at q
    by_cases hbe : b = e
    · have q' : H b = some (.own x) := by
        rcases he with z | z
        · exact absurd (hbe.trans z) hb
        · rw [hbe]; exact z
      rw [q] at q'; cases q'
      obtain ⟨v, hv⟩ := heo
      exact ⟨v, by rw [hbe]; exact hv⟩
    · refine (ok b u q).stay (fun c v hc r => k c v ?_ r) (fun c r => by rw [upd_ne (nown c b r)]; exact r) fun c xs r => by rw [upd_ne (ntup c xs r)]; exact r
      rcases hc with rfl | hc
      · exact hbe
      · rintro rfl
        rcases he with z | z
        · exact nown c b hc z
        · rw [hc] at z; cases z; exact hb rfl
end

structure Un (fs ex : List Addr) (H H' : Hp) (h h' : Heap) : Prop where
  keep : ∀ b o, h.get? b = some o → H b = none → b ∉ fs → b ∉ ex → h'.get? b = some o
  slot : ∀ b o, h.get? b = some o → H b = none → b ∈ fs → b ∉ ex → ∃ sl, h'.get? b = some { o with slots := sl }
  free : ∀ b o, h.get? b = some o → H b = none → b ∉ ex → H' b = none
  there : ∀ b o, h.get? b = some o → b ∉ ex → ∃ o', h'.get? b = some o'
  tups : ∀ b xs, H b = some (.tup xs) → H' b = some (.tup xs)
  frzs : ∀ b o u, H b = some (.frz o u) → H' b = some (.frz o u)
  tbls : ∀ b ps, H b = some (.tbl ps) → ∃ more, H' b = some (.tbl (ps ++ more))
section
variable {fs fs' ex ex' : List Addr} {H H1 H2 : Hp} {h h1 h2 h' : Heap} {a x e : Addr} {o : HO}
theorem Un.any (u : Un fs ex H H1 h h1) {b : Addr} {ob : Obj} (q : h.get? b = some ob) (n : H b = none) (hx : b ∉ ex) : ∃ sl, h1.get? b = some { ob with slots := sl } := by
  by_cases hb : b ∈ fs
  · exact u.slot b ob q n hb hx
  · exact ⟨ob.slots, u.keep b ob q n hb hx⟩
theorem Un.kept (k : ∀ b u, h.get? b = some u → h'.get? b = some u) : Un fs ex H H h h' :=
  ⟨fun b ob q _ _ _ => k b ob q, fun b ob q _ _ _ => ⟨ob.slots, k b ob q⟩, fun _ _ _ n _ => n, fun b ob q _ => ⟨ob, k b ob q⟩, fun _ _ q => q, fun _ _ _ q => q, fun _ ps q => ⟨#[], by rw [q]; simp⟩⟩
theorem Un.refl : Un fs ex H H h h := Un.kept fun _ _ q => q
theorem Un.laid (k : ∀ b u, h.get? b = some u → h'.get? b = some u) (hp : h.objs.size ≤ a) (hn : H a = none) : Un fs ex H (upd H a o) h h' where
  keep := fun b u q _ _ _ => k b u q
  slot := fun b u q _ _ _ => ⟨u.slots, k b u q⟩
  free := fun b u q n _ => by rw [upd_ne (Nat.ne_of_lt (Nat.lt_of_lt_of_le (Heap.lt_size q) hp))]; exact n
  there := fun b u q _ => ⟨u, k b u q⟩
  tups := fun b xs q => by rw [upd_ne (ne_of_none q hn)]; exact q
  frzs := fun b u xs q => by rw [upd_ne (ne_of_none q hn)]; exact q
  tbls := fun b ps q => ⟨#[], by rw [upd_ne (ne_of_none q hn), q]; simp⟩
theorem Un.write (mu : Mut (H x)) (he : e = x ∨ H e = some (.own x)) (k : ∀ b u, b ≠ e → h.get? b = some u → h'.get? b = some u) (heo : ∃ u, h'.get? e = some u) : Un fs ex H (upd H x o) h h' := by
  have hx : ∀ b, H b = none → b ≠ x := fun b n z => by subst z; rw [n] at mu; exact mu
  have hb : ∀ b, H b = none → b ≠ e := fun b n z => by
    subst z
    rcases he with r | r
    · exact hx b n r
    · rw [n] at r; cases r
  have hm : ∀ b u, H b = some u → ¬ Mut (some u) → b ≠ x := fun b u q nm z => by subst z; rw [q] at mu; exact nm mu
  refine ⟨fun b u q n _ _ => k b u (hb b n) q, fun b u q n _ _ => ⟨u.slots, k b u (hb b n) q⟩, fun b u q n _ => by rw [upd_ne (hx b n)]; exact n, fun b u q _ => ?_,
    fun b xs q => by rw [upd_ne (hm b _ q fun z => z)]; exact q, fun b u xs q => by rw [upd_ne (hm b _ q fun z => z)]; exact q, fun b ps q => ⟨#[], by rw [upd_ne (hm b _ q fun z => z), q]; simp⟩⟩
  by_cases hbe : b = e
  · subst hbe; exact heo
  · exact ⟨u, k b u hbe q⟩
end

def trk (h : Heap) (H : Hp) : List Addr := (List.range h.objs.size).filter fun a => (H a).isSome
def hidT (h : Heap) (H : Hp) : Heap := PySem.W.hideAll h (trk h H)
theorem hidT_size (h : Heap) (H : Hp) : (hidT h H).objs.size = h.objs.size := PySem.W.hideAll_size _ _
theorem hidT_get {h : Heap} {H : Hp} {b : Addr} {o : Obj} (e : h.get? b = some o) (n : H b = none) : (hidT h H).get? b = some o :=
  PySem.W.hideAll_get _ e fun hm => by
    have q : (H b).isSome = true := (List.mem_filter.mp hm).2
    rw [n] at q; simp at q
theorem of_hidT {h : Heap} {H : Hp} {b : Addr} {o : Obj} (e : (hidT h H).get? b = some o) : h.get? b = some o ∧ H b = none := by
  have e' : h.get? b = some o := PySem.W.of_hideAll (trk h H) e
  refine ⟨e', ?_⟩
  cases q : H b with
  | none => rfl
  | some x =>
    have hm : b ∈ trk h H := List.mem_filter.mpr ⟨List.mem_range.mpr (Heap.lt_size e'), by simp [q]⟩
    have z : (hidT h H).get? b = none := PySem.W.hideAll_none (trk h H) hm
    rw [z] at e; cases e

end L2

namespace L2
open PySem PySem.Spec PyProof.Rows

/-- the module's facts, over the base: the heap at the law's entry without what is tracked there -/
structure Mod (K : PySem.W.Frag) (mg : Str → Option Value) (base : Heap) : Prop where
  kin : K.In base
  glob : base.Ns mainGlobals mg
  blt : ∃ mb, base.Ns builtinsNs mb ∧ ∀ x : Str, x ≠ "__name__" → mb x = bootBuiltins x
  nolimit : base.NoLimit

/-- the context: a def's body (or a comprehension's block) running. base: fixed through the whole law; s₀, H₀: the entry; outer: the frames whose slots others may change (a def's callers); stack: all frames that run;
   ex: iterators that were made ahead of the entry and are walked here (a comprehension's); fn: the names whose cells were made at the entry (a def: all; a comprehension's block: its own); calm: not within an except suite; pn: pins that every state bears; xe: what is wanted of an exception that leaves the code -/
structure Cx where
  prog : Program
  w : World
  K : PySem.W.Frag
  mg : Str → Option Value
  base : Heap
  A : Around
  N : List Str
  s₀ : Shared
  H₀ : Hp
  env : Env
  outer : List Env
  stack : List Env
  ex : List Addr
  fn : Str → Bool
  calm : Bool
  pn : List (Addr × Obj)
  xe : Value → Shared → Prop
/-- the callers' frames -/
def frs (l : List Env) : List Addr := l.filterMap (·.frame)
abbrev Cx.fs (X : Cx) : List Addr := frs X.outer

def Vis (sc : Scope) (x : Str) : Prop := sc.names.lookup x = some .local ∨ sc.names.lookup x = some .cell ∨ sc.names.lookup x = some .free
def Loc (sc : Scope) (x : Str) : Prop := sc.names.lookup x = some .local ∨ sc.names.lookup x = some .cell
def Look (env : Env) (h : Heap) (m : Str → Option Value) (x : Str) (u : Value) : Prop :=
  (env.kindOf x = some .local ∧ m x = some u) ∨ ((env.kindOf x = some .cell ∨ env.kindOf x = some .free) ∧ ∃ c, env.cells.lookup x = some c ∧ h.IsCell c (some u))

structure Cx.Ok (X : Cx) : Prop where
  mod : Mod X.K X.mg X.base
  kind : X.env.scope.kind = .function
  glob : X.env.globals = mainGlobals
  blt : X.env.builtins = builtinsNs
  above : X.s₀.heap.objs.size ≤ X.env.locals
  inj : ∀ x y c, X.env.cells.lookup x = some c → X.env.cells.lookup y = some c → x = y
  has : ∀ x, (X.env.kindOf x = some .cell ∨ X.env.kindOf x = some .free) → ∃ c, X.env.cells.lookup x = some c
  cab : ∀ x c, X.fn x = true → X.env.cells.lookup x = some c → X.s₀.heap.objs.size ≤ c
  hd : X.calm = true → X.A.handled = none
  frames : X.A.frames = some X.stack
  stk : X.stack = X.outer ∨ (X.stack = X.env :: X.outer ∧ X.env.frame = some X.env.locals)
  exf : ∀ b ∈ X.ex, b ≠ X.env.locals ∧ ∀ x c, X.env.cells.lookup x = some c → c ≠ b
  bs : ∀ b o, X.base.get? b = some o → X.s₀.heap.get? b = some o ∧ X.H₀ b = none
  bsz : X.base.objs.size ≤ X.s₀.heap.objs.size
  noex : ∀ b o, X.base.get? b = some o → b ∉ X.ex
  exfs : ∀ b ∈ X.ex, b ∉ X.fs
  funs : X.s₀.heap.FunFrames X.base X.outer
  frf : ∀ b ∈ X.fs, X.H₀ b = none

structure Inv (X : Cx) (pins : List (Addr × Obj)) (σ : List (Option V)) (H : Hp) (s : Shared) : Prop where
  ok : X.Ok
  os : s.os = X.s₀.os
  bare : AllBare s.gens
  base : Un X.fs X.ex X.H₀ H X.s₀.heap s.heap
  loc : ∃ m, s.heap.Ns X.env.locals m ∧ ∀ (i : Nat) (x : Str) (v : V), X.N[i]? = some x → σ[i]? = some (some v) → Vis X.env.scope x → ∃ u, RelV v u ∧ Look X.env s.heap m x u
  cell : ∀ x c, X.env.cells.lookup x = some c → ∃ v, s.heap.IsCell c v
  free : H X.env.locals = none
  freeC : ∀ x c, X.env.cells.lookup x = some c → H c = none
  pin : ∀ p ∈ X.pn ++ pins, s.heap.get? p.1 = some p.2 ∧ H p.1 = none ∧ p.1 ≠ X.env.locals ∧ p.1 ∉ X.fs ∧ ∀ v, p.2.data ≠ .cell v
  hok : HOk X.prog X.w H s.heap
  len : σ.length = X.N.length

section
variable {X : Cx} {pins : List (Addr × Obj)} {σ : List (Option V)} {H H' : Hp} {s : Shared} {h' : Heap}

theorem Cx.Ok.nofr (ok : X.Ok) {b : Addr} {o : Obj} (e : X.base.get? b = some o) : b ∉ X.fs := fun hb => by
  have := (ok.funs.mem hb).1
  rw [e] at this; cases this
theorem Inv.bs (I : Inv X pins σ H s) : ∀ b o, X.base.get? b = some o → s.heap.get? b = some o ∧ H b = none := fun b o e =>
  ⟨I.base.keep b o (I.ok.bs b o e).1 (I.ok.bs b o e).2 (I.ok.nofr e) (I.ok.noex b o e), I.base.free b o (I.ok.bs b o e).1 (I.ok.bs b o e).2 (I.ok.noex b o e)⟩
theorem Inv.bk (I : Inv X pins σ H s) : ∀ b o, X.base.get? b = some o → s.heap.get? b = some o := fun b o e => (I.bs b o e).1
theorem Inv.mod (I : Inv X pins σ H s) : Mod X.K X.mg X.base := I.ok.mod
theorem Inv.kIn (I : Inv X pins σ H s) : X.K.In s.heap := I.ok.mod.kin.keeps I.bk
theorem Inv.lt (I : Inv X pins σ H s) : X.env.locals < s.heap.objs.size := let ⟨_, hn, _⟩ := I.loc; hn.lt
theorem Inv.sz (I : Inv X pins σ H s) : X.s₀.heap.objs.size ≤ s.heap.objs.size := Nat.le_trans I.ok.above (Nat.le_of_lt I.lt)
theorem Inv.nofs (I : Inv X pins σ H s) {a : Addr} (h : s.heap.objs.size ≤ a) : a ∉ X.fs := fun hb => by
  obtain ⟨_, o, ho, _⟩ := I.ok.funs.mem hb
  exact absurd (Nat.lt_of_lt_of_le (Heap.lt_size ho) (Nat.le_trans I.sz h)) (Nat.lt_irrefl _)
theorem Inv.cne (I : Inv X pins σ H s) : ∀ x c, X.env.cells.lookup x = some c → c ≠ X.env.locals := fun x c e z => by
  obtain ⟨v, o, ho, hd⟩ := I.cell x c e
  obtain ⟨m, ⟨o', es, ep, ho', hd', _⟩, _⟩ := I.loc
  rw [z, ho'] at ho; cases ho; rw [hd'] at hd; cases hd
theorem Inv.funs (I : Inv X pins σ H s) : s.heap.FunFrames X.base X.outer := by
  have all : ∀ (l : List Env), (∀ b ∈ frs l, b ∈ X.fs) → X.s₀.heap.FunFrames X.base l → s.heap.FunFrames X.base l := by
    intro l
    induction l with
    | nil => intro _ _; trivial
    | cons env r ih =>
      intro hs hl
      obtain ⟨hk, ⟨L, o, hf, hn, ho, hd⟩, hr⟩ := hl
      have hL : L ∈ X.fs := hs L (by unfold frs; rw [List.filterMap_cons, hf]; exact List.mem_cons_self)
      obtain ⟨sl, e⟩ := I.base.slot L o ho (I.ok.frf L hL) hL fun z => I.ok.exfs L z hL
      exact ⟨hk, ⟨L, _, hf, hn, e, hd⟩, ih (fun b hb => hs b (by unfold frs; rw [List.filterMap_cons, hf]; exact List.mem_cons_of_mem _ hb)) hr⟩
  exact all X.outer (fun _ hb => hb) I.ok.funs

/-- the frames that run, for a call -/
theorem Inv.stack (I : Inv X pins σ H s) : s.heap.FunFrames X.base X.stack := by
  rcases I.ok.stk with e | ⟨e, hf⟩
  · rw [e]; exact I.funs
  · rw [e]
    obtain ⟨m, hn, _⟩ := I.loc
    refine .cons (by rw [I.ok.kind]; decide) hf hn ?_ I.funs
    exact Heap.get?_none_of_le (Nat.le_trans I.ok.bsz I.ok.above)
theorem Inv.stkSub (I : Inv X pins σ H s) : ∀ b ∈ frs X.stack, b ∈ X.env.locals :: X.fs := fun b hb => by
  rcases I.ok.stk with e | ⟨e, hf⟩
  · rw [e] at hb; exact List.mem_cons_of_mem _ hb
  · rw [e] at hb
    unfold frs at hb
    rw [List.filterMap_cons, hf] at hb
    exact hb
theorem Inv.stkFree (I : Inv X pins σ H s) : ∀ b ∈ frs X.stack, H b = none := fun b hb => by
  rcases List.mem_cons.mp (I.stkSub b hb) with e | hb
  · rw [e]; exact I.free
  · obtain ⟨_, o, ho, _⟩ := I.ok.funs.mem hb
    exact I.base.free b o ho (I.ok.frf b hb) fun z => I.ok.exfs b z hb

/-- THE STEP: the untracked objects but the frame and the records at ch are kept (the callers' frames up to slots), the frame's map is kept, the new abstract heap is held -/
theorem Inv.step {g' : Array GenState} {t' : Nat} {d' : Drawn} {ch : List Addr} (I : Inv X pins σ H s)
    (hch : ∀ b ∈ ch, (b ∈ X.ex ∨ X.s₀.heap.objs.size ≤ b) ∧ b ≠ X.env.locals ∧ (∀ x c, X.env.cells.lookup x = some c → c ≠ b) ∧ ∀ p ∈ X.pn ++ pins, p.1 ≠ b)
    (keep : ∀ b o, b ≠ X.env.locals → b ∉ X.fs → b ∉ ch → s.heap.get? b = some o → H b = none → h'.get? b = some o)
    (slot : ∀ b o, b ≠ X.env.locals → b ∈ X.fs → b ∉ ch → s.heap.get? b = some o → H b = none → ∃ sl, h'.get? b = some { o with slots := sl }) (free : ∀ b o, b ∉ ch → s.heap.get? b = some o → H b = none → H' b = none)
    (there : ∀ b o, b ∉ ch → s.heap.get? b = some o → ∃ o', h'.get? b = some o')
    (tups : ∀ b xs, H b = some (.tup xs) → H' b = some (.tup xs)) (frzs : ∀ b o u, H b = some (.frz o u) → H' b = some (.frz o u)) (tbls : ∀ b ps, H b = some (.tbl ps) → ∃ more, H' b = some (.tbl (ps ++ more)))
    (ns : ∀ m, s.heap.Ns X.env.locals m → h'.Ns X.env.locals m) (hok : HOk X.prog X.w H' h') (hg : AllBare g') :
    Inv X pins σ H' { s with heap := h', gens := g', drawn := d', toks := t' } := by
  have neL : ∀ b o, X.s₀.heap.get? b = some o → b ≠ X.env.locals := fun b o e => Nat.ne_of_lt (Nat.lt_of_lt_of_le (Heap.lt_size e) I.ok.above)
  have neC : ∀ b o, X.s₀.heap.get? b = some o → b ∉ X.ex → b ∉ ch := fun b o e hx hb => by
    rcases (hch b hb).1 with z | z
    · exact hx z
    · exact absurd (Nat.lt_of_lt_of_le (Heap.lt_size e) z) (Nat.lt_irrefl _)
  have cellK : ∀ x c, X.env.cells.lookup x = some c → ∀ v, s.heap.IsCell c v → h'.IsCell c v := fun x c e v ⟨o, ho, hd⟩ => by
    have nch : c ∉ ch := fun z => (hch c z).2.2.1 x c e rfl
    by_cases hc : c ∈ X.fs
    · obtain ⟨sl, q⟩ := slot c o (I.cne x c e) hc nch ho (I.freeC x c e)
      exact ⟨_, q, hd⟩
    · exact ⟨o, keep c o (I.cne x c e) hc nch ho (I.freeC x c e), hd⟩
  refine ⟨I.ok, I.os, hg, ⟨fun b o e n hb hx => ?_, fun b o e n hb hx => ?_, fun b o e n hx => ?_, fun b o e hx => ?_, fun b xs e => tups b xs (I.base.tups b xs e), fun b o xs e => frzs b o xs (I.base.frzs b o xs e), fun b ps e => ?_⟩, ?_, fun x c e => ?_, ?_, fun x c e => ?_, fun p hp => ?_, hok, I.len⟩
  · exact keep b o (neL b o e) hb (neC b o e hx) (I.base.keep b o e n hb hx) (I.base.free b o e n hx)
  · obtain ⟨sl, e1⟩ := I.base.slot b o e n hb hx
    obtain ⟨sl', e2⟩ := slot b _ (neL b o e) hb (neC b o e hx) e1 (I.base.free b o e n hx)
    exact ⟨sl', e2⟩
  · obtain ⟨o', e1⟩ := I.base.there b o e hx
    exact free b o' (neC b o e hx) e1 (I.base.free b o e n hx)
  · obtain ⟨o', e1⟩ := I.base.there b o e hx
    exact there b o' (neC b o e hx) e1
  · obtain ⟨m1, e1⟩ := I.base.tbls b ps e
    obtain ⟨m2, e2⟩ := tbls b _ e1
    exact ⟨m1 ++ m2, by rw [e2, Array.append_assoc]⟩
  · obtain ⟨m, hn, hl⟩ := I.loc
    refine ⟨m, ns m hn, fun i x v e1 e2 e3 => ?_⟩
    obtain ⟨u, r, l⟩ := hl i x v e1 e2 e3
    refine ⟨u, r, ?_⟩
    rcases l with l | ⟨k, c, e, z⟩
    · exact .inl l
    · exact .inr ⟨k, c, e, cellK x c e _ z⟩
  · obtain ⟨v, z⟩ := I.cell x c e
    exact ⟨v, cellK x c e v z⟩
  · obtain ⟨m, ⟨o, _, _, ho, _⟩, _⟩ := I.loc
    exact free _ o (fun z => (hch _ z).2.1 rfl) ho I.free
  · obtain ⟨v, o, ho, hd⟩ := I.cell x c e
    exact free c o (fun z => (hch c z).2.2.1 x c e rfl) ho (I.freeC x c e)
  · obtain ⟨e, n, ne, nf, d⟩ := I.pin p hp
    have nch : p.1 ∉ ch := fun z => (hch p.1 z).2.2.2 p hp rfl
    exact ⟨keep p.1 p.2 ne nf nch e n, free p.1 p.2 nch e n, ne, nf, d⟩
/-- .. where the frame's own object is kept too -/
theorem Inv.un {t' : Nat} (I : Inv X pins σ H s) (u : Un X.fs [] H H' s.heap h') (hok : HOk X.prog X.w H' h') : Inv X pins σ H' { s with heap := h', toks := t' } := by
  obtain ⟨m, ⟨o, es, ep, ho, r⟩, _⟩ := id I.loc
  obtain ⟨sl, hL⟩ := u.any ho I.free (by simp)
  exact I.step (g' := s.gens) (d' := s.drawn) (ch := []) (fun _ z => nomatch z) (fun b o _ hb _ e n => u.keep b o e n hb (by simp)) (fun b o _ hb _ e n => u.slot b o e n hb (by simp)) (fun b o _ e n => u.free b o e n (by simp)) (fun b o _ e => u.there b o e (by simp)) u.tups u.frzs u.tbls (fun m' hm => by
    obtain ⟨o', es', ep', ho', r'⟩ := hm
    rw [ho] at ho'; cases ho'
    exact ⟨_, es', ep', hL, r'⟩) hok I.bare
/-- behind a call (or a comprehension's block): the slots of this frame may have changed too, the records at ch may have turned -/
theorem Inv.call {g' : Array GenState} {t' : Nat} {d' : Drawn} {ch : List Addr} (I : Inv X pins σ H s) (u : Un (frs X.stack) ch H H' s.heap h') (hok : HOk X.prog X.w H' h') (hg : AllBare g')
    (hch : ∀ b ∈ ch, (b ∈ X.ex ∨ X.s₀.heap.objs.size ≤ b) ∧ b ≠ X.env.locals ∧ (∀ x c, X.env.cells.lookup x = some c → c ≠ b) ∧ ∀ p ∈ X.pn ++ pins, p.1 ≠ b) :
    Inv X pins σ H' { s with heap := h', gens := g', drawn := d', toks := t' } := by
  obtain ⟨m, ⟨o, es, ep, ho, r⟩, _⟩ := id I.loc
  obtain ⟨sl, hL⟩ := u.any ho I.free fun z => (hch _ z).2.1 rfl
  exact I.step (ch := ch) hch (fun b o hL hb hc e n => u.keep b o e n (fun z => (List.mem_cons.mp (I.stkSub b z)).elim hL hb) hc) (fun b o _ _ hc e n => u.any e n hc) (fun b o hc e n => u.free b o e n hc) (fun b o hc e => u.there b o e hc) u.tups u.frzs u.tbls (fun m' hm => by
    obtain ⟨o', es', ep', ho', r'⟩ := hm
    rw [ho] at ho'; cases ho'
    exact ⟨_, es', ep', hL, r'⟩) hok hg
/-- an untracked record of ours (an iterator) has turned -/
theorem Inv.turned {t' : Nat} {it : Addr} (I : Inv X pins σ H s) (k : ∀ b o, b ≠ it → s.heap.get? b = some o → h'.get? b = some o) (hn : H it = none) (hL : it ≠ X.env.locals)
    (h1 : it ∈ X.ex ∨ X.s₀.heap.objs.size ≤ it) (h2 : ∀ x c, X.env.cells.lookup x = some c → c ≠ it) (h3 : ∀ p ∈ X.pn ++ pins, p.1 ≠ it) : Inv X pins σ H { s with heap := h', toks := t' } := by
  have nit : ∀ b u, H b = some u → b ≠ it := fun b u e z => by rw [z, hn] at e; cases e
  refine I.step (g' := s.gens) (d' := s.drawn) (ch := [it]) (fun b hb => ?_) (fun b o _ _ hc e _ => k b o (fun z => hc (by simp [z])) e) (fun b o _ _ hc e _ => ⟨o.slots, k b o (fun z => hc (by simp [z])) e⟩) (fun _ _ _ _ n => n)
    (fun b o hc e => ⟨o, k b o (fun z => hc (by simp [z])) e⟩) (fun _ _ e => e) (fun _ _ _ e => e) (fun b ps e => ⟨#[], by rw [e]; simp⟩) (fun m hm => ?_) (fun b u e => ?_) I.bare
  · have e : b = it := by simpa using hb
    subst e
    exact ⟨h1, hL, h2, h3⟩
  · obtain ⟨o, es, ep, ho, r⟩ := hm
    exact ⟨o, es, ep, k _ o (Ne.symm hL) ho, r⟩
  · refine (I.hok b u e).stay (fun c v hc q => k c v ?_ q) (fun _ q => q) fun _ _ q => q
    rcases hc with z | z
    · rw [z]; exact nit b u e
    · exact nit c _ z
theorem Inv.tok (I : Inv X pins σ H s) (t : Nat) : Inv X pins σ H { s with toks := t } := I.un (h' := s.heap) (t' := t) Un.refl I.hok
/-- all objects kept -/
theorem Inv.kept {t' : Nat} (I : Inv X pins σ H s) (k : ∀ b u, s.heap.get? b = some u → h'.get? b = some u) : Inv X pins σ H { s with heap := h', toks := t' } := I.un (Un.kept k) (I.hok.kept k)
/-- a new object laid and tracked -/
theorem Inv.laid {a : Addr} {o : HO} {t' : Nat} (I : Inv X pins σ H s) (k : ∀ b u, s.heap.get? b = some u → h'.get? b = some u) (hp : s.heap.objs.size ≤ a) (new : ObjOk X.prog X.w (upd H a o) h' a o) :
    Inv X pins σ (upd H a o) { s with heap := h', toks := t' } := I.un (Un.laid k hp (I.hok.fresh hp)) (I.hok.laid k hp new)
/-- an object written -/
theorem Inv.write {x e : Addr} {o : HO} {t' : Nat} (I : Inv X pins σ H s) (mu : Mut (H x)) (he : e = x ∨ H e = some (.own x)) (k : ∀ b u, b ≠ e → s.heap.get? b = some u → h'.get? b = some u) (heo : ∃ u, h'.get? e = some u)
    (new : ObjOk X.prog X.w (upd H x o) h' x o) : Inv X pins σ (upd H x o) { s with heap := h', toks := t' } := I.un (Un.write mu he k heo) (I.hok.write mu he k heo new)
theorem Inv.pins_of {pins' : List (Addr × Obj)} (I : Inv X pins σ H s) (h : ∀ p ∈ pins', s.heap.get? p.1 = some p.2 ∧ H p.1 = none ∧ p.1 ≠ X.env.locals ∧ p.1 ∉ X.fs ∧ ∀ v, p.2.data ≠ .cell v) : Inv X pins' σ H s :=
  ⟨I.ok, I.os, I.bare, I.base, I.loc, I.cell, I.free, I.freeC, fun p hp => (List.mem_append.mp hp).elim (fun z => I.pin p (List.mem_append_left _ z)) (h p), I.hok, I.len⟩

theorem nodup_ix {N : List Str} (hN : N.Nodup) {i j : Nat} {x : Str} (a : N[i]? = some x) (b : N[j]? = some x) : i = j := by
  obtain ⟨h1, e1⟩ := List.getElem?_eq_some_iff.mp a
  obtain ⟨h2, e2⟩ := List.getElem?_eq_some_iff.mp b
  exact (List.getElem_inj hN).mp (e1.trans e2.symm)

/-- a name is stored; what changed -/
theorem store_ok2 {M : Model} {A : Around} {E : Value → Shared → Prop} {i : Nat} {x : Str} {v : V} {u : Value} {Q : Unit → Shared → Prop} (I : Inv X pins σ H s) (hN : X.N.Nodup) (hi : X.N[i]? = some x) (hx : Loc X.env.scope x) (r : RelV v u)
    (h : ∀ s', Inv X pins (σ.set i (some v)) H s' → (∃ a, Heap.SameBut a s.heap s'.heap ∧ (a = X.env.locals ∨ X.env.cells.lookup x = some a)) → Q () s') (hf : X.fn x = true ∨ X.env.scope.names.lookup x = some .local := by first | exact .inl rfl | exact .inr rfl | assumption) : wpAny M A (storeName X.env x u) Q E s := by
  obtain ⟨m, hn, hl⟩ := id I.loc
  have hcls : (X.env.scope.kind == .class || (X.env.scope.kind == .module && X.env.locals != X.env.globals)) = false := by rw [I.ok.kind]; rfl
  have hiσ : i < σ.length := by rw [I.len]; exact (List.getElem?_eq_some_iff.mp hi).1
  have cne := I.cne
  have tracked : ∀ {a : Addr} {h' : Heap}, (∃ o, s.heap.get? a = some o ∧ H a = none) → Heap.SameBut a s.heap h' → HOk X.prog X.w H h' := fun {a h'} ha hs b ob e => by
    obtain ⟨_, _, hfree⟩ := ha
    refine (I.hok b ob e).stay (fun c w' hc q => (hs.2 c ?_).trans q) (fun _ q => q) fun _ _ q => q
    rintro rfl
    rcases hc with rfl | hc
    · rw [hfree] at e; cases e
    · rw [hfree] at hc; cases hc
  rcases hx with hk | hk
  · refine wpAny_storeName_local hk hn (fun h' hn' hs => ?_) hcls
    obtain ⟨oL, _, _, hoL, _⟩ := id hn
    refine h _ ⟨I.ok, I.os, I.bare, ⟨fun b o e n hb hx => ?_, fun b o e n hb hx => ?_, I.base.free, fun b o e hx => ?_, I.base.tups, I.base.frzs, I.base.tbls⟩, ⟨_, hn', fun j y v' e1 e2 e3 => ?_⟩, fun y c e => ?_, I.free, I.freeC, fun p hp => ?_, tracked ⟨oL, hoL, I.free⟩ hs, by simpa using I.len⟩ ⟨_, hs, .inl rfl⟩
    · exact (hs.2 b (Nat.ne_of_lt (Nat.lt_of_lt_of_le (Heap.lt_size e) I.ok.above))).trans (I.base.keep b o e n hb hx)
    · obtain ⟨sl, e1⟩ := I.base.slot b o e n hb hx
      exact ⟨sl, (hs.2 b (Nat.ne_of_lt (Nat.lt_of_lt_of_le (Heap.lt_size e) I.ok.above))).trans e1⟩
    · obtain ⟨o', e1⟩ := I.base.there b o e hx
      exact ⟨o', (hs.2 b (Nat.ne_of_lt (Nat.lt_of_lt_of_le (Heap.lt_size e) I.ok.above))).trans e1⟩
    · by_cases hj : j = i
      · subst hj
        rw [hi] at e1; cases e1
        rw [List.getElem?_set_self hiσ] at e2
        cases e2
        exact ⟨u, r, .inl ⟨hk, by simp⟩⟩
      · rw [List.getElem?_set_ne (Ne.symm hj)] at e2
        obtain ⟨u', r', q⟩ := hl j y v' e1 e2 e3
        refine ⟨u', r', ?_⟩
        rcases q with ⟨k, e⟩ | ⟨k, c, e, z⟩
        · refine .inl ⟨k, ?_⟩
          have : y ≠ x := fun e => hj (nodup_ix hN e1 (e ▸ hi))
          simp [this, e]
        · exact .inr ⟨k, c, e, z.sameBut hs (cne y c e)⟩
    · obtain ⟨w', z⟩ := I.cell y c e
      exact ⟨w', z.sameBut hs (cne y c e)⟩
    · obtain ⟨e, n, ne, nf, d⟩ := I.pin p hp
      exact ⟨(hs.2 p.1 ne).trans e, n, ne, nf, d⟩
  · have hfn : X.fn x = true := by
      rcases hf with z | z
      · exact z
      · rw [z] at hk; cases hk
    obtain ⟨c, hc⟩ := I.ok.has x (.inl hk)
    obtain ⟨w', z⟩ := I.cell x c hc
    refine wpAny_storeName_cell I.ok.kind hk hc z (fun h' hc' hs => ?_)
    obtain ⟨oc, hoc, hocd⟩ := id z
    refine h { s with heap := h' } ⟨I.ok, I.os, I.bare, ⟨fun b o e n hb hx => ?_, fun b o e n hb hx => ?_, I.base.free, fun b o e hx => ?_, I.base.tups, I.base.frzs, I.base.tbls⟩, ⟨m, hn.sameBut hs (Ne.symm (cne x c hc)), fun j y v' e1 e2 e3 => ?_⟩, fun y c' e => ?_, I.free, I.freeC, fun p hp => ?_, tracked ⟨oc, hoc, I.freeC x c hc⟩ hs, by simpa using I.len⟩ ⟨c, hs, .inr hc⟩
    · exact (hs.2 b (Nat.ne_of_lt (Nat.lt_of_lt_of_le (Heap.lt_size e) (I.ok.cab x c hfn hc)))).trans (I.base.keep b o e n hb hx)
    · obtain ⟨sl, e1⟩ := I.base.slot b o e n hb hx
      exact ⟨sl, (hs.2 b (Nat.ne_of_lt (Nat.lt_of_lt_of_le (Heap.lt_size e) (I.ok.cab x c hfn hc)))).trans e1⟩
    · obtain ⟨o', e1⟩ := I.base.there b o e hx
      exact ⟨o', (hs.2 b (Nat.ne_of_lt (Nat.lt_of_lt_of_le (Heap.lt_size e) (I.ok.cab x c hfn hc)))).trans e1⟩
    · by_cases hj : j = i
      · subst hj
        rw [hi] at e1; cases e1
        rw [List.getElem?_set_self hiσ] at e2
        cases e2
        exact ⟨u, r, .inr ⟨.inl hk, c, hc, hc'⟩⟩
      · rw [List.getElem?_set_ne (Ne.symm hj)] at e2
        obtain ⟨u', r', q⟩ := hl j y v' e1 e2 e3
        refine ⟨u', r', ?_⟩
        rcases q with q | ⟨k, c', e, z'⟩
        · exact .inl q
        · refine .inr ⟨k, c', e, z'.sameBut hs ?_⟩
          rintro rfl
          exact hj (nodup_ix hN e1 (I.ok.inj _ _ _ e hc ▸ hi))
    · by_cases hcc : c' = c
      · subst hcc; exact ⟨_, hc'⟩
      · obtain ⟨w2, z2⟩ := I.cell y c' e
        exact ⟨w2, z2.sameBut hs hcc⟩
    · obtain ⟨e, n, ne, nf, d⟩ := I.pin p hp
      refine ⟨(hs.2 p.1 ?_).trans e, n, ne, nf, d⟩
      intro q
      rw [q, hoc] at e
      have q' : oc = p.2 := Option.some.inj e
      exact d w' (by rw [← q']; exact hocd)
theorem store_ok {M : Model} {A : Around} {E : Value → Shared → Prop} {i : Nat} {x : Str} {v : V} {u : Value} {Q : Unit → Shared → Prop} (I : Inv X pins σ H s) (hN : X.N.Nodup) (hi : X.N[i]? = some x) (hx : Loc X.env.scope x) (r : RelV v u)
    (h : ∀ s', Inv X pins (σ.set i (some v)) H s' → Q () s') (hf : X.fn x = true ∨ X.env.scope.names.lookup x = some .local := by first | exact .inl rfl | exact .inr rfl | assumption) : wpAny M A (storeName X.env x u) Q E s :=
  store_ok2 I hN hi hx r (fun s' I' _ => h s' I') hf
/-- behind a call or a block, the state as it is -/
theorem Inv.call' {s' : Shared} {ch : List Addr} (I : Inv X pins σ H s) (ho : s'.os = s.os) (u : Un (frs X.stack) ch H H' s.heap s'.heap) (hok : HOk X.prog X.w H' s'.heap) (hg : AllBare s'.gens)
    (hch : ∀ b ∈ ch, (b ∈ X.ex ∨ X.s₀.heap.objs.size ≤ b) ∧ b ≠ X.env.locals ∧ (∀ x c, X.env.cells.lookup x = some c → c ≠ b) ∧ ∀ p ∈ X.pn ++ pins, p.1 ≠ b) : Inv X pins σ H' s' := by
  obtain ⟨h', g', d', t', o'⟩ := s'
  have e : o' = s.os := ho
  subst e
  exact I.call (g' := g') (t' := t') (d' := d') u hok hg hch
end

/-- an exception: its class, its own dict's address (where it has one), the abstract heap behind it -/
abbrev XK := Value → Option Addr → Hp → Prop
abbrev St := List (Option V)
abbrev VK := V → Hp → Prop
/-- an expression's reading; a test's; an argument list's -/
abbrev TE := St → Hp → VK → Prop
abbrev TT := St → Hp → (Bool → Hp → Prop) → Prop
abbrev TA := St → Hp → (List V → Hp → Prop) → Prop
/-- what is wanted behind a statement -/
structure Ends where
  nx : St → Hp → Prop
  rt : VK
  bk : St → Hp → Prop := fun _ _ => False
  ct : St → Hp → Prop := fun _ _ => False
abbrev TS := Ends → St → Hp → Prop

def EP (X : Cx) (pins : List (Addr × Obj)) (σ : St) (Q : VK) (u : Value) (s' : Shared) : Prop := ∃ v H', Inv X pins σ H' s' ∧ RelV v u ∧ Q v H'
def TP (X : Cx) (pins : List (Addr × Obj)) (σ : St) (Q : Bool → Hp → Prop) (b : Bool) (s' : Shared) : Prop := ∃ H', Inv X pins σ H' s' ∧ Q b H'
def AP (X : Cx) (pins : List (Addr × Obj)) (σ : St) (Q : List V → Hp → Prop) (us : List Value) (s' : Shared) : Prop := ∃ vs H', Inv X pins σ H' s' ∧ Vals vs us ∧ Q vs H'
def SP (X : Cx) (pins : List (Addr × Obj)) (D : Ends) (f : Flow) (s' : Shared) : Prop :=
  match f with
  | .next => ∃ σ' H', Inv X pins σ' H' s' ∧ D.nx σ' H'
  | .brk => ∃ σ' H', Inv X pins σ' H' s' ∧ D.bk σ' H'
  | .cont => ∃ σ' H', Inv X pins σ' H' s' ∧ D.ct σ' H'
  | .ret u => ∃ v σ' H', Inv X pins σ' H' s' ∧ RelV v u ∧ D.rt v H'

def PE (X : Cx) (e : Expr) (t : TE) : Prop :=
  ∀ (pins : List (Addr × Obj)) (s : Shared) (σ : St) (H : Hp) (Q : VK), Inv X pins σ H s → t σ H Q → wpAny (model X.prog X.w) X.A (eval e X.env) (EP X pins σ Q) X.xe s
def PT (X : Cx) (e : Expr) (t : TT) : Prop :=
  ∀ (pins : List (Addr × Obj)) (s : Shared) (σ : St) (H : Hp) (Q : Bool → Hp → Prop), Inv X pins σ H s → t σ H Q → wpAny (model X.prog X.w) X.A (isTrue e X.env (eval e X.env)) (TP X pins σ Q) X.xe s
/-- a test whatever its 'whole' is (and, or) -/
def PW (X : Cx) (e : Expr) (t : TT) : Prop :=
  ∀ (whole : Sem Value) (pins : List (Addr × Obj)) (s : Shared) (σ : St) (H : Hp) (Q : Bool → Hp → Prop), Inv X pins σ H s → t σ H Q → wpAny (model X.prog X.w) X.A (isTrue e X.env whole) (TP X pins σ Q) X.xe s
theorem PW.pt {X : Cx} {e : Expr} {t : TT} (h : PW X e t) : PT X e t := h _
/-- an argument list (no star), from the left -/
def PA (X : Cx) (es : List Expr) (t : TA) : Prop :=
  ∀ (pos : Pos) (pins : List (Addr × Obj)) (s : Shared) (σ : St) (H : Hp) (Q : List V → Hp → Prop), Inv X pins σ H s → t σ H Q → wpAny (model X.prog X.w) X.A (spliced (backTo pos (starEach es X.env))) (AP X pins σ Q) X.xe s
def PS (X : Cx) (st : Stmt) (t : TS) : Prop :=
  ∀ (pins : List (Addr × Obj)) (s : Shared) (σ : St) (H : Hp) (D : Ends), Inv X pins σ H s → t D σ H → wpAny (model X.prog X.w) X.A (exec st X.env) (SP X pins D) X.xe s
def PSs (X : Cx) (st : List Stmt) (t : TS) : Prop :=
  ∀ (pins : List (Addr × Obj)) (s : Shared) (σ : St) (H : Hp) (D : Ends), Inv X pins σ H s → t D σ H → wpAny (model X.prog X.w) X.A (execs st X.env) (SP X pins D) X.xe s
/-- weaken the end -/
theorem thn {α : Type} {t : Sem α} {Q Q' : α → Shared → Prop} {M : Model} {A : Around} {E : Value → Shared → Prop} {s : Shared} (h : wpAny M A t Q E s) (hQ : ∀ a s, Q a s → Q' a s) : wpAny M A t Q' E s := wpAny_mono h hQ fun _ _ x => x
end L2

namespace L2
open PySem PySem.Spec PyProof.Rows
section
variable {X : Cx}

/-- two expressions in a row -/
theorem bin {a b : Expr} {ta tb : TE} (ha : PE X a ta) (hb : PE X b tb) {pins : List (Addr × Obj)} {s : Shared} {σ : St} {H : Hp} {R : V → V → Hp → Prop} (I : Inv X pins σ H s) (h : ta σ H fun x H1 => tb σ H1 fun y H2 => R x y H2)
    {α : Type} {Q : α → Shared → Prop} {f : Value → Value → Sem α}
    (hf : ∀ v u s2 x y H2, Inv X pins σ H2 s2 → RelV x v → RelV y u → R x y H2 → wpAny (model X.prog X.w) X.A (f v u) Q X.xe s2) :
    wpAny (model X.prog X.w) X.A (eval a X.env) (fun v s₁ => wpAny (model X.prog X.w) X.A (eval b X.env) (fun u s₂ => wpAny (model X.prog X.w) X.A (f v u) Q X.xe s₂) X.xe s₁) X.xe s := by
  refine thn (ha pins s σ H _ I h) fun v s1 ⟨x, H1, I1, r1, q1⟩ => ?_
  refine thn (hb pins s1 σ H1 _ I1 q1) fun u s2 ⟨y, H2, I2, r2, q2⟩ => ?_
  exact hf v u s2 x y H2 I2 r1 r2 q2

def tVar (i : Nat) : TE := fun σ H Q => ∃ v, σ[i]? = some (some v) ∧ Q v H
def tC (v : V) : TE := fun _ H Q => Q v H
theorem pe_var {i : Nat} {x : Str} {pos : Pos} (hN : X.N[i]? = some x) (hv : Vis X.env.scope x) (hd : (x == ("__debug__" : Str)) = false := by decide) (hcd : (x == ("__classdict__" : Str)) = false := by decide) : PE X (.Name x pos) (tVar i) := by
  intro pins s σ H Q I h
  obtain ⟨v, e, h⟩ := h
  obtain ⟨m, hn, hl⟩ := I.loc
  obtain ⟨u, r, l⟩ := hl i x v hN e hv
  have fin : EP X pins σ Q u s := ⟨v, H, I, r, h⟩
  rcases l with ⟨hk, hm⟩ | ⟨hk, c, hc, hcell⟩
  · exact wpAny_Name (wpAny_loadName_local I.ok.kind hk hn hm fin) hd
  · rcases hk with hk | hk
    · exact wpAny_Name (wpAny_loadName_cell I.ok.kind hk hc hcell fin) hd
    · exact wpAny_Name (wpAny_loadName_free I.ok.kind hk hc hcell fin hcd) hd
theorem pe_int {i j pos} : PE X (.Constant (.int i) j pos) (tC (.int i)) := fun _ _ _ H _ I h => wpAny_Constant_int ⟨.int i, H, I.tok _, ⟨_, rfl⟩, h⟩
theorem pe_bl {b j pos} : PE X (.Constant (.bool b) j pos) (tC (.bl b)) := fun _ _ _ H _ I h => Constant_bool ⟨.bl b, H, I, rfl, h⟩

/-- a global name of the def -/
def Gl (X : Cx) (x : Str) : Prop := X.env.kindOf x = some .globalImplicit
theorem ld_glob {E : Value → Shared → Prop} {pins : List (Addr × Obj)} {s : Shared} {σ : St} {H : Hp} {x : Str} {u : Value} {pos : Pos} {Q : Value → Shared → Prop} (I : Inv X pins σ H s) (hg : Gl X x) (hm : X.mg x = some u) (h : Q u s)
    (hd : (x == ("__debug__" : Str)) = false := by decide) : wpAny (model X.prog X.w) X.A (eval (.Name x pos) X.env) Q E s :=
  Calls.Name_function_global I.ok.kind hg (Calls.loadGlobal_global (by rw [I.ok.glob]; exact I.mod.glob.keeps I.bk) hm h) hd
theorem ld_blt {E : Value → Shared → Prop} {pins : List (Addr × Obj)} {s : Shared} {σ : St} {H : Hp} {x : Str} {u : Value} {pos : Pos} {Q : Value → Shared → Prop} (I : Inv X pins σ H s) (hg : Gl X x) (hm : X.mg x = none) (hv : bootBuiltins x = some u) (h : Q u s)
    (hn : x ≠ "__name__" := by decide) (hd : (x == ("__debug__" : Str)) = false := by decide) : wpAny (model X.prog X.w) X.A (eval (.Name x pos) X.env) Q E s := by
  obtain ⟨mb, h1, h2⟩ := I.mod.blt
  exact Calls.Name_function_global I.ok.kind hg (Calls.loadGlobal_builtin (by rw [I.ok.glob]; exact I.mod.glob.keeps I.bk) hm (by rw [I.ok.blt]; exact h1.keeps I.bk) ((h2 x hn).trans hv) h) hd
theorem pe_bltn {x : Str} {v : V} {u : Value} {pos : Pos} (hg : Gl X x) (hm : X.mg x = none) (hv : bootBuiltins x = some u) (r : RelV v u) (hn : x ≠ "__name__" := by decide) (hd : (x == ("__debug__" : Str)) = false := by decide) : PE X (.Name x pos) (tC v) :=
  fun _ _ _ H _ I h => ld_blt I hg hm hv ⟨v, H, I, r, h⟩ hn hd

variable {a b : Expr} {ta tb : TE} {pos : Pos}

def PC (X : Cx) (op : CmpOp) (a b : Expr) (t : TE) : Prop :=
  ∀ (pins : List (Addr × Obj)) (s : Shared) (σ : St) (H : Hp) (Q : VK), Inv X pins σ H s → t σ H Q →
    wpAny (model X.prog X.w) X.A (eval a X.env) (fun v s₁ => wpAny (model X.prog X.w) X.A (eval b X.env) (fun u s₂ => wpAny (model X.prog X.w) X.A (compareOp op v u) (EP X pins σ Q) X.xe s₂) X.xe s₁) X.xe s
/-- a comparison as a value, as a test -/
def tB (t : TE) : TT := fun σ H Q => t σ H fun x H1 => ∃ c, x = .bl c ∧ Q c H1
theorem pt_cmp {op : CmpOp} {t : TE} (h : PC X op a b t) (h1 : behindInMarks op b = false := by first | exact nobehind _ (by decide) (by decide) | rfl) : PT X (.Compare a [op] [b] pos) (tB t) := by
  intro pins s σ H Q I hw
  refine wpAny_isTrue_Compare1 (thn (h pins s σ H _ I hw) fun v s1 h1 => thn h1 fun u s2 h2 => thn h2 fun c s3 ⟨x, H1, I1, r1, q1⟩ => ?_) h1
  obtain ⟨d, rfl, q⟩ := q1
  cases r1
  exact wpAny_truthy_bool ⟨H1, I1, q⟩
/-- an expression whose value is a bool, as a test -/
theorem pt_val {e : Expr} {t : TE} (h : PE X e t) (he : ∀ whole, isTrue e X.env whole = (do let v ← whole; standAt e.pos; holding [v] (truthy v)) := by intro _; rfl) : PT X e (tB t) := by
  intro pins s σ H Q I hw
  refine isTrue_plain (thn (h pins s σ H _ I hw) fun v s1 ⟨x, H1, I1, r1, q1⟩ => ?_) (he _)
  obtain ⟨d, rfl, q⟩ := q1
  cases r1
  exact wpAny_truthy_bool ⟨H1, I1, q⟩

variable {tA tB' : TT} {rest : List Expr}
def tAnd (t u : TT) : TT := fun σ H Q => t σ H fun c H1 => if c = true then u σ H1 Q else Q false H1
def tOr (t u : TT) : TT := fun σ H Q => t σ H fun c H1 => if c = true then Q true H1 else u σ H1 Q
def tNot (t : TT) : TT := fun σ H Q => t σ H fun c H1 => Q (!c) H1
theorem pw_and1 (ha : PT X a tA) : PW X (.BoolOp .And [a] pos) tA := by
  intro wh pins s σ H Q I h
  refine isTrue_and (thn (ha pins s σ H Q I h) fun c s1 e => ?_)
  cases c with
  | true => exact isTrue_and_nil e
  | false => exact e
theorem pw_or1 (ha : PT X a tA) : PW X (.BoolOp .Or [a] pos) tA := by
  intro wh pins s σ H Q I h
  refine isTrue_or (thn (ha pins s σ H Q I h) fun c s1 e => ?_)
  cases c with
  | false => exact isTrue_or_nil e
  | true => exact e
theorem pw_and (ha : PT X a tA) (hb : PW X (.BoolOp .And (b :: rest) pos) tB') : PW X (.BoolOp .And (a :: b :: rest) pos) (tAnd tA tB') := by
  intro wh pins s σ H Q I h
  refine isTrue_and (thn (ha pins s σ H _ I h) fun c s1 ⟨H1, I1, q1⟩ => ?_)
  cases c with
  | true => exact hb wh pins s1 σ H1 Q I1 q1
  | false => exact ⟨H1, I1, q1⟩
theorem pw_or (ha : PT X a tA) (hb : PW X (.BoolOp .Or (b :: rest) pos) tB') : PW X (.BoolOp .Or (a :: b :: rest) pos) (tOr tA tB') := by
  intro wh pins s σ H Q I h
  refine isTrue_or (thn (ha pins s σ H _ I h) fun c s1 ⟨H1, I1, q1⟩ => ?_)
  cases c with
  | true => exact ⟨H1, I1, q1⟩
  | false => exact hb wh pins s1 σ H1 Q I1 q1
theorem pt_not (ha : PT X a tA) : PT X (.UnaryOp .Not a pos) (tNot tA) := by
  intro pins s σ H Q I h
  exact isTrue_not (ha pins s σ H (fun c H1 => Q (!c) H1) I h)
/-- .. as values (bools) -/
def tAndV (ta tb : TE) : TE := fun σ H Q => ta σ H fun x H1 => ∃ c, x = .bl c ∧ if c = true then tb σ H1 Q else Q (.bl false) H1
def tNotV (ta : TE) : TE := fun σ H Q => ta σ H fun x H1 => ∃ c, x = .bl c ∧ Q (.bl (!c)) H1
theorem pe_one {op} {t : TE} (h : PE X a t) : PE X (.BoolOp op [a] pos) t := fun pins s σ H Q I hw => BoolOp_one (h pins s σ H Q I hw)
theorem pe_and (ha : PE X a ta) (hb : PE X (.BoolOp .And (b :: rest) pos) tb) : PE X (.BoolOp .And (a :: b :: rest) pos) (tAndV ta tb) := by
  intro pins s σ H Q I h
  refine BoolOp_and (thn (ha pins s σ H _ I h) fun v s1 ⟨x, H1, I1, r1, q1⟩ => ?_)
  obtain ⟨c, rfl, q1⟩ := q1
  cases r1
  refine wpAny_truthy_bool ?_
  cases c with
  | true => exact hb pins s1 σ H1 Q I1 q1
  | false => exact ⟨.bl false, H1, I1, rfl, q1⟩
theorem pe_not (ha : PE X a ta) : PE X (.UnaryOp .Not a pos) (tNotV ta) := by
  intro pins s σ H Q I h
  refine UnaryOp_ (thn (ha pins s σ H _ I h) fun v s1 ⟨x, H1, I1, r1, q1⟩ => ?_)
  obtain ⟨c, rfl, q1⟩ := q1
  cases r1
  exact not_of (wpAny_truthy_bool ⟨.bl (!c), H1, I1, rfl, q1⟩)
end
end L2

namespace L2
open PySem PySem.Spec PyProof.Rows

def SqL (K : PySem.W.Frag) (H : Hp) (a : Addr) (xs : List V) : Prop :=
  Rd H a (.lst xs) ∨
    ∃ (o : Obj) (its : Array Value) (n : Nat), K.lookup a = some o ∧ o.cls = .type "list" ∧ o.dict = none ∧ o.data = .seq its n ∧ its.size ≤ sizeLine ∧ Vals xs its.toList
def SqT (K : PySem.W.Frag) (H : Hp) (a : Addr) (xs : List V) : Prop :=
  Rd H a (.tup xs) ∨
    ∃ (o : Obj) (its : Array Value) (n : Nat), K.lookup a = some o ∧ o.cls = .type "tuple" ∧ o.data = .seq its n ∧ its.size ≤ sizeLine ∧ Vals xs its.toList
def absV : Value → Option V
  | .none => some .non
  | .bool b => some (.bl b)
  | .int i _ => some (.int i)
  | .str x _ => some (.str x)
  | .bytes b _ => some (.byt b)
  | .float b _ => some (.flt b)
  | .ref a => some (.ref a)
  | .type n => some (.ty n)
  | _ => none
theorem RelV.abs {x : V} {u : Value} (r : RelV x u) : absV u = some x := by
  cases x with
  | non => cases r; rfl
  | bl _ => cases r; rfl
  | int _ => obtain ⟨t, rfl⟩ := r; rfl
  | str _ => obtain ⟨t, rfl⟩ := r; rfl
  | byt _ => obtain ⟨t, rfl⟩ := r; rfl
  | flt _ => obtain ⟨t, rfl⟩ := r; rfl
  | ref _ => cases r; rfl
  | ty _ => cases r; rfl
theorem RelV.inj {x y : V} {u : Value} (r : RelV x u) (q : RelV y u) : x = y := Option.some.inj (r.abs.symm.trans q.abs)
theorem Vals.inj : ∀ {xs ys : List V} {us : List Value}, Vals xs us → Vals ys us → xs = ys
  | _, _, _, .nil, .nil => rfl
  | _, _, _, .cons r t, .cons r' t' => by rw [r.inj r', Vals.inj t t']
section
variable {X : Cx} {pins : List (Addr × Obj)} {σ : St} {H : Hp} {s : Shared} {a : Addr} {xs ys : List V}
theorem SqL.of {K : PySem.W.Frag} (h : H a = some (.lst xs)) : SqL K H a xs := .inl (.inl h)
theorem SqT.of {K : PySem.W.Frag} (h : H a = some (.tup xs)) : SqT K H a xs := .inl (.inl h)
theorem Inv.list (I : Inv X pins σ H s) (h : SqL X.K H a xs) : ∃ its : List Value, Vals xs its ∧ PlainL s.heap a its.toArray ∧ xs.length ≤ sizeLine := by
  rcases h with h | ⟨o, its, n, hk, hc, hd, hs, hz, r⟩
  · obtain ⟨z, its, n, r, e⟩ := h.ok I.hok
    exact ⟨its, r, ⟨_, n, e, rfl, rfl, rfl⟩, z⟩
  · refine ⟨its.toList, r, ⟨o, n, I.kIn a o hk, hc, hd, by simpa using hs⟩, ?_⟩
    have e := r.length
    simp only [Array.length_toList] at e
    omega
theorem Inv.tuple (I : Inv X pins σ H s) (h : SqT X.K H a xs) : ∃ its : List Value, Vals xs its ∧ IsTup s.heap a its.toArray ∧ xs.length ≤ sizeLine := by
  rcases h with h | ⟨o, its, n, hk, hc, hs, hz, r⟩
  · obtain ⟨z, its, r, p⟩ := h.ok I.hok
    exact ⟨its, r, p, z⟩
  · refine ⟨its.toList, r, ⟨o, I.kIn a o hk, hc, n, by simpa using hs⟩, ?_⟩
    have e := r.length
    simp only [Array.length_toList] at e
    omega
theorem Inv.list_inj (I : Inv X pins σ H s) (h : SqL X.K H a xs) (h' : SqL X.K H a ys) : xs = ys := by
  obtain ⟨its, r, ⟨o, n, e, _, _, d⟩, _⟩ := I.list h
  obtain ⟨its', r', ⟨o', n', e', _, _, d'⟩, _⟩ := I.list h'
  rw [e] at e'; cases e'
  rw [d] at d'
  injection d' with d1 _
  have : its = its' := by simpa using congrArg Array.toList d1
  subst this
  exact r.inj r'
end

abbrev Cx.wish (X : Cx) (E : Value → Shared → Prop) : Cx := { X with xe := E }
/-- no exception leaves -/
abbrev Cx.nox (X : Cx) : Cx := X.wish fun _ _ => False
theorem Cx.Ok.wish {X : Cx} (ok : X.Ok) (E : Value → Shared → Prop) : (X.wish E).Ok :=
  ⟨ok.mod, ok.kind, ok.glob, ok.blt, ok.above, ok.inj, ok.has, ok.cab, ok.hd, ok.frames, ok.stk, ok.exf, ok.bs, ok.bsz, ok.noex, ok.exfs, ok.funs, ok.frf⟩
theorem Cx.Ok.unwish {X : Cx} {E : Value → Shared → Prop} (ok : (X.wish E).Ok) : X.Ok :=
  ⟨ok.mod, ok.kind, ok.glob, ok.blt, ok.above, ok.inj, ok.has, ok.cab, ok.hd, ok.frames, ok.stk, ok.exf, ok.bs, ok.bsz, ok.noex, ok.exfs, ok.funs, ok.frf⟩
section
variable {X : Cx} {pins : List (Addr × Obj)} {σ : St} {H : Hp} {s : Shared} {E : Value → Shared → Prop}
theorem Inv.wish (I : Inv X pins σ H s) (E : Value → Shared → Prop) : Inv (X.wish E) pins σ H s := ⟨I.ok.wish E, I.os, I.bare, I.base, I.loc, I.cell, I.free, I.freeC, I.pin, I.hok, I.len⟩
theorem Inv.unwish (I : Inv (X.wish E) pins σ H s) : Inv X pins σ H s := ⟨I.ok.unwish, I.os, I.bare, I.base, I.loc, I.cell, I.free, I.freeC, I.pin, I.hok, I.len⟩
theorem SP.unwish {D : Ends} {f : Flow} {s' : Shared} (h : SP (X.wish E) pins D f s') : SP X pins D f s' := by
  cases f with
  | next => obtain ⟨σ', H', I, q⟩ := h; exact ⟨σ', H', I.unwish, q⟩
  | brk => obtain ⟨σ', H', I, q⟩ := h; exact ⟨σ', H', I.unwish, q⟩
  | cont => obtain ⟨σ', H', I, q⟩ := h; exact ⟨σ', H', I.unwish, q⟩
  | ret u => obtain ⟨v, σ', H', I, r, q⟩ := h; exact ⟨v, σ', H', I.unwish, r, q⟩
theorem PSs.nox {st : List Stmt} {t : TS} (h : PSs X.nox st t) : PSs X st t := fun pins s σ H D I hw =>
  wpAny_mono (h pins s σ H D (I.wish _) hw) (fun _ _ q => q.unwish) fun _ _ z => False.elim z
end

section
variable {X : Cx} {st : Stmt} {rest : List Stmt} {t u : TS} {e : Expr} {te : TE} {pos : Pos}
def tNext : TS := fun D σ H => D.nx σ H
def tSeq (t u : TS) : TS := fun D σ H => t { D with nx := u D } σ H
theorem pss_nil : PSs X [] tNext := fun _ _ σ H _ I h => wpAny_execs_nil ⟨σ, H, I, h⟩
theorem pss_cons (h1 : PS X st t) (h2 : PSs X rest u) : PSs X (st :: rest) (tSeq t u) := by
  intro pins s σ H D I h
  refine wpAny_execs_cons (thn (h1 pins s σ H { D with nx := u D } I h) fun f s1 q => ?_)
  cases f with
  | next =>
    obtain ⟨σ', H', I', q⟩ := q
    exact h2 pins s1 σ' H' D I' q
  | ret v => exact q
  | brk => exact q
  | cont => exact q
theorem pss_one (h1 : PS X st t) : PSs X [st] t := by
  intro pins s σ H D I h
  refine wpAny_execs_cons (thn (h1 pins s σ H D I h) fun f s1 q => ?_)
  cases f with
  | next => exact wpAny_execs_nil q
  | ret v => exact q
  | brk => exact q
  | cont => exact q
/-- in a def's body nothing is shown -/
theorem Inv.quiet {pins : List (Addr × Obj)} {σ : St} {H : Hp} {s : Shared} (I : Inv X pins σ H s) : interactive X.env = false := by simp [interactive, I.ok.kind]
/-- an expression whose value is dropped -/
def tDrop (te : TE) : TS := fun D σ H => te σ H fun _ H1 => D.nx σ H1
theorem ps_expr (he : PE X e te) (hs : swapsWith e none pos.line X.env = pure false := by rfl) : PS X (.Expr e pos) (tDrop te) := by
  intro pins s σ H D I h
  exact wpAny_Expr_any (thn (he pins s σ H _ I h) fun v s1 ⟨x, H1, I1, r1, q1⟩ => ⟨σ, H1, I1, q1⟩) I.quiet hs
def tRet (te : TE) : TS := fun D σ H => te σ H D.rt
theorem ps_ret (he : PE X e te) : PS X (.Return (some e) pos) (tRet te) := by
  intro pins s σ H D I h
  exact wpAny_Return_some (thn (he pins s σ H _ I h) fun v s1 ⟨x, H1, I1, r1, q1⟩ => ⟨x, σ, H1, I1, r1, q1⟩)
def tIfS (c : TT) (t u : TS) : TS := fun D σ H => c σ H fun b H1 => if b = true then t D σ H1 else u D σ H1
theorem ps_if {c : Expr} {a b : List Stmt} {tc : TT} (hc : PT X c tc) (ha : PSs X a t) (hb : PSs X b u) : PS X (.If c a b pos) (tIfS tc t u) := by
  intro pins s σ H D I h
  refine wpAny_If (thn (hc pins s σ H _ I h) fun d s1 ⟨H1, I1, q1⟩ => ?_)
  cases d with
  | true => exact ha pins s1 σ H1 D I1 q1
  | false => exact hb pins s1 σ H1 D I1 q1
end

abbrev TG := V → St → Hp → (St → Hp → Prop) → Prop
abbrev TGs := List V → St → Hp → (St → Hp → Prop) → Prop
def PG (X : Cx) (target : Expr) (t : TG) : Prop :=
  ∀ (pins : List (Addr × Obj)) (s : Shared) (σ : St) (H : Hp) (v : V) (u : Value) (Q : St → Hp → Prop), Inv X pins σ H s → RelV v u → t v σ H Q →
    wpAny (model X.prog X.w) X.A (assign target X.env u) (fun _ s' => ∃ σ' H', Inv X pins σ' H' s' ∧ Q σ' H') X.xe s
/-- several targets, one after another -/
def PGs (X : Cx) (ts : List Expr) (t : TGs) : Prop :=
  ∀ (pins : List (Addr × Obj)) (s : Shared) (σ : St) (H : Hp) (vs : List V) (us : List Value) (Q : St → Hp → Prop), Inv X pins σ H s → Vals vs us → t vs σ H Q →
    wpAny (model X.prog X.w) X.A (assignInOrder ((assignEach ts X.env).map (·.2)) us) (fun _ s' => ∃ σ' H', Inv X pins σ' H' s' ∧ Q σ' H') X.xe s
/-- o[i] = v, by values -/
abbrev TSet := V → V → V → Hp → (Hp → Prop) → Prop
def PSet (X : Cx) (t : TSet) : Prop :=
  ∀ (pins : List (Addr × Obj)) (s : Shared) (σ : St) (H : Hp) (o i v : V) (ov iv u : Value) (Q : Hp → Prop), Inv X pins σ H s → RelV o ov → RelV i iv → RelV v u → t o i v H Q →
    wpAny (model X.prog X.w) X.A (setItem ov iv u) (fun _ s' => ∃ H', Inv X pins σ H' s' ∧ Q H') X.xe s
section
variable {X : Cx} {pos : Pos}
def gName (i : Nat) : TG := fun v σ H Q => Q (σ.set i (some v)) H
theorem pg_name {i : Nat} {x : Str} (hN : X.N.Nodup) (hi : X.N[i]? = some x) (hx : Loc X.env.scope x) (hf : X.fn x = true ∨ X.env.scope.names.lookup x = some .local := by first | exact .inl rfl | exact .inr rfl | assumption) : PG X (.Name x pos) (gName i) := by
  intro pins s σ H v u Q I r h
  exact wpAny_assign_Name (store_ok I hN hi hx r (fun s' I' => ⟨_, H, I', h⟩) hf)
def gNil : TGs := fun vs σ H Q => vs = [] ∧ Q σ H
def gCons (t : TG) (u : TGs) : TGs := fun vs σ H Q => ∃ v r, vs = v :: r ∧ t v σ H fun σ' H' => u r σ' H' Q
theorem pgs_nil : PGs X [] gNil := by
  intro pins s σ H vs us Q I r h
  obtain ⟨e, h⟩ := h
  subst e
  cases r
  exact assignInOrder_nil ⟨σ, H, I, h⟩
theorem pgs_cons {e : Expr} {es : List Expr} {t : TG} {u : TGs} (h1 : PG X e t) (h2 : PGs X es u)
    (hs : (assignEach (e :: es) X.env).map (·.2) = assign e X.env :: (assignEach es X.env).map (·.2) := by rfl) : PGs X (e :: es) (gCons t u) := by
  intro pins s σ H vs us Q I r h
  obtain ⟨v, vr, e1, h⟩ := h
  subst e1
  cases r with
  | cons r rr =>
    rw [hs]
    refine assignInOrder_cons (thn (h1 pins s σ H _ _ _ I r h) fun _ s1 ⟨σ1, H1, I1, q1⟩ => ?_)
    exact h2 pins s1 σ1 H1 _ _ Q I1 rr q1
/-- (a, b, ..) = a tuple of that length -/
def gTup (K : PySem.W.Frag) (n : Nat) (t : TGs) : TG := fun v σ H Q => ∃ a xs, v = .ref a ∧ SqT K H a xs ∧ xs.length = n ∧ t xs σ H Q
theorem pg_tup {es : List Expr} {k : Nat} {t : TGs} {n : Nat} (hc : X.calm = true) (h : PGs X es t)
    (hn : (assignEach es X.env).length = n := by rfl) (hst : (assignEach es X.env).findIdx? (·.1) = none := by rfl) : PG X (.Tuple es k pos) (gTup X.K n t) := by
  intro pins s σ H v u Q I r hw
  obtain ⟨a, xs, e1, hq, hl, hw⟩ := hw
  subst e1
  cases r
  obtain ⟨its, rv, ht, hz⟩ := I.tuple hq
  refine assign_Tuple_tuple (I.ok.hd hc) ht (by simp [hn, ← hl, rv.length]) hst fun h' hx => ?_
  have I1 : Inv X pins σ H { s with heap := h' } := I.kept (t' := s.toks) fun b o e => hx b o (Nat.ne_of_lt (Heap.lt_size e)) e
  exact h pins _ σ H xs _ Q I1 (by simpa using rv) hw
/-- o[i] = .. -/
def gSub (to ti : TE) (t : TSet) : TG := fun v σ H Q => to σ H fun o H1 => ti σ H1 fun i H2 => t o i v H2 fun H3 => Q σ H3
theorem pg_sub {o i : Expr} {to ti : TE} {t : TSet} (ho : PE X o to) (hi : PE X i ti) (hs : PSet X t)
    (ha : ∀ v, assign (.Subscript o i pos) X.env v = (do
      let ov ← holding [v] (eval o X.env)
      let iv ← holding [v, ov] (eval i X.env)
      standAt pos
      holding [v, ov, iv] (setItem ov iv v)
      release [v, ov, iv] []) := by intro _; rfl) : PG X (.Subscript o i pos) (gSub to ti t) := by
  intro pins s σ H v u Q I r h
  rw [ha]
  refine wpAny_bind (wpAny_holding (thn (ho pins s σ H _ I h) fun ov s1 ⟨x, H1, I1, r1, q1⟩ => ?_))
  refine wpAny_bind (wpAny_holding (thn (hi pins s1 σ H1 _ I1 q1) fun iv s2 ⟨y, H2, I2, r2, q2⟩ => ?_))
  refine wpAny_bind (wpAny_standAt (wpAny_bind (wpAny_holding (thn (hs pins s2 σ H2 x y v ov iv u _ I2 r1 r2 r q2) fun _ s3 ⟨H3, I3, q3⟩ => ?_))))
  exact wpAny_release ⟨σ, H3, I3, q3⟩
/-- target = value -/
def tAsg (te : TE) (g : TG) : TS := fun D σ H => te σ H fun x H1 => g x σ H1 D.nx
theorem ps_asg {tg e : Expr} {te : TE} {g : TG} (he : PE X e te) (hg : PG X tg g) (hs : swapsWithSole [tg] e pos.line X.env = pure false := by rfl) (hw : swappedStores [tg] e X.env = pure none := by rfl)
    (h1 : (assignEach [tg] X.env).map (·.2) = [assign tg X.env] := by rfl) : PS X (.Assign [tg] e pos) (tAsg te g) := by
  intro pins s σ H D I h
  refine wpAny_Assign_stores (thn (he pins s σ H _ I h) fun v s1 ⟨x, H1, I1, r1, q1⟩ => ?_) hs hw
  rw [h1]
  exact thn (hg pins s1 σ H1 x v _ I1 r1 q1) fun _ s2 q => q
/-- name = value -/
theorem ps_set {i : Nat} {x : Str} {e : Expr} {te : TE} {pos' : Pos} (hN : X.N.Nodup) (hi : X.N[i]? = some x) (hx : Loc X.env.scope x) (he : PE X e te) (hs : swapsWith e (some (.Name x pos')) pos.line X.env = pure false := by rfl) (hf : X.fn x = true ∨ X.env.scope.names.lookup x = some .local := by first | exact .inl rfl | exact .inr rfl | assumption) :
    PS X (.Assign [.Name x pos'] e pos) (tAsg te (gName i)) := by
  intro pins s σ H D I h
  refine wpAny_Assign_Name (thn (he pins s σ H _ I h) fun v s1 ⟨y, H1, I1, r1, q1⟩ => ?_) hs
  exact store_ok I1 hN hi hx r1 (fun s2 I2 => ⟨_, H1, I2, q1⟩) hf
end

section
variable {X : Cx} {pos : Pos}
end

/-- at turn i: it yields x (the heap may grow), or it stops -/
structure It where
  go : Nat → Hp → Prop
  yld : Nat → Hp → V → Hp → Prop
  stop : Nat → Hp → Prop
/-- the iterator's own objects may turn: they are not the frame's, not pinned, younger than the entry (or a comprehension's own) -/
def FpOk (X : Cx) (pins : List (Addr × Obj)) (H : Hp) (b : Addr) : Prop :=
  H b = none ∧ b ≠ X.env.locals ∧ b ∉ X.fs ∧ (b ∈ X.ex ∨ X.s₀.heap.objs.size ≤ b) ∧ (∀ x c, X.env.cells.lookup x = some c → c ≠ b) ∧ ∀ p ∈ X.pn ++ pins, p.1 ≠ b
theorem Inv.fpOk {X : Cx} {pins : List (Addr × Obj)} {σ : St} {H H' : Hp} {s : Shared} {b : Addr} (I : Inv X pins σ H s) (hb : s.heap.objs.size ≤ b) (hn : H' b = none) : FpOk X pins H' b := by
  refine ⟨hn, Nat.ne_of_gt (Nat.lt_of_lt_of_le I.lt hb), I.nofs hb, .inr (Nat.le_trans I.sz hb), fun x c e z => ?_, fun p hp z => ?_⟩
  · obtain ⟨v, q⟩ := I.cell x c e
    exact absurd (Nat.lt_of_lt_of_le q.lt (by rw [z]; exact hb)) (Nat.lt_irrefl _)
  · exact absurd (Nat.lt_of_lt_of_le (Heap.lt_size (I.pin p hp).1) (by rw [z]; exact hb)) (Nat.lt_irrefl _)
structure Turn (P : Program) (w : World) (K : PySem.W.Frag) (tg : Expr) (J : It) (fp : List Addr) (it : Addr) (tn : Nat → Heap → Prop) : Prop where
  mem : it ∈ fp
  obj : ∀ i h, tn i h → ∀ b ∈ fp, ∃ o, h.get? b = some o ∧ ∀ v, o.data ≠ .cell v
  keep : ∀ i h h', tn i h → (∀ b ∈ fp, ∀ o, h.get? b = some o → h'.get? b = some o) → tn i h'
  item : ∀ (X : Cx), X.prog = P → X.w = w → X.K = K → X.calm = true → ∀ (i : Nat) (pins : List (Addr × Obj)) (s : Shared) (σ : St) (H : Hp) (E : Value → Shared → Prop), Inv X pins σ H s → (∀ b ∈ fp, FpOk X pins H b) → tn i s.heap → J.go i H →
    wpAny (model P w) X.A (pyNext (.ref it)) (fun r s1 => ∃ u, r = some u ∧
      wpAny (model P w) X.A (letOwnedTupleGo tg (.ref it) u) (fun _ s2 => ∃ x H', Inv X pins σ H' s2 ∧ RelV x u ∧ J.yld i H x H' ∧ tn (i + 1) s2.heap ∧ ∀ b ∈ fp, H' b = none) E s1) E s
  done : ∀ (X : Cx), X.prog = P → X.w = w → X.K = K → X.calm = true → ∀ (i : Nat) (pins : List (Addr × Obj)) (s : Shared) (σ : St) (H : Hp) (E : Value → Shared → Prop), Inv X pins σ H s → (∀ b ∈ fp, FpOk X pins H b) → tn i s.heap → J.stop i H →
    wpAny (model P w) X.A (pyNext (.ref it)) (fun r s1 => r = none ∧ Inv X pins σ H s1) E s
  self : ∀ (A : Around) (i : Nat) (s : Shared) (Q : Value → Shared → Prop) (E : Value → Shared → Prop), tn i s.heap → Q (.ref it) s → wpAny (model P w) A (pyIter (.ref it)) Q E s
abbrev TI := St → Hp → (It → Hp → Prop) → Prop
/-- an iterator has come -/
def PIE (X : Cx) (pins : List (Addr × Obj)) (σ : St) (tg : Expr) (R : It → Hp → Prop) (itv : Value) (s2 : Shared) : Prop :=
  ∃ (it : Addr) (fp : List Addr) (tn : Nat → Heap → Prop) (J : It) (H' : Hp), itv = .ref it ∧ Inv X pins σ H' s2 ∧ Turn X.prog X.w X.K tg J fp it tn ∧ tn 0 s2.heap ∧ (∀ b ∈ fp, FpOk X pins H' b) ∧ R J H'
def PI (X : Cx) (tg iter : Expr) (wi : TI) : Prop :=
  ∀ (pins : List (Addr × Obj)) (s : Shared) (σ : St) (H : Hp) (R : It → Hp → Prop), Inv X pins σ H s → wi σ H R →
    wpAny (model X.prog X.w) X.A (eval iter X.env) (fun v s1 => wpAny (model X.prog X.w) X.A (pyIter v) (PIE X pins σ tg R) X.xe s1) X.xe s

/-- the step ahead of the store is nothing for an iterator that keeps no tuple -/
theorem go_of {M : Model} {A : Around} {E : Value → Shared → Prop} {s : Shared} {tg : Expr} {it : Addr} {u : Value} {o : Obj} {n : String} {vs : Array Value} {Q : Unit → Shared → Prop} (ho : s.heap.get? it = some o) (hc : o.cls = .type n) (hd : o.data = .fields vs)
    (hn : ["enumerate", "zip", "dict_itemiterator", "dict_reverseitemiterator", "odict_iterator", "itertools.zip_longest", "itertools.pairwise"].contains n = false) (hQ : Q () s) : wpAny M A (letOwnedTupleGo tg (.ref it) u) Q E s := by
  unfold letOwnedTupleGo
  cases tg <;> first
    | exact wpAny_pure hQ
    | (cases u <;> first
        | exact wpAny_pure hQ
        | (refine wpAny_bind (wpAny_load ho ?_)
           rw [hc, hd]
           show wpAny M A (if (["enumerate", "zip", "dict_itemiterator", "dict_reverseitemiterator", "odict_iterator", "itertools.zip_longest", "itertools.pairwise"].contains n && vs[0]? == some (rawInt _)) = true then _ else _) Q E s
           rw [if_neg (by intro h; rw [hn, Bool.false_and] at h; cases h)]
           exact wpAny_pure hQ))

/-- the list at a, as it stands at each turn (a loop may append to it) -/
def Itl (K : PySem.W.Frag) (a : Addr) : It :=
  ⟨fun i H => ∃ xs x, SqL K H a xs ∧ xs[i]? = some x, fun i H x H' => H' = H ∧ ∀ xs, SqL K H a xs → xs[i]? = some x, fun i H => ∃ xs, SqL K H a xs ∧ xs.length ≤ i⟩
/-- lo, lo + 1, .. (n of them) -/
def Itr (lo : Int) (n : Nat) : It := ⟨fun i _ => i < n, fun i H x H' => H' = H ∧ x = .int (lo + i), fun i _ => n ≤ i⟩
theorem turn_list {P : Program} {w : World} {K : PySem.W.Frag} {tg : Expr} (a it : Addr) : Turn P w K tg (Itl K a) [it] it (fun i h => h.IsListIter it a i) where
  mem := by simp
  obj := fun i h st b hb => by
    have e : b = it := by simpa using hb
    subst e
    obtain ⟨o, e, c, d⟩ := st
    exact ⟨o, e, fun v z => by rw [d] at z; cases z⟩
  keep := fun i h h' st k => st.at fun o e => k it (by simp) o e
  item := by
    intro X hP hw hK hc i pins s σ H E I hf st hg
    subst hP hw hK
    obtain ⟨xs, x, hq, hx⟩ := hg
    obtain ⟨its, rv, p, hz⟩ := I.list hq
    obtain ⟨u, hu, ru⟩ := rv.get hx
    obtain ⟨f0, f1, f2, f3, f4, f5⟩ := hf it (by simp)
    refine wpAny_pyNext_list_item st p.isList (x := u) (by simpa using hu) fun h' st' sb => ?_
    have I1 : Inv X pins σ H { s with heap := h' } := I.turned (t' := s.toks) (fun b o hb e => (sb.2 b hb).trans e) f0 f1 f3 f4 f5
    obtain ⟨o, e, c, d⟩ := id st'
    exact ⟨u, rfl, go_of (s := { s with heap := h' }) e c d (by decide) ⟨x, H, I1, ru, ⟨rfl, fun ys hy => by rw [I.list_inj hy hq]; exact hx⟩, st', fun b hb => (hf b hb).1⟩⟩
  done := by
    intro X hP hw hK hc i pins s σ H E I hf st hg
    subst hP hw hK
    obtain ⟨xs, hq, hx⟩ := hg
    obtain ⟨its, rv, p, hz⟩ := I.list hq
    obtain ⟨f0, f1, f2, f3, f4, f5⟩ := hf it (by simp)
    have hl := rv.length
    exact wpAny_pyNext_list_end (I.ok.hd hc) st p.isList (by simp; omega) fun h' eb => ⟨rfl, I.turned (t' := s.toks) (fun b o hb e => eb b o hb e) f0 f1 f3 f4 f5⟩
  self := fun _ _ _ _ _ st h => wpAny_pyIter_listiter st h
theorem turn_range {P : Program} {w : World} {K : PySem.W.Frag} {tg : Expr} (it : Addr) (lo : Int) (n : Nat) : Turn P w K tg (Itr lo n) [it] it (fun i h => IsRangeIter h it (lo + (i : Nat) * 1) ((n : Int) - (i : Nat)) 1) where
  mem := by simp
  obj := fun i h st b hb => by
    have e : b = it := by simpa using hb
    subst e
    exact ⟨_, st, fun v z => by
      have z' : Data.fields _ = Data.cell v := z
      cases z'⟩
  keep := fun i h h' st k => k it (by simp) _ st
  item := by
    intro X hP hw hK hc i pins s σ H E I hf st hg
    subst hP hw hK
    obtain ⟨f0, f1, f2, f3, f4, f5⟩ := hf it (by simp)
    have W := Walks.range (prog := X.prog) (w := X.w) (I.ok.hd hc) it lo 1 n
    refine W.item i s _ _ hg st fun v h' tk hv st' kk => ?_
    obtain ⟨t, rfl⟩ := hv
    have I1 : Inv X pins σ H { s with heap := h', toks := tk } := I.turned (fun b o hb e => kk b o (by simpa using hb) e) f0 f1 f3 f4 f5
    refine ⟨_, rfl, go_of (s := { s with heap := h', toks := tk }) (n := "range_iterator") st' rfl rfl (by decide) ⟨.int (lo + i), H, I1, ⟨t, ?_⟩, ⟨rfl, rfl⟩, st', fun b hb => (hf b hb).1⟩⟩
    rw [Int.mul_one]
  done := by
    intro X hP hw hK hc i pins s σ H E I hf st hg
    subst hP hw hK
    obtain ⟨f0, f1, f2, f3, f4, f5⟩ := hf it (by simp)
    exact wpAny_pyNext_range_end (I.ok.hd hc) st (by have : n ≤ i := hg; omega) fun h' eb => ⟨rfl, I.turned (t' := s.toks) (fun b o hb e => eb b o hb e) f0 f1 f3 f4 f5⟩
  self := fun _ _ _ _ _ st h => wpAny_pyIter_rangeiter st h
end L2

namespace L2
open PySem PySem.Spec PyProof.Rows
section
variable {X : Cx} {tg : Expr}
def iList (K : PySem.W.Frag) (tl : TE) : TI := fun σ H R => tl σ H fun x H1 => ∃ a, x = .ref a ∧ (∃ xs, SqL K H1 a xs) ∧ R (Itl K a) H1
theorem pi_list {l : Expr} {tl : TE} (hl : PE X l tl) : PI X tg l (iList X.K tl) := by
  intro pins s σ H R I h
  refine thn (hl pins s σ H _ I h) fun v s1 ⟨x, H1, I1, r1, q1⟩ => ?_
  obtain ⟨a, e, ⟨xs, hq⟩, q⟩ := q1
  subst e
  cases r1
  obtain ⟨its, rv, p, hz⟩ := I1.list hq
  refine wpAny_pyIter_list p.isList ?_
  refine ⟨s1.heap.objs.size, [s1.heap.objs.size], _, _, H1, rfl, I1.kept (t' := s1.toks) fun b o e => Heap.get?_push_of_some _ e, turn_list a _, ⟨_, Heap.get?_push_size _ rfl, rfl, rfl⟩, fun b hb => ?_, q⟩
  have e : b = s1.heap.objs.size := by simpa using hb
  subst e
  exact I1.fpOk (Nat.le_refl _) (I1.hok.fresh (Nat.le_refl _))
/-- a range object just made, walked -/
theorem range_it {pins : List (Addr × Obj)} {σ : St} {H : Hp} {s : Shared} {R : It → Hp → Prop} {E : Value → Shared → Prop} {lo hi : Int} {t u v : Tok} {tk : Nat} (I : Inv X pins σ H s) (h1 : -(2 ^ 62) ≤ lo) (h2 : lo < 2 ^ 62) (h3 : -(2 ^ 62) ≤ hi) (h4 : hi < 2 ^ 62)
    (q : R (Itr lo (hi - lo).toNat) H) : wpAny (model X.prog X.w) X.A (pyIter (.ref s.heap.objs.size)) (PIE X pins σ tg R) E { s with heap := s.heap.push { cls := .type "range", data := .fields #[.int lo t, .int hi u, .int 1 v] }, toks := tk } := by
  refine wpAny_pyIter_range (IsRange.new ..) (small_one h1 h2 h3 h4) ?_
  have I1 : Inv X pins σ H { s with heap := s.heap.push { cls := .type "range", data := .fields #[.int lo t, .int hi u, .int 1 v] }, toks := tk } := I.kept fun b o e => Heap.get?_push_of_some _ e
  refine ⟨(s.heap.push { cls := .type "range", data := .fields #[.int lo t, .int hi u, .int 1 v] }).objs.size, [(s.heap.push { cls := .type "range", data := .fields #[.int lo t, .int hi u, .int 1 v] }).objs.size], _, _, H, rfl,
    I1.kept (t' := tk) fun b o e => Heap.get?_push_of_some _ e, turn_range _ lo (hi - lo).toNat, ?_, fun b hb => ?_, q⟩
  · have e1 : lo + ((0 : Nat) : Int) * 1 = lo := by simp
    have e2 : (((hi - lo).toNat : Nat) : Int) - ((0 : Nat) : Int) = Builtin.Range.rangeSize lo hi 1 := by rw [rangeSize_one]; split <;> omega
    show IsRangeIter _ _ (lo + ((0 : Nat) : Int) * 1) ((((hi - lo).toNat : Nat) : Int) - ((0 : Nat) : Int)) 1
    rw [e1, e2]
    exact Heap.get?_push_size _ rfl
  · have e : b = (s.heap.push { cls := .type "range", data := .fields #[.int lo t, .int hi u, .int 1 v] }).objs.size := by simpa using hb
    subst e
    exact I1.fpOk (Nat.le_refl _) (I1.hok.fresh (Nat.le_refl _))
def iRng1 (ta : TA) : TI := fun σ H R => ta σ H fun vs H1 => ∃ j : Int, vs = [.int j] ∧ -(2 ^ 62) ≤ j ∧ j < 2 ^ 62 ∧ R (Itr 0 j.toNat) H1
theorem pi_range1 {a : Expr} {ta : TA} {p pos : Pos} (hg : Gl X "range") (hm : X.mg "range" = none) (ha : PA X [a] ta) (hs : starEach [a] X.env = [(false, eval a X.env)] := by rfl) : PI X tg (.Call (.Name "range" p) [a] [] pos) (iRng1 ta) := by
  intro pins s σ H R I h
  refine Call_ (ld_blt I hg hm boot_range (PyProof.Rows.callWith_type1 (thn (ha pos pins s σ H _ I h) fun us s1 ⟨vs, H1, I1, r1, q1⟩ => ?_) hs rfl))
  obtain ⟨j, e, q1, q2, q⟩ := q1
  subst e
  cases r1 with
  | cons r rr =>
    cases rr
    obtain ⟨t, rfl⟩ := r
    exact call_range_1 (range_it I1 (by omega) (by omega) q1 q2 (by simpa using q))

/-- W: the invariant by the turn and a measure; N: what the body is to reach -/
def tFor (wi : TI) (g : TG) (tb : TS) : TS := fun D σ H => wi σ H fun J H1 => ∃ W : Nat → Nat → St → Hp → Prop, (∃ m, W 0 m σ H1) ∧ ∀ i m σ H, W i m σ H →
  (J.stop i H ∧ D.nx σ H) ∨ (J.go i H ∧ ∃ N : St → Hp → Prop, (∀ σ' H', N σ' H' → ∃ m', m' < m ∧ W (i + 1) m' σ' H') ∧ ∀ x H', J.yld i H x H' → g x σ H' fun σ2 H2 => tb { D with nx := N, ct := N, bk := D.nx } σ2 H2)
/-- the records at fp as they stand -/
def pinsAt (fp : List Addr) (h : Heap) : List (Addr × Obj) := fp.filterMap fun b => (h.get? b).map fun o => (b, o)
theorem mem_pinsAt {fp : List Addr} {h : Heap} {b : Addr} {o : Obj} (hb : b ∈ fp) (e : h.get? b = some o) : (b, o) ∈ pinsAt fp h := List.mem_filterMap.mpr ⟨b, hb, by rw [e]; rfl⟩
theorem of_pinsAt {fp : List Addr} {h : Heap} {p : Addr × Obj} (hp : p ∈ pinsAt fp h) : p.1 ∈ fp ∧ h.get? p.1 = some p.2 := by
  obtain ⟨b, hb, e⟩ := List.mem_filterMap.mp hp
  cases q : h.get? b with
  | none => rw [q] at e; cases e
  | some o =>
    rw [q] at e
    have e' : (b, o) = p := Option.some.inj e
    subst e'
    exact ⟨hb, q⟩
theorem Inv.pinned {pins : List (Addr × Obj)} {σ : St} {H : Hp} {s : Shared} {fp : List Addr} (I : Inv X pins σ H s) (hf : ∀ b ∈ fp, FpOk X pins H b) (ho : ∀ b ∈ fp, ∃ o, s.heap.get? b = some o ∧ ∀ v, o.data ≠ .cell v) : Inv X (pins ++ pinsAt fp s.heap) σ H s :=
  I.pins_of fun p hp => (List.mem_append.mp hp).elim (fun z => I.pin p (List.mem_append_right _ z)) fun z => by
    obtain ⟨hb, e⟩ := of_pinsAt z
    obtain ⟨f0, f1, f2, _⟩ := hf p.1 hb
    obtain ⟨o, e', d⟩ := ho p.1 hb
    rw [e] at e'; cases e'
    exact ⟨e, f0, f1, f2, d⟩
theorem Inv.unpinned {pins pl : List (Addr × Obj)} {σ : St} {H : Hp} {s : Shared} (I : Inv X (pins ++ pl) σ H s) : Inv X pins σ H s := I.pins_of fun p hp => I.pin p (List.mem_append_right _ (List.mem_append_left _ hp))
theorem ps_for {iter : Expr} {body : List Stmt} {wi : TI} {g : TG} {tb : TS} {pos : Pos} (hp : PassesOwn (model X.prog X.w) X.A X.env X.xe) (hc : X.calm = true) (hi : PI X tg iter wi) (hg : PG X tg g) (hb : PSs X body tb)
    (hs : ∀ x, foldedSetIterable iter X.env x = pure x := by intro _; rfl) : PS X (.For tg iter body [] pos) (tFor wi g tb) := by
  intro pins s σ H D I h
  refine wpAny_For (thn (hi pins s σ H _ I h) fun v s1 h1 => thn h1 fun itv s2 h2 => ?_) hs
  obtain ⟨it, fp, tn, J, H2, e, I2, T, st2, f2, W, ⟨m0, w0⟩, turn⟩ := h2
  subst e
  -- what stays true of the iterator's objects through the loop
  have stat : ∀ {H' : Hp}, (∀ b ∈ fp, H' b = none) → ∀ b ∈ fp, FpOk X pins H' b := fun hn b hb => ⟨hn b hb, (f2 b hb).2⟩
  refine codeAny_forLoop_any (fun n s' => ∃ i σ' H', Inv X pins σ' H' s' ∧ tn i s'.heap ∧ (∀ b ∈ fp, H' b = none) ∧ W i n σ' H') ?_ m0 ⟨0, σ, H2, I2, st2, fun b hb => (f2 b hb).1, w0⟩
  rintro n s3 ⟨i, σ3, H3, I3, st3, fr3, w3⟩
  rcases turn i n σ3 H3 w3 with ⟨stop, qn⟩ | ⟨go, N, hN, step⟩
  · refine wpAny_passesOwn hp (thn (T.done X rfl rfl rfl hc i pins s3 σ3 H3 X.xe I3 (stat fr3) st3 stop) fun r s4 ⟨hr, I4⟩ => ?_)
    subst hr
    exact wpAny_execs_nil ⟨σ3, H3, I4, qn⟩
  · refine wpAny_passesOwn hp (thn (T.item X rfl rfl rfl hc i pins s3 σ3 H3 X.xe I3 (stat fr3) st3 go) fun r s4 ⟨u, hr, h4⟩ => ?_)
    subst hr
    refine wpAny_passesOwn hp (thn h4 fun _ s5 ⟨x, H5, I5, r5, y5, st5, fr5⟩ => ?_)
    have I5' := I5.pinned (stat fr5) (T.obj _ _ st5)
    refine wpAny_passesOwn hp (thn (hg _ s5 σ3 H5 x u _ I5' r5 (step x H5 y5)) fun _ s6 ⟨σ6, H6, I6, q6⟩ => ?_)
    refine wpAny_passesOwn hp (thn (hb _ s6 σ6 H6 _ I6 q6) fun f s7 q7 => ?_)
    have again : ∀ {σ7 : St} {H7 : Hp}, Inv X (pins ++ pinsAt fp s5.heap) σ7 H7 s7 → N σ7 H7 → ∃ m, m < n ∧ ∃ i σ' H', Inv X pins σ' H' s7 ∧ tn i s7.heap ∧ (∀ b ∈ fp, H' b = none) ∧ W i m σ' H' := fun {σ7 H7} I7 n7 => by
      obtain ⟨m', hm, w7⟩ := hN σ7 H7 n7
      refine ⟨m', hm, i + 1, σ7, H7, I7.unpinned, T.keep _ _ _ st5 fun b hb o e => (I7.pin (b, o) (List.mem_append_right _ (List.mem_append_right _ (mem_pinsAt hb e)))).1, fun b hb => ?_, w7⟩
      obtain ⟨o, e, d⟩ := T.obj _ _ st5 b hb
      exact (I7.pin (b, o) (List.mem_append_right _ (List.mem_append_right _ (mem_pinsAt hb e)))).2.1
    cases f with
    | next => obtain ⟨σ7, H7, I7, n7⟩ := q7; exact again I7 n7
    | cont => obtain ⟨σ7, H7, I7, n7⟩ := q7; exact again I7 n7
    | brk => obtain ⟨σ7, H7, I7, q7⟩ := q7; exact ⟨σ7, H7, I7.unpinned, q7⟩
    | ret v => obtain ⟨x7, σ7, H7, I7, r7, q7⟩ := q7; exact ⟨x7, σ7, H7, I7.unpinned, r7, q7⟩
end

theorem for_range {lo : Int} {n : Nat} {g : TG} {tb : TS} {D : Ends} {σ : St} {H : Hp} (Pv : Nat → St → Hp → Prop) (h0 : Pv 0 σ H)
    (hs : ∀ i σ H, i < n → Pv i σ H → g (.int (lo + i)) σ H fun σ2 H2 => tb { D with nx := Pv (i + 1), ct := Pv (i + 1), bk := D.nx } σ2 H2) (hd : ∀ σ H, Pv n σ H → D.nx σ H) :
    ∃ W : Nat → Nat → St → Hp → Prop, (∃ m, W 0 m σ H) ∧ ∀ i m σ H, W i m σ H →
      ((Itr lo n).stop i H ∧ D.nx σ H) ∨ ((Itr lo n).go i H ∧ ∃ N : St → Hp → Prop, (∀ σ' H', N σ' H' → ∃ m', m' < m ∧ W (i + 1) m' σ' H') ∧ ∀ x H', (Itr lo n).yld i H x H' → g x σ H' fun σ2 H2 => tb { D with nx := N, ct := N, bk := D.nx } σ2 H2) := by
  refine ⟨fun i m σ H => m = n - i ∧ i ≤ n ∧ Pv i σ H, ⟨n, by simp, Nat.zero_le _, h0⟩, ?_⟩
  rintro i m σ H ⟨rfl, hi, p⟩
  by_cases hlt : i < n
  · refine .inr ⟨hlt, Pv (i + 1), fun σ' H' p' => ⟨n - (i + 1), by omega, rfl, hlt, p'⟩, fun x H' y => ?_⟩
    obtain ⟨e, y⟩ := y
    subst e y
    exact hs i σ _ hlt p
  · have e : i = n := by omega
    subst e
    exact .inl ⟨Nat.le_refl _, hd σ H p⟩
end L2

namespace L2
open PySem PySem.Spec PyProof.Rows

abbrev R2 := V → V → Hp → VK → Prop
/-- a two-place operation on values: f is binaryOp op, inplaceOp op or compareOp op -/
def OpR (X : Cx) (f : Value → Value → Sem Value) (r : R2) : Prop :=
  ∀ (pins : List (Addr × Obj)) (s : Shared) (σ : St) (H : Hp) (x y : V) (v u : Value) (Q : VK), Inv X pins σ H s → RelV x v → RelV y u → r x y H Q →
    wpAny (model X.prog X.w) X.A (f v u) (EP X pins σ Q) X.xe s
/-- a one-place operation -/
def UnR (X : Cx) (f : Value → Sem Value) (r : V → Hp → VK → Prop) : Prop :=
  ∀ (pins : List (Addr × Obj)) (s : Shared) (σ : St) (H : Hp) (x : V) (v : Value) (Q : VK), Inv X pins σ H s → RelV x v → r x H Q →
    wpAny (model X.prog X.w) X.A (f v) (EP X pins σ Q) X.xe s
/-- a call of a value that is known (a builtin, a type) with values -/
def CallR (X : Cx) (f : Value) (r : List V → Hp → VK → Prop) : Prop :=
  ∀ (pins : List (Addr × Obj)) (s : Shared) (σ : St) (H : Hp) (xs : List V) (us : List Value) (Q : VK), Inv X pins σ H s → Vals xs us → r xs H Q →
    wpAny (model X.prog X.w) X.A (call f us) (EP X pins σ Q) X.xe s

def tOp (r : R2) (ta tb : TE) : TE := fun σ H Q => ta σ H fun x H1 => tb σ H1 fun y H2 => r x y H2 Q
def tUn (r : V → Hp → VK → Prop) (ta : TE) : TE := fun σ H Q => ta σ H fun x H1 => r x H1 Q
/-- ints in, under C, and a value out -/
def rI (C : Int → Int → Prop) (g : Int → Int → V) : R2 := fun x y H Q => ∃ i j, x = .int i ∧ y = .int j ∧ C i j ∧ Q (g i j) H
def rI0 (g : Int → Int → V) : R2 := fun x y H Q => ∃ i j, x = .int i ∧ y = .int j ∧ Q (g i j) H
def rU (g : Int → V) : V → Hp → VK → Prop := fun x H Q => ∃ i, x = .int i ∧ Q (g i) H

section
variable {X : Cx} {a b c : Expr} {ta tb tc : TE} {pos : Pos}

theorem binT (ha : PE X a ta) (hb : PE X b tb) {pins : List (Addr × Obj)} {s : Shared} {σ : St} {H : Hp} {R : V → V → Hp → Prop} (I : Inv X pins σ H s)
    (h : ta σ H fun x H1 => tb σ H1 fun y H2 => R x y H2) {Q : Value → Shared → Prop} {f : Value → Value → Sem Value}
    (hf : ∀ v u s2 x y H2, Inv X pins σ H2 s2 → RelV x v → RelV y u → R x y H2 → wpAny (model X.prog X.w) X.A (f v u) Q X.xe s2) :
    wpAny (model X.prog X.w) X.A (eval a X.env) (fun v s₁ => wpAny (model X.prog X.w) X.A (eval b X.env) (fun u s₂ => wpAny (model X.prog X.w) X.A (f v u) Q X.xe s₂) X.xe s₁) X.xe s := by
  refine thn (ha pins s σ H _ I h) fun v s1 ⟨x, H1, I1, r1, q1⟩ => ?_
  refine thn (hb pins s1 σ H1 _ I1 q1) fun u s2 ⟨y, H2, I2, r2, q2⟩ => ?_
  exact hf v u s2 x y H2 I2 r1 r2 q2

theorem pe_op {op : Operator} {r : R2} (ho : OpR X (binaryOp op) r) (ha : PE X a ta) (hb : PE X b tb) : PE X (.BinOp a op b pos) (tOp r ta tb) := by
  intro pins s σ H Q I h
  exact wpAny_BinOp (binT ha hb I h fun v u s2 x y H2 I2 rx ry q => ho pins s2 σ H2 x y v u Q I2 rx ry q)
theorem pe_un {op : UnaryOp} {r : V → Hp → VK → Prop} (ho : UnR X (unaryOp op) r) (ha : PE X a ta) : PE X (.UnaryOp op a pos) (tUn r ta) := by
  intro pins s σ H Q I h
  exact UnaryOp_ (thn (ha pins s σ H _ I h) fun v s1 ⟨x, H1, I1, r1, q1⟩ => ho pins s1 σ H1 x v Q I1 r1 q1)

theorem opI {f : Value → Value → Sem Value} {C : Int → Int → Prop} {g : Int → Int → Int}
    (rule : ∀ (i j : Int) (t u : Tok) (s : Shared) (Q : Value → Shared → Prop) (E : Value → Shared → Prop), C i j → Q (.int (g i j) s.toks) { s with toks := s.toks + 1 } → wpAny (model X.prog X.w) X.A (f (.int i t) (.int j u)) Q E s) :
    OpR X f (rI C fun i j => .int (g i j)) := by
  intro pins s σ H x y v u Q I rx ry h
  obtain ⟨i, j, rfl, rfl, hc, q⟩ := h
  obtain ⟨t, rfl⟩ := rx
  obtain ⟨t', rfl⟩ := ry
  exact rule i j t t' s _ _ hc ⟨.int (g i j), H, I.tok _, ⟨_, rfl⟩, q⟩
theorem opI0 {f : Value → Value → Sem Value} {g : Int → Int → Int}
    (rule : ∀ (i j : Int) (t u : Tok) (s : Shared) (Q : Value → Shared → Prop) (E : Value → Shared → Prop), Q (.int (g i j) s.toks) { s with toks := s.toks + 1 } → wpAny (model X.prog X.w) X.A (f (.int i t) (.int j u)) Q E s) :
    OpR X f (rI0 fun i j => .int (g i j)) := by
  intro pins s σ H x y v u Q I rx ry h
  obtain ⟨i, j, rfl, rfl, q⟩ := h
  obtain ⟨t, rfl⟩ := rx
  obtain ⟨t', rfl⟩ := ry
  exact rule i j t t' s _ _ ⟨.int (g i j), H, I.tok _, ⟨_, rfl⟩, q⟩
theorem opB0 {f : Value → Value → Sem Value} {g : Int → Int → Bool}
    (rule : ∀ (i j : Int) (t u : Tok) (s : Shared) (Q : Value → Shared → Prop) (E : Value → Shared → Prop), Q (.bool (g i j)) s → wpAny (model X.prog X.w) X.A (f (.int i t) (.int j u)) Q E s) :
    OpR X f (rI0 fun i j => .bl (g i j)) := by
  intro pins s σ H x y v u Q I rx ry h
  obtain ⟨i, j, rfl, rfl, q⟩ := h
  obtain ⟨t, rfl⟩ := rx
  obtain ⟨t', rfl⟩ := ry
  exact rule i j t t' s _ _ ⟨.bl (g i j), H, I, rfl, q⟩

def CDiv (i j : Int) : Prop := 0 < j ∧ j < 1073741824
def CPow (i j : Int) : Prop := 0 ≤ j ∧ j ≤ 1000000 ∧ i.natAbs < 2 ^ 64
def CMul (i j : Int) : Prop := (-(2 ^ 64) < i ∧ i < 2 ^ 64) ∨ (-(2 ^ 64) < j ∧ j < 2 ^ 64)
theorem CMul.ok {i j : Int} (h : CMul i j) : IntMulOk i j := by
  rcases h with ⟨h1, h2⟩ | ⟨h1, h2⟩
  · exact .of_left (intBits_le_64 h1 h2)
  · exact .of_right (intBits_le_64 h1 h2)

theorem op_add : OpR X (binaryOp .Add) (rI0 fun i j => .int (i + j)) := opI0 fun _ _ _ _ _ _ _ q => add_int q
theorem op_sub : OpR X (binaryOp .Sub) (rI0 fun i j => .int (i - j)) := opI0 fun _ _ _ _ _ _ _ q => sub_int q
theorem op_mul : OpR X (binaryOp .Mult) (rI CMul fun i j => .int (i * j)) := opI fun _ _ _ _ _ _ _ hc q => mul_int q hc.ok
/-- // by a positive divisor -/
theorem op_fdiv : OpR X (binaryOp .FloorDiv) (rI CDiv fun i j => .int (i / j)) := opI fun i j _ _ _ _ _ hc q => by
  have h1 : (0 : Int) < j := hc.1
  have h2 : j < 1073741824 := hc.2
  exact floordiv_int (by omega) (by rw [Int.fdiv_eq_ediv_of_nonneg i (by omega)]; exact q) (.inl (PyProof.noPylong_small (by omega)))
/-- % by a positive divisor of any size -/
theorem op_mod : OpR X (binaryOp .Mod) (rI (fun _ j => 0 < j) fun i j => .int (i % j)) := opI fun i j _ _ _ _ _ hc q => by
  have h1 : (0 : Int) < j := hc
  exact mod_int' (by omega) (by rw [Int.fmod_eq_emod_of_nonneg i (by omega)]; exact q)
theorem op_pow : OpR X (binaryOp .Pow) (rI CPow fun i j => .int (i ^ j.toNat)) := opI fun _ _ _ _ _ _ _ hc q => pow_int_small hc.1 hc.2.1 hc.2.2 q


theorem unI {f : Value → Sem Value} {g : Int → Int}
    (rule : ∀ (i : Int) (t : Tok) (s : Shared) (Q : Value → Shared → Prop) (E : Value → Shared → Prop), Q (.int (g i) s.toks) { s with toks := s.toks + 1 } → wpAny (model X.prog X.w) X.A (f (.int i t)) Q E s) :
    UnR X f (rU fun i => .int (g i)) := by
  intro pins s σ H x v Q I rx h
  obtain ⟨i, rfl, q⟩ := h
  obtain ⟨t, rfl⟩ := rx
  exact rule i t s _ _ ⟨.int (g i), H, I.tok _, ⟨_, rfl⟩, q⟩
theorem un_neg : UnR X (unaryOp .USub) (rU fun i => .int (-i)) := unI fun _ _ _ _ _ q => neg_int q

end

/-- the scalars that == tells apart as data does -/
def scal : V → V → Bool
  | .non, .non => true | .non, .int _ => true | .int _, .non => true | .non, .bl _ => true | .bl _, .non => true | .non, .str _ => true | .str _, .non => true
  | .int _, .int _ => true | .bl _, .bl _ => true | .str _, .str _ => true | .byt _, .byt _ => true
  | .int _, .str _ => true | .str _, .int _ => true | .bl _, .str _ => true | .str _, .bl _ => true
  | _, _ => false
def rEq : R2 := fun x y H Q => scal x y = true ∧ Q (.bl (decide (x = y))) H
def rNe : R2 := fun x y H Q => scal x y = true ∧ Q (.bl (!decide (x = y))) H

theorem dec_int {i j : Int} : decide (V.int i = V.int j) = (i == j) := by
  rw [Bool.eq_iff_iff]
  simp
theorem dec_bl {i j : Bool} : decide (V.bl i = V.bl j) = (i == j) := by
  rw [Bool.eq_iff_iff]
  simp
theorem dec_str {i j : Str} : decide (V.str i = V.str j) = (i == j) := by
  rw [Bool.eq_iff_iff]
  simp
theorem dec_byt {i j : Array UInt8} : decide (V.byt i = V.byt j) = (i.toList == j.toList) := by
  rw [Bool.eq_iff_iff]
  cases i
  cases j
  simp

section
variable {X : Cx} {a b c : Expr} {ta tb tc : TE} {pos : Pos}
theorem fin_bl {pins : List (Addr × Obj)} {σ : St} {H : Hp} {s : Shared} {Q : VK} {k k' : Bool} (I : Inv X pins σ H s) (q : Q (.bl k) H) (e : k = k') : EP X pins σ Q (.bool k') s := by
  subst e
  exact ⟨.bl k, H, I, rfl, q⟩
theorem op_eq : OpR X (compareOp .Eq) rEq := by
  intro pins s σ H x y v u Q I rx ry h
  obtain ⟨hs, q⟩ := h
  cases x with
  | non =>
    cases rx
    cases y with
    | non => cases ry; exact PySem.EqNone.eq_none_none (fin_bl I q (by simp))
    | bl j => cases ry; exact PySem.EqNone.eq_none_bool (fin_bl I q (by simp))
    | int j => obtain ⟨t', rfl⟩ := ry; exact PySem.EqNone.eq_none_int (fin_bl I q (by simp))
    | str j => obtain ⟨t', rfl⟩ := ry; exact PySem.EqNone.eq_none_str (fin_bl I q (by simp))
    | _ => exact absurd (show false = true from hs) Bool.false_ne_true
  | bl i =>
    cases rx
    cases y with
    | non => cases ry; exact PySem.EqNone.eq_bool_none (fin_bl I q (by simp))
    | bl j => cases ry; exact eq_bool (fin_bl I q dec_bl)
    | str j => obtain ⟨t', rfl⟩ := ry; exact PySem.EqMixed.eq_bool_str (fin_bl I q (by simp))
    | _ => exact absurd (show false = true from hs) Bool.false_ne_true
  | int i =>
    obtain ⟨t, rfl⟩ := rx
    cases y with
    | non => cases ry; exact PySem.EqNone.eq_int_none (fin_bl I q (by simp))
    | int j => obtain ⟨t', rfl⟩ := ry; exact eq_int (fin_bl I q dec_int)
    | str j => obtain ⟨t', rfl⟩ := ry; exact PySem.EqMixed.eq_int_str (fin_bl I q (by simp))
    | _ => exact absurd (show false = true from hs) Bool.false_ne_true
  | str i =>
    obtain ⟨t, rfl⟩ := rx
    cases y with
    | non => cases ry; exact PySem.EqNone.eq_str_none (fin_bl I q (by simp))
    | bl j => cases ry; exact PySem.EqMixed.eq_str_bool (fin_bl I q (by simp))
    | int j => obtain ⟨t', rfl⟩ := ry; exact PySem.EqMixed.eq_str_int (fin_bl I q (by simp))
    | str j => obtain ⟨t', rfl⟩ := ry; exact eq_str (fin_bl I q dec_str)
    | _ => exact absurd (show false = true from hs) Bool.false_ne_true
  | byt i =>
    obtain ⟨t, rfl⟩ := rx
    cases y with
    | byt j => obtain ⟨t', rfl⟩ := ry; exact PySem.W.eq_bytes (fin_bl I q dec_byt)
    | _ => exact absurd (show false = true from hs) Bool.false_ne_true
  | _ => cases y <;> exact absurd (show false = true from hs) Bool.false_ne_true
theorem op_ne : OpR X (compareOp .NotEq) rNe := by
  intro pins s σ H x y v u Q I rx ry h
  obtain ⟨hs, q⟩ := h
  cases x with
  | non =>
    cases rx
    cases y with
    | non => cases ry; exact PySem.EqNone.ne_none_none (fin_bl I q (by simp))
    | bl j => cases ry; exact PySem.EqNone.ne_none_bool (fin_bl I q (by simp))
    | int j => obtain ⟨t', rfl⟩ := ry; exact PySem.EqNone.ne_none_int (fin_bl I q (by simp))
    | str j => obtain ⟨t', rfl⟩ := ry; exact PySem.EqNone.ne_none_str (fin_bl I q (by simp))
    | _ => exact absurd (show false = true from hs) Bool.false_ne_true
  | bl i =>
    cases rx
    cases y with
    | non => cases ry; exact PySem.EqNone.ne_bool_none (fin_bl I q (by simp))
    | bl j => cases ry; exact ne_bool (fin_bl I q (congrArg not dec_bl))
    | str j => obtain ⟨t', rfl⟩ := ry; exact PySem.EqMixed.ne_bool_str (fin_bl I q (by simp))
    | _ => exact absurd (show false = true from hs) Bool.false_ne_true
  | int i =>
    obtain ⟨t, rfl⟩ := rx
    cases y with
    | non => cases ry; exact PySem.EqNone.ne_int_none (fin_bl I q (by simp))
    | int j => obtain ⟨t', rfl⟩ := ry; exact ne_int (fin_bl I q (congrArg not dec_int))
    | str j => obtain ⟨t', rfl⟩ := ry; exact PySem.EqMixed.ne_int_str (fin_bl I q (by simp))
    | _ => exact absurd (show false = true from hs) Bool.false_ne_true
  | str i =>
    obtain ⟨t, rfl⟩ := rx
    cases y with
    | non => cases ry; exact PySem.EqNone.ne_str_none (fin_bl I q (by simp))
    | bl j => cases ry; exact PySem.EqMixed.ne_str_bool (fin_bl I q (by simp))
    | int j => obtain ⟨t', rfl⟩ := ry; exact PySem.EqMixed.ne_str_int (fin_bl I q (by simp))
    | str j => obtain ⟨t', rfl⟩ := ry; exact ne_str (fin_bl I q (congrArg not dec_str))
    | _ => exact absurd (show false = true from hs) Bool.false_ne_true
  | byt i =>
    obtain ⟨t, rfl⟩ := rx
    cases y with
    | byt j => obtain ⟨t', rfl⟩ := ry; exact PySem.W.ne_bytes (fin_bl I q (congrArg not dec_byt))
    | _ => exact absurd (show false = true from hs) Bool.false_ne_true
  | _ => cases y <;> exact absurd (show false = true from hs) Bool.false_ne_true

theorem op_lt : OpR X (compareOp .Lt) (rI0 fun i j => .bl (decide (i < j))) := opB0 fun _ _ _ _ _ _ _ q => lt_int q
theorem op_gt : OpR X (compareOp .Gt) (rI0 fun i j => .bl (decide (j < i))) := opB0 fun _ _ _ _ _ _ _ q => gt_int q
theorem op_ge : OpR X (compareOp .GtE) (rI0 fun i j => .bl (decide (j ≤ i))) := opB0 fun _ _ _ _ _ _ _ q => ge_int q




theorem nomark (b : Expr) {op : CmpOp} (h : op ≠ .In := by decide) (h2 : op ≠ .NotIn := by decide) : behindInMarks op b = false := by
  have e1 : (op == CmpOp.In) = false := by cases op <;> first | rfl | exact absurd rfl h
  have e2 : (op == CmpOp.NotIn) = false := by cases op <;> first | rfl | exact absurd rfl h2
  cases b <;> simp [behindInMarks, e1, e2]
/-- a comparison as a value; hm: nomark b, or (for in, not in) by with_unfolding_all rfl -/
theorem pe_cmpR {op : CmpOp} {r : R2} (ho : OpR X (compareOp op) r) (ha : PE X a ta) (hb : PE X b tb) (hm : behindInMarks op b = false) : PE X (.Compare a [op] [b] pos) (tOp r ta tb) := by
  intro pins s σ H Q I h
  exact wpAny_Compare1 (binT ha hb I h fun v u s2 x y H2 I2 rx ry q => ho pins s2 σ H2 x y v u Q I2 rx ry q) hm
/-- a reading of a value as a test -/
def tTest (t : TE) : TT := fun σ H Q => t σ H fun x H' => ∃ k, x = .bl k ∧ Q k H'
theorem pt_cmpR {op : CmpOp} {r : R2} (ho : OpR X (compareOp op) r) (ha : PE X a ta) (hb : PE X b tb) (hm : behindInMarks op b = false) : PT X (.Compare a [op] [b] pos) (tTest (tOp r ta tb)) := by
  intro pins s σ H Q I h
  refine wpAny_isTrue_Compare1 (thn (ha pins s σ H _ I h) fun v s1 ⟨x, H1, I1, r1, q1⟩ => thn (hb pins s1 σ H1 _ I1 q1) fun u s2 ⟨y, H2, I2, r2, q2⟩ =>
    thn (ho pins s2 σ H2 x y v u _ I2 r1 r2 q2) fun c s3 ⟨z, H3, I3, r3, k, e, q3⟩ => ?_) hm
  subst e
  cases r3
  exact wpAny_truthy_bool ⟨H3, I3, q3⟩

theorem line63 : (sizeLine : Nat) < 2 ^ 63 := by rw [sizeLine_eq]; decide



theorem vals1 {x : V} {us : List Value} (r : Vals [x] us) : ∃ u, us = [u] ∧ RelV x u := by
  cases r with
  | cons r1 r2 => cases r2; exact ⟨_, rfl, r1⟩
theorem vals2 {x y : V} {us : List Value} (r : Vals [x, y] us) : ∃ u w', us = [u, w'] ∧ RelV x u ∧ RelV y w' := by
  cases r with
  | cons r1 r2 =>
    cases r2 with
    | cons r3 r4 => cases r4; exact ⟨_, _, rfl, r1, r3⟩
end
end L2

namespace L2
open PySem PySem.Spec PyProof.Rows

structure ObjM (h : Heap) (x dx C : Addr) (mA : Str → Option Value) : Prop where
  obj : h.get? x = some (PySem.W.instObj C dx)
  ns : h.Ns1 dx mA
  ne : dx ≠ x

theorem lookIn_ns {h : Heap} {dx : Addr} {mA : Str → Option Value} (n : h.Ns1 dx mA) : ∃ od, h.get? dx = some od ∧ ∀ name, PySem.W.lookIn name od = some (mA name) := by
  obtain ⟨o, es, ep, ho, hd, hk, _, hm⟩ := n
  refine ⟨o, ho, fun name => ?_⟩
  have e := hm name
  unfold nsFind findBy at e
  rw [← Array.find?_toList] at e
  unfold PySem.W.lookIn
  rw [hd]
  dsimp only
  split
  · rename_i y q
    rw [q] at e
    exact congrArg some e
  · rename_i q
    rw [q] at e
    have a : es.toList.any (·.refKey) = false := by
      rw [List.any_eq_false]
      intro y hy
      obtain ⟨z, t, hkey⟩ := hk y (Array.mem_toList_iff.mp hy)
      simp [DictEntry.refKey, hkey]
    have a' : ¬ es.toList.any (·.refKey) = true := by rw [a]; exact Bool.false_ne_true
    rw [if_neg a']
    exact congrArg some e

theorem ObjM.look {h : Heap} {x dx C : Addr} {mA : Str → Option Value} (I : ObjM h x dx C mA) : ∃ od, PySem.W.InstAt h x (PySem.W.instObj C dx) C (some od) ∧ ∀ name, PySem.W.lookIn name od = some (mA name) :=
  let ⟨od, ho, hl⟩ := lookIn_ns I.ns
  ⟨od, ⟨I.obj, rfl, rfl, ho⟩, hl⟩

section
variable {prog : Program} {w : World} {A : Around} {E : Value → Shared → Prop} {s : Shared} {K : PySem.W.Frag} {x dx C f : Addr} {mA : Str → Option Value} {name : Str} {v : Value}





end



section
variable {P : Program} {w : World} {H H' : Hp} {h h' : Heap} {a C dx : Addr} {fs fs' : List (Str × V)}
theorem ins_get (hok : HOk P w H h) (e : H a = some (.ins C dx fs)) : ∃ mA, ObjM h a dx C mA ∧ (∀ f, RelO (fs.lookup f) (mA f)) ∧ PySem.Within mA (fs.map (·.1)) ∧ fs.length ≤ 1000 ∧ H dx = some (.own a) := by
  obtain ⟨d, z, ne, ob, mA, n, r, q⟩ := (show ObjOk P w H h a (.ins C dx fs) from hok a _ e)
  exact ⟨mA, ⟨ob, n, ne⟩, r, q, z, d⟩
end

structure Cls (K : PySem.W.Frag) (C : Addr) : Prop where
  pg : PySem.W.plainGet K C Str.empty = true
  hd : PySem.W.hasDictIn K C = true
  po : PySem.W.plainOver K C = true
  sa : PySem.W.findIn K (.ref C) "__setattr__" = some (some (.builtin "object.__setattr__"))
theorem Cls.get {K : PySem.W.Frag} {C : Addr} (c : Cls K C) (f : Str) : PySem.W.plainGet K C f = true := c.pg

section
variable {X : Cx} {pins : List (Addr × Obj)} {σ : St} {H : Hp} {s : Shared} {a C dx : Addr} {fs : List (Str × V)} {f : Str} {v : V} {A : Around} {E : Value → Shared → Prop}






end


section
variable {X : Cx} {o e value : Expr} {f : Str} {pos pos' tpos : Pos} {ta tv : TE}

end

section
variable {X : Cx} {pins : List (Addr × Obj)} {σ : St} {H : Hp} {s : Shared} {A : Around} {E : Value → Shared → Prop} {Q : Value → Shared → Prop} {c : Value} {b : Bool}
/-- the type of a value, as the fragment's deciders take it; for an instance its class -/
inductive TyOf (K : PySem.W.Frag) (H : Hp) : V → Value → Prop where
  | non : TyOf K H .non (.type "NoneType")
  | bl (x : Bool) : TyOf K H (.bl x) (.type "bool")
  | int (i : Int) : TyOf K H (.int i) (.type "int")
  | str (x : Str) : TyOf K H (.str x) (.type "str")
  | flt (x : UInt64) : TyOf K H (.flt x) (.type "float")
  | lst {a : Addr} {xs : List V} (e : H a = some (.lst xs)) : TyOf K H (.ref a) (.type "list")
  | frz {a : Addr} {o : Obj} {xs : List V} (e : H a = some (.frz o (.lst xs))) : TyOf K H (.ref a) (.type "list")
  | tup {a : Addr} {xs : List V} (e : H a = some (.tup xs)) : TyOf K H (.ref a) (.type "tuple")
  | dK {a : Addr} {kvs : List (Key × V)} (e : H a = some (.dK kvs)) : TyOf K H (.ref a) (.type "dict")
  | dT {a : Addr} {kvs : List (List Key × V)} (e : H a = some (.dT kvs)) : TyOf K H (.ref a) (.type "dict")
  | ins {a C dx : Addr} {fs : List (Str × V)} (e : H a = some (.ins C dx fs)) (cl : Cls K C) (ha : PySem.W.findIn K (.ref C) "__class__" = some (some (.builtin "object.__class__")))
      (hn : PySem.W.specialIn K (.builtin "object.__class__") "__get__" = some (some (.builtin "getset_descriptor.__get__"))) (htk : PySem.W.takesIn K (.builtin "object.__class__") = some true)
      (hm : PySem.W.mroIn K C (.type "object") = some true) : TyOf K H (.ref a) (.ref C)
/-- isinstance(x, c) for one class c, a built-in or an own one: kitOne's answer -/
theorem isinst_ok {x : V} {u t : Value} (I : Inv X pins σ H s) (rx : RelV x u) (ty : TyOf X.K H x t) (e : PySem.W.kitOne X.K t c = some b) (h : ∀ tk, Q (.bool b) { s with toks := tk }) :
    wpAny (model X.prog X.w) A (call (.builtin "isinstance") [u, c]) Q E s := by
  cases ty with
  | non => cases (show u = Value.none from rx); exact PySem.W.kia_one PySem.W.kitx_none I.kIn True.intro e (fun z => nomatch z) h
  | bl y => cases (show u = Value.bool y from rx); exact PySem.W.kia_one PySem.W.kitx_bool I.kIn True.intro e (fun z => nomatch z) h
  | int i => obtain ⟨t, q⟩ := (show ∃ t, u = Value.int i t from rx); cases q; exact PySem.W.kia_one PySem.W.kitx_int I.kIn True.intro e (fun z => nomatch z) h
  | str y => obtain ⟨t, q⟩ := (show ∃ t, u = Value.str y t from rx); cases q; exact PySem.W.kia_one PySem.W.kitx_str I.kIn True.intro e (fun z => nomatch z) h
  | flt y => obtain ⟨t, q⟩ := (show ∃ t, u = Value.float y t from rx); cases q; exact PySem.W.kia_one PySem.W.kitx_float I.kIn True.intro e (fun z => nomatch z) h
  | @lst a xs ea =>
    cases (show u = Value.ref a from rx)
    obtain ⟨_, _, n, _, h1⟩ := (show ObjOk X.prog X.w H s.heap a (.lst xs) from I.hok a _ ea)
    exact PySem.W.kia_one PySem.W.kitx_list I.kIn ⟨_, h1, rfl⟩ e (fun z => nomatch z) h
  | @frz a ob xs ea =>
    cases (show u = Value.ref a from rx)
    obtain ⟨_, _, _, n, _, h1⟩ := (show ObjOk X.prog X.w H s.heap a (.frz ob (.lst xs)) from I.hok a _ ea)
    exact PySem.W.kia_one PySem.W.kitx_list I.kIn ⟨_, h1, rfl⟩ e (fun z => nomatch z) h
  | @tup a xs ea =>
    cases (show u = Value.ref a from rx)
    obtain ⟨_, _, _, p⟩ := (show ObjOk X.prog X.w H s.heap a (.tup xs) from I.hok a _ ea)
    obtain ⟨o, h1, h2, _⟩ := p
    exact PySem.W.kia_one PySem.W.kitx_tuple I.kIn ⟨o, h1, h2⟩ e (fun z => nomatch z) h
  | @dK a kvs ea =>
    cases (show u = Value.ref a from rx)
    obtain ⟨_, _, vs, _, p⟩ := (show ObjOk X.prog X.w H s.heap a (.dK kvs) from I.hok a _ ea)
    obtain ⟨o, es, ep, h1, h2, _⟩ := p
    exact PySem.W.kia_one PySem.W.kitx_dict I.kIn ⟨o, h1, h2.1⟩ e (fun z => nomatch z) h
  | @dT a kvs ea =>
    cases (show u = Value.ref a from rx)
    obtain ⟨_, _, xs, _, o, es, ep, h1, h2, _⟩ := (show ObjOk X.prog X.w H s.heap a (.dT kvs) from I.hok a _ ea)
    exact PySem.W.kia_one PySem.W.kitx_dict I.kIn ⟨o, h1, h2.1⟩ e (fun z => nomatch z) h
  | @ins a C dx fs ea cl ha hn htk hm =>
    cases (show u = Value.ref a from rx)
    obtain ⟨mA, O, _⟩ := ins_get I.hok ea
    obtain ⟨od, J, _⟩ := O.look
    exact PySem.W.kia_one (PySem.W.kitx_own (cl.get _) cl.hd ha hn htk hm) I.kIn J e (fun z => nomatch z) h
end
end L2

namespace L2
open PySem PySem.Spec PyProof.Rows

structure Room (k : Nat) (A : Around) : Prop where
  hd : A.handled = none
  dp : A.depth + 3 * k + 5 < recursionLimit
  un : A.units + 16 * k + 200 < cLine
theorem Room.mono {j k : Nat} {A : Around} (r : Room k A) (h : j ≤ k) : Room j A := ⟨r.hd, by have := r.dp; omega, by have := r.un; omega⟩
theorem Room.deeper {k : Nat} {A : Around} (r : Room (k + 1) A) (env : Env) : Room k (A.deeper env) :=
  ⟨r.hd, by have := r.dp; show A.depth + 1 + 3 * k + 5 < _; omega, by have := r.un; show A.units + 3 + 16 * k + 200 < _; omega⟩
theorem Room.depth {k : Nat} {A : Around} (r : Room k A) : A.depth < recursionLimit := by have := r.dp; omega
theorem Room.units {k : Nat} {A : Around} (r : Room k A) : A.units + 64 < cLine := by have := r.un; omega

def tNil : TA := fun _ H Q => Q [] H
def tCons (ta : TE) (tr : TA) : TA := fun σ H Q => ta σ H fun x H1 => tr σ H1 fun xs H2 => Q (x :: xs) H2
section
variable {X : Cx} {e : Expr} {es : List Expr} {te : TE} {t : TA} {pos : Pos}
theorem pa_nil : PA X [] tNil := fun _ _ _ _ H Q I h => Calls.spliced_nil ⟨[], H, I, .nil, h⟩
theorem pa_cons (ha : PE X e te) (hr : PA X es t) (hs : starEach (e :: es) X.env = (false, eval e X.env) :: starEach es X.env := by rfl) : PA X (e :: es) (tCons te t) := by
  intro pos pins s σ H Q I h
  rw [hs]
  show wpAny _ _ (spliced ((false, eval e X.env) :: backTo pos (starEach es X.env))) _ _ s
  refine Calls.spliced_cons (thn (ha pins s σ H _ I h) fun u s1 ⟨x, H1, I1, r1, q1⟩ => ?_)
  exact thn (hr pos pins s1 σ H1 _ I1 q1) fun us s2 ⟨xs, H2, I2, r2, q2⟩ => ⟨x :: xs, H2, I2, .cons r1 r2, q2⟩

/-- a tuple, a list of written items -/
def tTup (t : TA) : TE := fun σ H Q => t σ H fun xs H1 => xs.length ≤ sizeLine ∧ ∀ p, H1 p = none → Q (.ref p) (upd H1 p (.tup xs))
def tLst (t : TA) : TE := fun σ H Q => t σ H fun xs H1 => xs.length ≤ sizeLine ∧ ∀ p, H1 p = none → Q (.ref p) (upd H1 p (.lst xs))
theorem pe_tup {x1} (h : PA X es t) : PE X (.Tuple es x1 pos) (tTup t) := by
  intro pins s σ H Q I hq
  refine wpAny_Tuple_spliced (thn (h pos pins s σ H _ I hq) fun us s1 ⟨xs, H1, I1, r, z, q⟩ => ⟨by rw [← r.length]; exact z, ?_⟩)
  have hf : H1 s1.heap.objs.size = none := I1.hok.fresh (Nat.le_refl _)
  refine ⟨.ref s1.heap.objs.size, upd H1 s1.heap.objs.size (.tup xs), I1.laid (t' := s1.toks) (fun b u e => Heap.get?_push_of_some _ e) (Nat.le_refl _) ?_, rfl, q _ hf⟩
  exact ⟨z, us, r, ⟨_, Heap.get?_push_size _ rfl, rfl, _, rfl⟩⟩
theorem pe_lst (h : PA X es t) : PE X (.List es pos) (tLst t) := by
  intro pins s σ H Q I hq
  refine wpAny_List_spliced (thn (h pos pins s σ H _ I hq) fun us s1 ⟨xs, H1, I1, r, z, q⟩ => ⟨by rw [← r.length]; exact z, ?_⟩)
  have hf : H1 s1.heap.objs.size = none := I1.hok.fresh (Nat.le_refl _)
  refine ⟨.ref s1.heap.objs.size, upd H1 s1.heap.objs.size (.lst xs), I1.laid (t' := s1.toks) (fun b u e => Heap.get?_push_of_some _ e) (Nat.le_refl _) ?_, rfl, q _ hf⟩
  exact ⟨z, us, 0, r, Heap.get?_push_size _ rfl⟩
end

/-- a def's promise: the bound arguments in the parameters' order, the heap, the wanted end, the wanted exception -/
abbrev Sp := List V → Hp → VK → XK → Prop
/-- how an exception lies behind a call (file 08 gives it): the callers' frames, abstract heap and state ahead of the call, the wish, the exception, the state -/
abbrev CXT := List Env → Hp → Shared → XK → Value → Shared → Prop

/-- the state at a call -/
structure Env0 (P : Program) (w : World) (K : PySem.W.Frag) (mg : Str → Option Value) (base : Heap) (A : Around) (outer : List Env) (s : Shared) (H : Hp) : Prop where
  frames : A.frames = some outer
  mod : Mod K mg base
  bs : ∀ b o, base.get? b = some o → s.heap.get? b = some o ∧ H b = none
  bsz : base.objs.size ≤ s.heap.objs.size
  funs : s.heap.FunFrames base outer
  frf : ∀ b ∈ frs outer, H b = none
  hok : HOk P w H s.heap
  bare : AllBare s.gens
/-- a call's end -/
def CE (outer : List Env) (P : Program) (w : World) (H : Hp) (s : Shared) (Q : VK) (u : Value) (s' : Shared) : Prop :=
  ∃ v H', s'.os = s.os ∧ AllBare s'.gens ∧ Un (frs outer) [] H H' s.heap s'.heap ∧ HOk P w H' s'.heap ∧ RelV v u ∧ Q v H'
def CR (CX : CXT) (outer : List Env) (P : Program) (w : World) (H : Hp) (s : Shared) (Q : VK) (E : XK) (r : Result) (s' : Shared) : Prop :=
  match r with
  | .ok (.ret u) => CE outer P w H s Q u s'
  | .ok _ => False
  | .error e => CX outer H s E e s'
structure FnOk (P : Program) (w : World) (K : PySem.W.Frag) (mg : Str → Option Value) (base : Heap) (CX : CXT) (k : Nat) (f : Addr) (fd : FuncData) (ps : List Str) (sp : Sp) : Prop where
  len : ∀ vs H Q E, sp vs H Q E → vs.length = ps.length
  run : ∀ (A : Around) (outer : List Env) (s : Shared) (H : Hp) (args : Args) (us : List Value) (vs : List V) (Q : VK) (E : XK), Room k A → Env0 P w K mg base A outer s H → BindsTo s fd args (ps.zip us) → Vals vs us → sp vs H Q E →
    codeAny (model P w) A (.call (.ref f) args) (CR CX outer P w H s Q E) s


section
variable {X : Cx} {pins : List (Addr × Obj)} {σ : St} {H : Hp} {s s' : Shared}
/-- from a body: what a callee wants -/
theorem Inv.env0 (I : Inv X pins σ H s) : Env0 X.prog X.w X.K X.mg X.base X.A X.stack s H :=
  ⟨I.ok.frames, I.ok.mod, I.bs, Nat.le_trans I.ok.bsz I.sz, I.stack, I.stkFree, I.hok, I.bare⟩
/-- behind a call -/
theorem Inv.after {Q : VK} {u : Value} (I : Inv X pins σ H s) (h : CE X.stack X.prog X.w H s Q u s') : EP X pins σ Q u s' := by
  obtain ⟨v, H', os, bare, un, hok, r, q⟩ := h
  obtain ⟨hh, g, d, t, os'⟩ := s'
  obtain rfl : os' = s.os := os
  exact ⟨v, H', I.call (h' := hh) (g' := g) (d' := d) (t' := t) (ch := []) un hok bare (fun b z => absurd z (by simp)), r, q⟩
end

/-- f(..): the written arguments, then the defaults dvs; E: what is wanted of an exception -/
def tCall (sp : Sp) (dvs : List V) (E : XK) (t : TA) : TE := fun σ H Q => t σ H fun vs H1 => sp (vs ++ dvs) H1 Q E

/-- how the parameters are bound: us the positional arguments, kw the keywords' values by name, ds the defaults that fill up -/
def Binds (K : PySem.W.Frag) (fd : FuncData) (ps : List Str) (ds : List Value) : Prop :=
  ∀ (s : Shared) (us : List Value), K.In s.heap → (us ++ ds).length = ps.length → BindsTo s fd ⟨us, []⟩ (ps.zip (us ++ ds))
/-- every parameter is given -/
theorem Binds.all {K : PySem.W.Frag} {fd : FuncData} {ps : List Str} (h : ∀ us : List Value, us.length = ps.length → bindArgs fd ⟨us, []⟩ = pure (ps.zip us)) : Binds K fd ps [] := fun s us _ hl => by
  rw [List.append_nil] at hl ⊢
  exact .of_eq (h us hl)

/-- an exception of a callee reaches what this body wants of exceptions -/
def Passes (CX : CXT) (X : Cx) (E : XK) : Prop := ∀ (pins : List (Addr × Obj)) (σ : St) (H : Hp) (s : Shared) (e : Value) (s' : Shared), Inv X pins σ H s → CX X.stack H s E e s' → X.xe e s'

section
variable {X : Cx} {CX : CXT} {k : Nat} {f C : Addr} {fd : FuncData} {ps : List Str} {sp : Sp} {dvs : List V} {ds : List Value} {E : XK} {x m : Str} {p pos apos : Pos} {e o : Expr} {es : List Expr} {ta : TE} {t : TA}

/-- the callee runs -/
theorem run_fn {pins : List (Addr × Obj)} {σ : St} {H : Hp} {s : Shared} {Q : VK} {us : List Value} {vs : List V} (F : FnOk X.prog X.w X.K X.mg X.base CX k f fd ps sp) (hr : Room k X.A) (hb : Binds X.K fd ps ds) (hd : Vals dvs ds) (hx : Passes CX X E)
    (I : Inv X pins σ H s) (r : Vals vs us) (h : sp (vs ++ dvs) H Q E) : wpAny (model X.prog X.w) X.A (call (.ref f) us) (EP X pins σ Q) X.xe s := by
  have r2 : Vals (vs ++ dvs) (us ++ ds) := r.append hd
  have hl : (us ++ ds).length = ps.length := by rw [← r2.length]; exact F.len _ _ _ _ h
  refine wpAny_call (codeAny_mono (F.run X.A X.stack s H ⟨us, []⟩ (us ++ ds) (vs ++ dvs) Q E hr I.env0 (hb s us I.kIn hl) r2 h) fun r s' hq => ?_)
  cases r with
  | error e => exact hx pins σ H s e s' I hq
  | ok fl =>
    cases fl with
    | ret u => exact I.after hq
    | next => exact False.elim hq
    | brk => exact False.elim hq
    | cont => exact False.elim hq

theorem pe_call (F : FnOk X.prog X.w X.K X.mg X.base CX k f fd ps sp) (hr : Room k X.A) (hg : Gl X x) (hm : X.mg x = some (.ref f)) (hk : PySem.W.keepIn X.K (.ref f) = true) (hb : Binds X.K fd ps ds) (hd : Vals dvs ds) (hx : Passes CX X E)
    (ha : PA X (e :: es) t) (hdb : (x == ("__debug__" : Str)) = false := by decide) (he : starEach (e :: es) X.env = (false, eval e X.env) :: starEach es X.env := by rfl) (hpl : (backTo pos (starEach es X.env)).any (·.1) = false := by rfl) :
    PE X (.Call (.Name x p) (e :: es) [] pos) (tCall sp dvs E t) := by
  intro pins s σ H Q I h
  refine wpAny_Call_Name_kw (ld_glob I hg hm ?_ hdb)
  refine PySem.W.callWith_K (h₀ := X.base) I.ok.mod.kin hk (thn (ha pos pins s σ H _ I h) fun us s1 ⟨vs, H1, I1, r, q⟩ => ⟨I1.kIn, ?_⟩) he hpl
  exact run_fn F hr hb hd hx I1 r q



end

section
variable {X : Cx} {CX : CXT} {k : Nat} {f C : Addr} {fd : FuncData} {ps ks : List Str} {sp : Sp} {E : XK} {x m : Str} {p pos apos kpos : Pos} {e o : Expr} {es : List Expr} {kws : List Keyword} {te ta : TE} {t tk : TA} {nm : Option Str}

variable {g : List Value → List Value → List Value} {gV : List V → List V → List V}
end

/-- names: the parameters first -/
structure FnScope (N P : List Str) (sc : Scope) : Prop where
  kind : sc.kind = .function
  co : sc.isCoroutine = false
  gen : sc.isGenerator = false
  nd : N.Nodup
  pre : N.take P.length = P
  par : ∀ x ∈ P, sc.names.lookup x = some .local ∨ sc.names.lookup x = some .cell
  nofree : ∀ y ∈ sc.names, y.2 ≠ .free

theorem bindL_out {kindOf : Str → Option NameKind} {x : Str} : ∀ {binds : List (Str × Value)} {m : Str → Option Value}, (∀ v, (x, v) ∉ binds) → bindL kindOf binds m x = m x
  | [], _, _ => rfl
  | (n, v) :: r, m, h => by
    unfold bindL
    rw [bindL_out fun w hw => h w (List.mem_cons_of_mem _ hw)]
    split
    · have : x ≠ n := by rintro rfl; exact h v List.mem_cons_self
      simp [this]
    · rfl
theorem bindC_out {kindOf : Str → Option NameKind} {x : Str} : ∀ {binds : List (Str × Value)} {m : Str → Option Value}, (∀ v, (x, v) ∉ binds) → bindC kindOf binds m x = m x
  | [], _, _ => rfl
  | (n, v) :: r, m, h => by
    unfold bindC
    rw [bindC_out fun w hw => h w (List.mem_cons_of_mem _ hw)]
    split
    · rfl
    · have : x ≠ n := by rintro rfl; exact h v List.mem_cons_self
      simp [this]
theorem bindL_get {kindOf : Str → Option NameKind} {x : Str} {v : Value} : ∀ {P : List Str} {vs : List Value} {i : Nat} {m : Str → Option Value}, P.Nodup → P[i]? = some x → vs[i]? = some v → kindOf x = some .local →
    bindL kindOf (P.zip vs) m x = some v
  | [], _, _, _, _, h, _, _ => by simp at h
  | _ :: _, [], _, _, _, _, h, _ => by simp at h
  | p :: P, w :: vs, 0, m, nd, h1, h2, hk => by
    simp at h1 h2; subst h1; subst h2
    show bindL kindOf ((p, w) :: P.zip vs) m p = _
    unfold bindL
    rw [bindL_out fun v hv => (List.nodup_cons.mp nd).1 (List.of_mem_zip hv).1, if_pos hk]
    simp
  | p :: P, w :: vs, i + 1, m, nd, h1, h2, hk => by
    show bindL kindOf ((p, w) :: P.zip vs) m x = _
    unfold bindL
    exact bindL_get (i := i) (List.nodup_cons.mp nd).2 (by simpa using h1) (by simpa using h2) hk
theorem bindC_get {kindOf : Str → Option NameKind} {x : Str} {v : Value} : ∀ {P : List Str} {vs : List Value} {i : Nat} {m : Str → Option Value}, P.Nodup → P[i]? = some x → vs[i]? = some v → kindOf x ≠ some .local →
    bindC kindOf (P.zip vs) m x = some v
  | [], _, _, _, _, h, _, _ => by simp at h
  | _ :: _, [], _, _, _, _, h, _ => by simp at h
  | p :: P, w :: vs, 0, m, nd, h1, h2, hk => by
    simp at h1 h2; subst h1; subst h2
    show bindC kindOf ((p, w) :: P.zip vs) m p = _
    unfold bindC
    rw [bindC_out fun v hv => (List.nodup_cons.mp nd).1 (List.of_mem_zip hv).1, if_neg hk]
    simp
  | p :: P, w :: vs, i + 1, m, nd, h1, h2, hk => by
    show bindC kindOf ((p, w) :: P.zip vs) m x = _
    unfold bindC
    exact bindC_get (i := i) (List.nodup_cons.mp nd).2 (by simpa using h1) (by simpa using h2) hk

/-- the names' values at the entry -/
def start (N : List Str) (vs : List V) : St := vs.map some ++ List.replicate (N.length - vs.length) none

/-- the context of a def's body, at its entry; an exception leaves the frame, then lies as CX says -/
def cxOf (CX : CXT) (P : Program) (w : World) (K : PySem.W.Frag) (mg : Str → Option Value) (base : Heap) (N : List Str) (qual : Str) (scope : Scope) (f : Addr) (cd : Value) (A : Around) (outer : List Env) (s : Shared) (H : Hp) (E : XK) : Cx where
  prog := P
  w := w
  K := K
  mg := mg
  base := base
  A := A.deeper (envOfC qual scope s.heap.objs.size f cd)
  N := N
  s₀ := s
  H₀ := H
  env := envOfC qual scope s.heap.objs.size f cd
  outer := outer
  stack := envOfC qual scope s.heap.objs.size f cd :: outer
  ex := []
  calm := true
  fn := fun _ => true
  pn := []
  xe := fun e s' => wpAny (model P w) (A.deeper (envOfC qual scope s.heap.objs.size f cd)) (leaving (envOfC qual scope s.heap.objs.size f cd) e) (fun _ s'' => CX outer H s E e s'') (fun e' s'' => CX outer H s E e' s'') s'

theorem cell_has {sc : Scope} {n : Nat} {x : Str} (h : sc.names.lookup x = some .cell) : ∃ c, (cellsFrom n sc.names []).lookup x = some c := by
  have q := PySem.W.cellsFrom_some sc.names n [] (.inl h)
  exact Option.isSome_iff_exists.mp q

theorem inv_start {CX : CXT} {P : Program} {w : World} {K : PySem.W.Frag} {mg : Str → Option Value} {base : Heap} {N ps : List Str} {qual : Str} {scope : Scope} {f : Addr} {cd : Value} {A : Around} {outer : List Env} {s s1 : Shared} {H : Hp} {E : XK} {us : List Value} {vs : List V}
    (S : FnScope N ps scope) (hd : A.handled = none) (e0 : Env0 P w K mg base A outer s H) (hl : vs.length = ps.length) (r : Vals vs us)
    (x : InCallC s s.heap.objs.size (bindL (envOfC qual scope s.heap.objs.size f cd).kindOf (ps.zip us) fun _ => none) (cellsFrom (s.heap.objs.size + 1) scope.names []) (bindC (envOfC qual scope s.heap.objs.size f cd).kindOf (ps.zip us) fun _ => none) s1) :
    Inv (cxOf CX P w K mg base N qual scope f cd A outer s H E) [] (start N vs) H s1 := by
  have hpl : ps.length ≤ N.length := by have := congrArg List.length S.pre; rw [List.length_take] at this; omega
  obtain ⟨h1, tk, rfl, hk⟩ := x.done
  have noA : ∀ b : Addr, b ∉ (cxOf CX P w K mg base N qual scope f cd A outer s H E).ex := fun b z => absurd (show b ∈ ([] : List Addr) from z) (by simp)
  refine ⟨⟨e0.mod, S.kind, rfl, rfl, Nat.le_refl _, fun y z c h1 h2 => ?_, fun y hy => ?_, fun y c _ h => ?_, fun _ => hd, Around.frames_deeper e0.frames, .inr ⟨rfl, rfl⟩, fun b z => absurd z (noA b), e0.bs, e0.bsz, fun b _ _ => noA b, fun b z => absurd z (noA b), e0.funs, e0.frf⟩,
    rfl, e0.bare, Un.kept hk, ⟨_, x.toInCall.ns, fun i y v h1 h2 h3 => ?_⟩, fun y c h => ⟨_, x.cell y c h⟩, e0.hok.fresh (Nat.le_refl _), fun y c h => ?_, fun p hp => absurd (show p ∈ ([] : List (Addr × Obj)) from hp) (by simp), e0.hok.kept hk, ?_⟩
  · exact name_of_addr x.apart (PySem.mem_of_lookup h1) (PySem.mem_of_lookup h2)
  · have hy : scope.names.lookup y = some .cell ∨ scope.names.lookup y = some .free := hy
    rcases hy with hy | hy
    · exact cell_has hy
    · exact absurd rfl (S.nofree _ (PySem.mem_of_lookup hy))
  · exact Nat.le_of_lt (x.above y c (PySem.mem_of_lookup h))
  · have hi : i < vs.length := by
      unfold start at h2
      by_cases hi : i < vs.length
      · exact hi
      · rw [List.getElem?_append_right (by simpa using hi)] at h2
        rw [List.getElem?_replicate] at h2
        split at h2 <;> cases h2
    have ha : vs[i]? = some v := by
      unfold start at h2
      rw [List.getElem?_append_left (by simpa using hi), List.getElem?_map] at h2
      cases e : vs[i]? with
      | none => rw [e] at h2; cases h2
      | some a => rw [e] at h2; cases h2; rfl
    obtain ⟨u, hu, rv⟩ := r.get ha
    have hp : ps[i]? = some y := by
      rw [← S.pre, List.getElem?_take_of_lt (by omega)]; exact h1
    have ndP : ps.Nodup := by rw [← S.pre]; exact S.nd.sublist (List.take_sublist _ _)
    refine ⟨u, rv, ?_⟩
    rcases S.par y (List.mem_of_getElem? hp) with k | k
    · exact .inl ⟨k, bindL_get ndP hp hu k⟩
    · obtain ⟨c, e⟩ := cell_has (n := s.heap.objs.size + 1) k
      refine .inr ⟨.inl k, c, e, ?_⟩
      have q := x.cell y c e
      rw [bindC_get ndP hp hu (by show scope.names.lookup y ≠ _; rw [k]; decide)] at q
      exact q
  · exact e0.hok.fresh (Nat.le_of_lt (x.above y c (PySem.mem_of_lookup h)))
  · unfold start
    show _ = N.length
    rw [List.length_append, List.length_map, List.length_replicate]
    omega

/-- THE RULE: a def (or a method) of the text, by its body. The body's reading t is chosen for each entry; it is run at the parameters' values -/
theorem fn_of {CX : CXT} {P : Program} {w : World} {K : PySem.W.Frag} {mg : Str → Option Value} {base : Heap} {k : Nat} {f : Addr} {name qual : Str} {params : Arguments} {body : List Stmt} {scope : Scope} {dV kV doc pm cdv ct oc : Value} {an od : Option Addr}
    {osl : Array (Option Value)} {N ps : List Str} {sp : Sp} (lk : K.lookup f = some ⟨oc, od, .func (PySem.W.fnOf name qual params body scope dV kV doc pm an cdv ct), osl⟩) (hcd : PySem.W.codeIn K cdv qual = true) (S : FnScope N ps scope)
    (len : ∀ vs H Q E, sp vs H Q E → vs.length = ps.length)
    (hbody : ∀ (A : Around) (outer : List Env) (s : Shared) (H : Hp) (vs : List V) (Q : VK) (E : XK), Room k (A.deeper (envOfC qual scope s.heap.objs.size f cdv)) → sp vs H Q E →
      ∃ t, PSs (cxOf CX P w K mg base N qual scope f cdv A outer s H E) body t ∧ t { nx := fun _ H' => Q .non H', rt := Q } (start N vs) H) :
    FnOk P w K mg base CX (k + 1) f (PySem.W.fnOf name qual params body scope dV kV doc pm an cdv ct) ps sp := by
  refine ⟨len, fun A outer s H args us vs Q E hr e0 hb r hsp => ?_⟩
  have hl := len _ _ _ _ hsp
  have KX : K.In s.heap := e0.mod.kin.keeps fun b o e => (e0.bs b o e).1
  have lim : s.heap.NoLimit := e0.mod.nolimit.keeps fun b o e => (e0.bs b o e).1
  have hkind : ∀ y ∈ ps.zip us, scope.names.lookup y.1 = some .local ∨ (scope.names.lookup y.1 = some .cell ∧ ((cellsFrom (s.heap.objs.size + 1) scope.names []).lookup y.1).isSome = true) := fun ⟨n, v⟩ hy => by
    rcases S.par n (List.of_mem_zip hy).1 with q | q
    · exact .inl q
    · exact .inr ⟨q, PySem.W.cellsFrom_some _ _ _ (.inl q)⟩
  refine codeAny_call_function hr.depth (KX _ _ lk) rfl S.co S.gen rfl (PySem.W.codeRec_of KX hcd) (hb _ _ _ _ ?_)
  refine wpAny_newFunctionEnv_cells S.kind hkind fun env he s1 x => ?_
  subst he
  refine ⟨lim.keeps x.toInCall.keep, codeAny_func ?_⟩
  obtain ⟨t, ht, hq⟩ := hbody A outer s H vs Q E (hr.deeper _) hsp
  have I : Inv (cxOf CX P w K mg base N qual scope f cdv A outer s H E) [] (start N vs) H s1 := inv_start S hr.hd e0 hl r x
  refine wpAny_mono (ht [] s1 (start N vs) H _ I hq) (fun fl s' hs => ?_) fun e s' hs => hs
  have fin : ∀ {σ' : St} {H' : Hp} {v : V} {u : Value}, Inv (cxOf CX P w K mg base N qual scope f cdv A outer s H E) [] σ' H' s' → RelV v u → Q v H' → CE outer P w H s Q u s' :=
    fun {σ' H' v u} J rv q => ⟨v, H', J.os, J.bare, J.base, J.hok, rv, q⟩
  cases fl with
  | ret u =>
    obtain ⟨v, σ', H', J, rv, q⟩ := hs
    exact fin J rv q
  | next =>
    obtain ⟨σ', H', J, q⟩ := hs
    exact fin (v := V.non) (u := Value.none) J rfl q
  | brk =>
    obtain ⟨_, _, _, q⟩ := hs
    exact False.elim q
  | cont =>
    obtain ⟨_, _, _, q⟩ := hs
    exact False.elim q
end L2

namespace L2
open PySem PySem.Spec PyProof.Rows
section
variable {X : Cx} {x : Str} {p pos : Pos} {e : Expr} {es : List Expr} {t : TA} {id T : String} {r : List V → Hp → VK → Prop}

def tCB (r : List V → Hp → VK → Prop) (t : TA) : TE := fun σ H Q => t σ H fun vs H1 => r vs H1 Q
/-- f(e, ..), f a built-in function -/
theorem pe_callB (hc : CallR X (.builtin id) r) (hg : Gl X x) (hm : X.mg x = none) (hv : bootBuiltins x = some (.builtin id)) (ha : PA X (e :: es) t) (hn : x ≠ "__name__" := by decide) (hdb : (x == ("__debug__" : Str)) = false := by decide)
    (he : starEach (e :: es) X.env = (false, eval e X.env) :: starEach es X.env := by rfl) (hpl : (backTo pos (starEach es X.env)).any (·.1) = false := by rfl) : PE X (.Call (.Name x p) (e :: es) [] pos) (tCB r t) := by
  intro pins s σ H Q I h
  refine wpAny_Call_Name_kw (ld_blt I hg hm hv ?_ hn hdb)
  exact PyProof.Rows.callWith_builtin1 (thn (ha pos pins s σ H _ I h) fun us s1 ⟨vs, H1, I1, r1, q1⟩ => hc pins s1 σ H1 vs us Q I1 r1 q1) he hpl
/-- T(e, ..), T a built-in type -/
theorem pe_callTy (hc : CallR X (.type T) r) (hg : Gl X x) (hm : X.mg x = none) (hv : bootBuiltins x = some (.type T)) (ha : PA X (e :: es) t) (hn : x ≠ "__name__" := by decide) (hdb : (x == ("__debug__" : Str)) = false := by decide)
    (he : starEach (e :: es) X.env = (false, eval e X.env) :: starEach es X.env := by rfl) (hpl : (backTo pos (starEach es X.env)).any (·.1) = false := by rfl) : PE X (.Call (.Name x p) (e :: es) [] pos) (tCB r t) := by
  intro pins s σ H Q I h
  refine wpAny_Call_Name_kw (ld_blt I hg hm hv ?_ hn hdb)
  exact PyProof.Rows.callWith_type1 (thn (ha pos pins s σ H _ I h) fun us s1 ⟨vs, H1, I1, r1, q1⟩ => hc pins s1 σ H1 vs us Q I1 r1 q1) he hpl
end
end L2

namespace HT
open PySem PyProof.Rows



section
open PySem.SeqAt
open PySem.AutoSeq1 (wpAny_loadPart')
open PySem.MeetsSeq PySem.MeetsSeq2 PySem.MeetsSeq3

end

section
variable {prog : Program} {w : World} {A : Around} {E : Value → Shared → Prop} {s : Shared}



/-- a slice's bound as a place among n (d where it is left out) -/
def sIx (n d : Nat) : Option Int → Nat
  | none => d
  | some v => if v < 0 then (v + (n : Int)).toNat else min v.toNat n

end
end HT

namespace L2
open PySem PySem.Spec PyProof.Rows



section
variable {X : Cx} {e : Expr} {te : TE} {lo hi : Option Expr} {tl th : TO} {pos p2 : Pos}


/-- what a slice of a value is, by values: the slice object stands at sl -/
def SlR (X : Cx) (r : V → Option Int → Option Int → Hp → VK → Prop) : Prop :=
  ∀ (pins : List (Addr × Obj)) (s : Shared) (σ : St) (H : Hp) (x : V) (v vl vu : Value) (lo hi : Option Int) (sl : Addr) (Q : VK), Inv X pins σ H s → RelV x v → s.heap.IsSliceOf sl vl vu .none → IsPart vl lo → IsPart vu hi → r x lo hi H Q →
    ∃ T id, typeLookup (.type T) "__getitem__" = pure (some (.builtin id)) ∧ s.TypeIs v T ∧ wpAny (model X.prog X.w) X.A (getItem v (.ref sl)) (EP X pins σ Q) X.xe s

/-- the items of xs[lo:hi] -/
def cutV (xs : List V) (lo hi : Option Int) : List V := (xs.drop (HT.sIx xs.length 0 lo)).take (HT.sIx xs.length xs.length hi - HT.sIx xs.length 0 lo)
theorem cutV_length (xs : List V) (lo hi : Option Int) : (cutV xs lo hi).length ≤ xs.length := by
  unfold cutV
  rw [List.length_take, List.length_drop]
  omega

end
end L2

namespace L2
open PySem PySem.Spec PyProof.Rows

/-- the place that an index of any sign means -/
def ixN (n : Nat) (i : Int) : Option Nat := if 0 ≤ i then (if i < n then some i.toNat else none) else if -(n : Int) ≤ i then some (i + n).toNat else none
def atI {α : Type} (xs : List α) (i : Int) : Option α := (ixN xs.length i).bind fun j => xs[j]?
theorem ixN_seq {n : Nat} {i : Int} {j : Nat} (h : ixN n i = some j) : seqIndex? i n = some j ∧ j < n ∧ -(n : Int) ≤ i ∧ i < n := by
  unfold ixN at h
  by_cases h0 : 0 ≤ i
  · rw [if_pos h0] at h
    by_cases h1 : i < n
    · rw [if_pos h1] at h
      have e : i.toNat = j := Option.some.inj h
      exact ⟨by rw [seqIndex_of h0 h1, e], by omega, by omega, h1⟩
    · rw [if_neg h1] at h; cases h
  · rw [if_neg h0] at h
    by_cases h1 : -(n : Int) ≤ i
    · rw [if_pos h1] at h
      have e : (i + n).toNat = j := Option.some.inj h
      exact ⟨by rw [seqIndex_neg (by omega) h1, e], by omega, h1, by omega⟩
    · rw [if_neg h1] at h; cases h
theorem atI_get {α : Type} {xs : List α} {i : Int} {v : α} (h : atI xs i = some v) : ∃ j, seqIndex? i xs.length = some j ∧ xs[j]? = some v ∧ j < xs.length ∧ -(xs.length : Int) ≤ i ∧ i < xs.length := by
  unfold atI at h
  cases e : ixN xs.length i with
  | none => rw [e] at h; cases h
  | some j =>
    rw [e] at h
    obtain ⟨h1, h2, h3, h4⟩ := ixN_seq e
    exact ⟨j, h1, h, h2, h3, h4⟩
theorem atI_nat {α : Type} {xs : List α} {j : Nat} {v : α} (h : xs[j]? = some v) : atI xs (j : Int) = some v := by
  have hj : j < xs.length := (List.getElem?_eq_some_iff.mp h).1
  have e : ixN xs.length (j : Int) = some j := by
    unfold ixN
    rw [if_pos (by omega), if_pos (by omega)]; simp
  unfold atI; rw [e]; exact h

/-- what stands as an index of a plain subscript -/
def PlainIx (b : Expr) : Prop := ∀ o i, subscripted b false o i = operate [o, i] (getItem o i)
/-- a subscript by values -/
def IxR (X : Cx) (r : R2) : Prop :=
  ∀ (value slice : Expr) (pins : List (Addr × Obj)) (s : Shared) (σ : St) (H : Hp) (x y : V) (v u : Value) (Q : VK), Inv X pins σ H s → RelV x v → RelV y u → r x y H Q →
    subscripted slice false v u = operate [v, u] (getItem v u) → wpAny (model X.prog X.w) X.A (subscriptTail value slice v u) (EP X pins σ Q) X.xe s
/-- a call of a builtin's method by values: the receiver, the arguments -/
def MtR (X : Cx) (id : String) (r : V → List V → Hp → VK → Prop) : Prop :=
  ∀ (pins : List (Addr × Obj)) (s : Shared) (σ : St) (H : Hp) (x : V) (xs : List V) (v : Value) (us : List Value) (Q : VK), Inv X pins σ H s → RelV x v → Vals xs us → r x xs H Q →
    wpAny (model X.prog X.w) X.A (call (.builtin id) (v :: us)) (EP X pins σ Q) X.xe s
section
variable {X : Cx} {a b : Expr} {ta tb : TE} {pos : Pos}
/-- a[b] -/
theorem pe_ix {r : R2} (hr : IxR X r) (ha : PE X a ta) (hb : PE X b tb) (hs : PlainIx b) : PE X (.Subscript a b pos) (tOp r ta tb) := by
  intro pins s σ H Q I h
  exact Subscript_ (binT ha hb I h fun v u s2 x y H2 I2 rx ry q => hr a b pins s2 σ H2 x y v u Q I2 rx ry q (hs _ _))

def rIxL (K : PySem.W.Frag) : R2 := fun x y H Q => ∃ p xs i v, x = .ref p ∧ y = .int i ∧ SqL K H p xs ∧ atI xs i = some v ∧ Q v H
def rIxT (K : PySem.W.Frag) : R2 := fun x y H Q => ∃ p xs i v, x = .ref p ∧ y = .int i ∧ SqT K H p xs ∧ atI xs i = some v ∧ Q v H
theorem ix_list : IxR X (rIxL X.K) := by
  intro value slice pins s σ H x y v u Q I rx ry h hs
  obtain ⟨p, xs, i, z, rfl, rfl, hq, he, q⟩ := h
  cases rx
  obtain ⟨t, rfl⟩ := ry
  obtain ⟨its, r, pl, hz⟩ := I.list hq
  obtain ⟨j, h1, h2, h3, h4, h5⟩ := atI_get he
  obtain ⟨w, ew, rw'⟩ := r.get h2
  have hl := r.length
  have hn := line63
  have fin : EP X pins σ Q w s := ⟨z, H, I, rw', q⟩
  by_cases h0 : 0 ≤ i
  · have hj : i.toNat = j := by
      rw [seqIndex_of h0 h5] at h1
      exact Option.some.inj h1
    exact item_listR pl.isList h0 (by omega) (by rw [hj]; simpa using ew) fin hs
  · have hj : (i + (its.toArray.size : Int)).toNat = j := by
      rw [seqIndex_neg (by omega) h4] at h1
      rw [List.size_toArray, ← hl]
      exact Option.some.inj h1
    exact subscriptTail_builtinR (x := w) pl.isList.typeIs slot_list_getitem.lookup
      (wpAny_getItem_list_neg (Q := fun r s' => r = w ∧ EP X pins σ Q r s') pl.isList (by omega) (by rw [List.size_toArray] <;> omega) (by omega) (by rw [hj]; simpa using ew) ⟨rfl, fin⟩) hs
theorem ix_tup : IxR X (rIxT X.K) := by
  intro value slice pins s σ H x y v u Q I rx ry h hs
  obtain ⟨p, xs, i, z, rfl, rfl, hq, he, q⟩ := h
  cases rx
  obtain ⟨t, rfl⟩ := ry
  obtain ⟨its, r, pl, hz⟩ := I.tuple hq
  obtain ⟨j, h1, h2, h3, h4, h5⟩ := atI_get he
  obtain ⟨w, ew, rw'⟩ := r.get h2
  have hl := r.length
  have hn := line63
  have fin : EP X pins σ Q w s := ⟨z, H, I, rw', q⟩
  exact subscriptTail_builtinR (x := w) pl.typeIs slot_tuple_getitem.lookup
    (getItem_tuple (j := j) (Q := fun r s' => r = w ∧ EP X pins σ Q r s') pl (by omega) (by omega) (by rw [List.size_toArray, ← hl]; exact h1) (by simpa using ew) ⟨rfl, fin⟩) hs

/-- the list's object behind a store -/
theorem mapSeq_set (its : List Value) (n j : Nat) (u : Value) : Obj.mapSeq (·.setIfInBounds j u) { cls := .type "list", data := .seq its.toArray n } = { cls := .type "list", data := .seq (its.set j u).toArray n } := by
  simp [Obj.mapSeq]
theorem Inv.lst {pins : List (Addr × Obj)} {σ : St} {H : Hp} {s : Shared} {p : Addr} {xs : List V} (I : Inv X pins σ H s) (h : H p = some (.lst xs)) :
    ∃ (its : List Value) (n : Nat), Vals xs its ∧ s.heap.get? p = some { cls := .type "list", data := .seq its.toArray n } ∧ xs.length ≤ sizeLine := by
  obtain ⟨z, its, n, r, e⟩ := I.hok p _ h
  exact ⟨its, n, r, e, z⟩
/-- the list at p is written by an update of its object -/
theorem Inv.lstUpd {pins : List (Addr × Obj)} {σ : St} {H : Hp} {s : Shared} {p : Addr} {xs ys : List V} {its its' : List Value} {n n' : Nat} {f : Obj → Obj} (I : Inv X pins σ H s) (h : H p = some (.lst xs))
    (ho : s.heap.get? p = some { cls := .type "list", data := .seq its.toArray n }) (hf : f { cls := .type "list", data := .seq its.toArray n } = { cls := .type "list", data := .seq its'.toArray n' }) (r : Vals ys its') (hz : ys.length ≤ sizeLine) (t : Nat) :
    Inv X pins σ (upd H p (.lst ys)) { s with heap := s.heap.update p f, toks := t } := by
  have e : (s.heap.update p f).get? p = some { cls := .type "list", data := .seq its'.toArray n' } := by
    rw [Heap.get?_update_self f ho (by rw [hf] <;> rfl), hf]
  refine I.write (x := p) (e := p) (by rw [h]; trivial) (.inl rfl) (fun b u hb q => (Heap.get?_update_other _ _ (Ne.symm hb)).trans q) ⟨_, e⟩ ?_
  exact ⟨hz, its', n', r, e⟩
def rSetL : V → V → V → Hp → (Hp → Prop) → Prop := fun o i v H Q => ∃ p xs k j, o = .ref p ∧ i = .int k ∧ H p = some (.lst xs) ∧ ixN xs.length k = some j ∧ Q (upd H p (.lst (xs.set j v)))
theorem set_list : PSet X rSetL := by
  intro pins s σ H o i v ov iv u Q I ro ri rv h
  obtain ⟨p, xs, k, j, rfl, rfl, hp, hj, q⟩ := h
  cases ro
  obtain ⟨t, rfl⟩ := ri
  obtain ⟨its, n, r, ho, hz⟩ := I.lst hp
  obtain ⟨h1, h2, h3, h4⟩ := ixN_seq hj
  have hl := r.length
  have hn := line63
  have I' : Inv X pins σ (upd H p (.lst (xs.set j v))) { s with heap := s.heap.update p (Obj.mapSeq (·.setIfInBounds j u)) } :=
    I.lstUpd hp ho (mapSeq_set its n j u) (r.set rv j) (by rw [List.length_set]; exact hz) s.toks
  by_cases h0 : 0 ≤ k
  · have hk : k.toNat = j := by
      rw [seqIndex_of h0 h4] at h1
      exact Option.some.inj h1
    exact PySem.W.ki_setAt ho h0 (by omega) (by rw [List.size_toArray, ← hl]; exact h4) (by rw [hk]; exact ⟨_, I', q⟩)
  · have hk : (k + (its.toArray.size : Int)).toNat = j := by
      rw [seqIndex_neg (by omega) h3] at h1
      rw [List.size_toArray, ← hl]
      exact Option.some.inj h1
    exact PySem.W.ki_setBack ho (by omega) (by rw [List.size_toArray, ← hl]; exact h3) (by omega) (by rw [hk]; exact ⟨_, I', q⟩)

theorem slice_bounds (lo hi : Option Int) (n : Nat) : (sliceBounds lo hi none n).1 = ((HT.sIx n 0 lo : Nat) : Int) ∧ (sliceBounds lo hi none n).2.1 = ((HT.sIx n n hi : Nat) : Int) ∧ (sliceBounds lo hi none n).2.2 = 1 := by
  refine ⟨?_, ?_, rfl⟩
  · cases lo with
    | none => simp [sliceBounds, HT.sIx]
    | some i =>
      simp only [sliceBounds, HT.sIx, Option.getD_none, show (1 : Int) > 0 by decide, if_true]
      by_cases h : i < 0
      · simp only [h, if_true] <;> omega
      · simp only [h, if_false] <;> omega
  · cases hi with
    | none => simp [sliceBounds, HT.sIx]
    | some i =>
      simp only [sliceBounds, HT.sIx, Option.getD_none, show (1 : Int) > 0 by decide, if_true]
      by_cases h : i < 0
      · simp only [h, if_true] <;> omega
      · simp only [h, if_false] <;> omega
theorem slicePick_cut (its : List Value) (lo hi : Option Int) : slicePick its.toArray lo hi none = ((its.drop (HT.sIx its.length 0 lo)).take (HT.sIx its.length its.length hi - HT.sIx its.length 0 lo)).toArray := by
  obtain ⟨h1, h2, h3⟩ := slice_bounds lo hi its.toArray.size
  unfold slicePick
  rw [h1, h2, h3]
  simp only [sliceRange_one, pick_run, List.size_toArray] <;> rfl
/-- xs[lo:hi] of a list: a new list -/
def rSlL (K : PySem.W.Frag) : V → Option Int → Option Int → Hp → VK → Prop := fun x lo hi H Q => ∃ a xs, x = .ref a ∧ SqL K H a xs ∧ ∀ p, H p = none → Q (.ref p) (upd H p (.lst (cutV xs lo hi)))
theorem sl_list : SlR X (rSlL X.K) := by
  intro pins s σ H x v vl vu lo hi sl Q I rx hs pl pu h
  obtain ⟨a, xs, rfl, hx, q⟩ := h
  cases rx
  obtain ⟨its, r, ht, hz⟩ := I.list hx
  have hlen := r.length
  refine ⟨"list", _, slot_list_getitem.lookup, ht.isList.typeIs, ?_⟩
  refine wpAny_getItem_list_slice ht.isList hs pl pu .none (by simp) ?_ (by rw [List.size_toArray] <;> omega)
  rw [slicePick_cut, ← hlen]
  refine ⟨.ref s.heap.objs.size, _, I.laid (t' := s.toks) (o := .lst (cutV xs lo hi)) (fun b ob q => Heap.get?_push_of_some _ q) (Nat.le_refl _) ?_, rfl, q _ (I.hok.fresh (Nat.le_refl _))⟩
  exact ⟨Nat.le_trans (cutV_length xs lo hi) hz, _, 0, (r.drop (HT.sIx xs.length 0 lo)).take (HT.sIx xs.length xs.length hi - HT.sIx xs.length 0 lo), Heap.get?_push_size _ rfl⟩


theorem call_len_seq : CallR X (.builtin "len") (fun xs H Q => ∃ p ys, xs = [.ref p] ∧ (SqL X.K H p ys ∨ SqT X.K H p ys) ∧ Q (.int ys.length) H) := by
  intro pins s σ H xs us Q I r h
  obtain ⟨p, ys, rfl, hq, q⟩ := h
  obtain ⟨u, rfl, rx⟩ := vals1 r
  cases rx
  have hn := line63
  rcases hq with hq | hq
  · obtain ⟨its, r', pl, hz⟩ := I.list hq
    have hlen := r'.length
    exact Calls.call_len_list pl.isList (by simp only [List.size_toArray] <;> omega) ⟨.int ys.length, H, I.tok _, ⟨s.toks + 1, by rw [List.size_toArray, hlen]⟩, q⟩
  · obtain ⟨its, r', pl, hz⟩ := I.tuple hq
    have hlen := r'.length
    exact len_tuple pl (by simp only [List.size_toArray] <;> omega) ⟨.int ys.length, H, I.tok _, ⟨s.toks + 1, by rw [List.size_toArray, hlen]⟩, q⟩
theorem call_list_of : CallR X (.type "list") (fun xs H Q => ∃ p ys, xs = [.ref p] ∧ (SqL X.K H p ys ∨ SqT X.K H p ys) ∧ ∀ l, H l = none → Q (.ref l) (upd H l (.lst ys))) := by
  intro pins s σ H xs us Q I r h
  obtain ⟨p, ys, rfl, hq, q⟩ := h
  obtain ⟨u, rfl, rx⟩ := vals1 r
  cases rx
  have fin : ∀ (its : List Value), Vals ys its → ys.length ≤ sizeLine → ∀ (h' : Heap) (c' : Nat), (∀ b o', s.heap.get? b = some o' → h'.get? b = some o') →
      h'.get? s.heap.objs.size = some { cls := .type "list", dict := none, data := .seq its.toArray c', slots := #[] } → EP X pins σ Q (.ref s.heap.objs.size) { s with heap := h' } := fun its r' hz h' c' kp e =>
    ⟨.ref s.heap.objs.size, _, I.laid (t' := s.toks) kp (Nat.le_refl _) (show ObjOk X.prog X.w _ h' _ (.lst ys) from ⟨hz, its, c', r', e⟩), rfl, q _ (I.hok.fresh (Nat.le_refl _))⟩
  rcases hq with hq | hq
  · obtain ⟨its, r', pl, hz⟩ := I.list hq
    have hlen := r'.length
    obtain ⟨o, ho, hc, n, hd⟩ := pl.isList
    exact call_list_seq p (.inl rfl) ho hc hd (fun h' c' kp e => fin its r' hz h' c' kp e) (by simp only [List.size_toArray] <;> omega)
  · obtain ⟨its, r', pl, hz⟩ := I.tuple hq
    have hlen := r'.length
    obtain ⟨o, ho, hc, n, hd⟩ := pl
    exact call_list_seq p (.inr rfl) ho hc hd (fun h' c' kp e => fin its r' hz h' c' kp e) (by simp only [List.size_toArray] <;> omega)

/-- the value is of that builtin type -/
def tyV (K : PySem.W.Frag) (T : String) (x : V) (H : Hp) : Prop := match x with
  | .str _ => T = "str"
  | .int _ => T = "int"
  | .ref p => (T = "list" ∧ ∃ xs, SqL K H p xs) ∨ (T = "tuple" ∧ ∃ o, K.lookup p = some o ∧ o.cls = .type "tuple" ∧ o.dict = none) ∨
      (T = "dict" ∧ ((∃ kvs, H p = some (.dK kvs)) ∨ ∃ kvs, H p = some (.dT kvs))) ∨ (T = "set" ∧ ∃ S n, H p = some (.set S n))
  | _ => False
theorem tyV_is {pins : List (Addr × Obj)} {σ : St} {H : Hp} {s : Shared} {T : String} {x : V} {v : Value} (I : Inv X pins σ H s) (r : RelV x v) (ty : tyV X.K T x H) :
    s.TypeIs v T ∧ ∀ a, v = .ref a → ∃ ob, s.heap.get? a = some ob ∧ ob.dict = none := by
  cases x with
  | str z =>
    obtain ⟨t, rfl⟩ := r
    cases (show T = "str" from ty)
    exact ⟨typeIs_str s z t, fun _ e => nomatch e⟩
  | int i =>
    obtain ⟨t, rfl⟩ := r
    cases (show T = "int" from ty)
    exact ⟨typeIs_int s i t, fun _ e => nomatch e⟩
  | ref p =>
    cases r
    rcases ty with ⟨rfl, xs, hq⟩ | ⟨rfl, o, hk, hc, hd⟩ | ⟨rfl, hk⟩ | ⟨rfl, S, n, hk⟩
    · obtain ⟨its, _, pl, _⟩ := I.list hq
      refine ⟨pl.isList.typeIs, fun a e => ?_⟩
      cases e
      obtain ⟨o, n, e, c, hd, _⟩ := pl
      exact ⟨o, e, hd⟩
    · refine ⟨⟨o, I.kIn p o hk, hc⟩, fun a e => ?_⟩
      cases e
      exact ⟨o, I.kIn _ o hk, hd⟩
    · have z : ∃ o, s.heap.get? p = some o ∧ o.ExactDict := by
        rcases hk with ⟨kvs, hk⟩ | ⟨kvs, hk⟩
        · obtain ⟨_, _, _, _, o, _, _, e, ex, _⟩ := I.hok p _ hk
          exact ⟨o, e, ex⟩
        · obtain ⟨_, _, _, _, o, _, _, e, ex, _⟩ := I.hok p _ hk
          exact ⟨o, e, ex⟩
      obtain ⟨o, e, ex⟩ := z
      refine ⟨⟨o, e, ex.1⟩, fun a e2 => ?_⟩
      cases e2
      exact ⟨o, e, ex.2.1⟩
    · obtain ⟨o, _, _, _, e, ex, _⟩ := I.hok p _ hk
      refine ⟨⟨o, e, ex.1⟩, fun a e2 => ?_⟩
      cases e2
      exact ⟨o, e, ex.2.1⟩
  | _ => exact False.elim ty
def tBM0 (K : PySem.W.Frag) (T : String) (r : V → List V → Hp → VK → Prop) (to : TE) : TE := fun σ H Q => to σ H fun x H1 => tyV K T x H1 ∧ r x [] H1 Q
def tBM (K : PySem.W.Frag) (T : String) (r : V → List V → Hp → VK → Prop) (to : TE) (t : TA) : TE := fun σ H Q => to σ H fun x H1 => tyV K T x H1 ∧ t σ H1 fun xs H2 => r x xs H2 Q
variable {o e : Expr} {es : List Expr} {to : TE} {t : TA} {name : Str} {apos cpos : Pos} {T id : String} {r : V → List V → Hp → VK → Prop}
theorem pe_bm0 (pa : PlainAttrs T) (slot : Slot T name id) (hty : typeOf (.builtin id) = pure (.type "method_descriptor")) (hm : MtR X id r) (ho : PE X o to)
    (hbase : attributeBase o name X.env (eval o X.env) = eval o X.env := by rfl) (hline : (apos.endLine == cpos.line) = true := by rfl) : PE X (.Call (.Attribute o name apos) [] [] cpos) (tBM0 X.K T r to) := by
  intro pins s σ H Q I h
  refine wpAny_Call_method0_late hbase hline (thn (ho pins s σ H _ I h) fun v s1 ⟨x, H1, I1, r1, ty, q1⟩ => ?_)
  obtain ⟨h1, h2⟩ := tyV_is I1 r1 ty
  exact ⟨T, id, pa, slot, hty, h1, h2, Calls.callWith_builtin rfl (PySem.evalArgs_none (hm pins s1 σ H1 x [] v [] Q I1 r1 .nil q1))⟩
theorem pe_bm (pa : PlainAttrs T) (slot : Slot T name id) (hty : typeOf (.builtin id) = pure (.type "method_descriptor")) (hm : MtR X id r) (ho : PE X o to) (ha : PA X (e :: es) t)
    (hbase : attributeBase o name X.env (eval o X.env) = eval o X.env := by rfl)
    (hfew : ((backTo cpos (starEach (e :: es) X.env)).all (fun x => !x.1) && (backToKw cpos (keywordEach [] X.env)).all (fun x => x.1.isSome)
      && decide ((e :: es).length + ([] : List Keyword).length + (if ([] : List Keyword).isEmpty then 0 else 1) < 30)) = true := by rfl)
    (hline : (apos.endLine == cpos.line) = true := by rfl) (hs : starEach (e :: es) X.env = (false, eval e X.env) :: starEach es X.env := by rfl) (hplain : (backTo cpos (starEach es X.env)).any (·.1) = false := by rfl) :
    PE X (.Call (.Attribute o name apos) (e :: es) [] cpos) (tBM X.K T r to t) := by
  intro pins s σ H Q I h
  refine wpAny_Call_method_late hbase hfew hline rfl (thn (ho pins s σ H _ I h) fun v s1 ⟨x, H1, I1, r1, ty, q1⟩ => ?_)
  obtain ⟨h1, h2⟩ := tyV_is I1 r1 ty
  refine ⟨T, id, pa, slot, hty, h1, h2, ?_⟩
  have hA := ha cpos pins s1 σ H1 _ I1 q1
  rw [hs] at hA ⊢
  refine Calls.callWith_builtin (by show (false || (backTo cpos (starEach es X.env)).any (·.1)) = false; rw [hplain] <;> rfl) (Calls.evalArgs_plain ?_)
  exact thn hA fun us s2 ⟨vs, H2, I2, r2, q2⟩ => hm pins s2 σ H2 x vs v us Q I2 r1 r2 q2
/- xs.append(e), list.index on a module's tuple .. are MtR facts of 06m -/
end
end L2

namespace L2
open PySem PySem.Spec PyProof.Rows

def MtM (X : Cx) (id : String) (r : V → List V → Hp → VK → Prop) : Prop :=
  ∀ (pins : List (Addr × Obj)) (s : Shared) (σ : St) (H : Hp) (x : V) (xs : List V) (v : Value) (us : List Value) (Q : VK), Inv X pins σ H s → RelV x v → Vals xs us → r x xs H Q →
    wpAny (model X.prog X.w) X.A (call (.builtin id) (v :: us)) (EP X pins σ Q) X.xe s

theorem Vals.one : ∀ {x : V} {us : List Value}, Vals [x] us → ∃ u, us = [u] ∧ RelV x u
  | _, _, .cons r .nil => ⟨_, rfl, r⟩
theorem Vals.zero : ∀ {us : List Value}, Vals [] us → us = []
  | _, .nil => rfl
theorem Vals.dropLast {xs : List V} {us : List Value} (h : Vals xs us) : Vals xs.dropLast us.dropLast := by
  induction h with
  | nil => exact .nil
  | cons r t ih =>
    cases t with
    | nil => exact .nil
    | cons q t' => exact .cons r ih
theorem Vals.reverse {xs : List V} {us : List Value} (h : Vals xs us) : Vals xs.reverse us.reverse := by
  induction h with
  | nil => exact .nil
  | cons r t ih => rw [List.reverse_cons, List.reverse_cons]; exact Vals.append ih (.cons r .nil)
theorem erase_last {α : Type} (l : List α) : l.eraseIdx (l.length - 1) = l.dropLast := by
  induction l with
  | nil => rfl
  | cons a r ih =>
    cases r with
    | nil => rfl
    | cons b r =>
      have e : (a :: b :: r).length - 1 = ((b :: r).length - 1) + 1 := by
        have h1 : (a :: b :: r).length = r.length + 2 := rfl
        have h2 : (b :: r).length = r.length + 1 := rfl
        omega
      rw [e, List.eraseIdx_cons_succ, ih]
      all_goals rfl

section
variable {X : Cx} {pins : List (Addr × Obj)} {σ : St} {H : Hp} {s : Shared} {l b : Addr} {xs ys zs : List V}

theorem Inv.lset {its its' : List Value} {n : Nat} {f : Array Value → Array Value} {t' : Nat} (I : Inv X pins σ H s) (hH : H l = some (.lst xs))
    (e : s.heap.get? l = some { cls := .type "list", data := .seq its.toArray n }) (hf : f its.toArray = its'.toArray) (hv : Vals ys its') (hz : ys.length ≤ sizeLine) :
    Inv X pins σ (upd H l (.lst ys)) { s with heap := s.heap.update l (Obj.mapSeq f), toks := t' } := by
  have q := PySem.IsL.update e f
  rw [hf] at q
  refine I.write (x := l) (e := l) (by rw [hH]; exact trivial) (.inl rfl) (fun b' u hb hu => (Heap.get?_update_other s.heap (Obj.mapSeq f) (Ne.symm hb)).trans hu) ⟨_, q⟩ ?_
  exact ⟨hz, its', _, hv, q⟩
theorem Inv.lnew {its : List Value} {t' : Nat} (I : Inv X pins σ H s) (hv : Vals ys its) (hz : ys.length ≤ sizeLine) :
    Inv X pins σ (upd H s.heap.objs.size (.lst ys)) { s with heap := s.heap.push { cls := .type "list", data := .seq its.toArray }, toks := t' } :=
  I.laid (fun _ _ q => Heap.get?_push_of_some _ q) (Nat.le_refl _) ⟨hz, its, 0, hv, Heap.get?_push_size _ rfl⟩
theorem Inv.fresh (I : Inv X pins σ H s) : H s.heap.objs.size = none := I.hok.fresh (Nat.le_refl _)
theorem Inv.lstM (I : Inv X pins σ H s) (hH : H l = some (.lst xs)) : xs.length ≤ sizeLine ∧ ∃ (its : List Value) (n : Nat), Vals xs its ∧ xs.length = its.length ∧ s.heap.get? l = some { cls := .type "list", data := .seq its.toArray n } := by
  obtain ⟨z, its, n, r, e⟩ := I.hok l _ hH
  exact ⟨z, its, n, r, r.length, e⟩

theorem notLongL {n : Nat} (h : n ≤ sizeLine) : Builtin.List.listTooLong n = false := by
  unfold Builtin.List.listTooLong
  exact decide_eq_false (by omega)
end

section
variable {X : Cx}

def rAppend : V → List V → Hp → VK → Prop := fun x vs H Q => ∃ l xs y, x = .ref l ∧ vs = [y] ∧ H l = some (.lst xs) ∧ xs.length < sizeLine ∧ Q .non (upd H l (.lst (xs ++ [y])))
theorem mt_append : MtM X "list.append" rAppend := by
  intro pins s σ H x vs v us Q I rx rv h
  obtain ⟨l, xs, y, rfl, rfl, hH, hz, q⟩ := h
  cases rx
  obtain ⟨u, rfl, ru⟩ := rv.one
  obtain ⟨z, its, n, r, hl, e⟩ := I.lstM hH
  refine call_meets F.slot_list_append ⟨_, e, rfl⟩ F.entry_list_append (F.args_list_append_2 _ _) (PySem.list_append l its.toArray n u (by rw [List.size_toArray]; omega)) ⟨e, ?_⟩
  refine ⟨.non, _, I.lset (its' := its ++ [u]) hH e (by simp) (r.append (.cons ru .nil)) ?_, rfl, q⟩
  rw [List.length_append, List.length_singleton]
  omega

def rExtend : V → List V → Hp → VK → Prop := fun x vs H Q => ∃ l b xs zs, x = .ref l ∧ vs = [.ref b] ∧ H l = some (.lst xs) ∧ H b = some (.lst zs) ∧ xs.length + zs.length ≤ sizeLine ∧ Q .non (upd H l (.lst (xs ++ zs)))
theorem mt_extend : MtM X "list.extend" rExtend := by
  intro pins s σ H x vs v us Q I rx rv h
  obtain ⟨l, b, xs, zs, rfl, rfl, hH, hB, hz, q⟩ := h
  cases rx
  obtain ⟨u, rfl, ru⟩ := rv.one
  cases ru
  obtain ⟨z, its, n, r, hl, e⟩ := I.lstM hH
  obtain ⟨z2, its2, n2, r2, hl2, e2⟩ := I.lstM hB
  have hsz : its.toArray.size + its2.toArray.size ≤ sizeLine := by rw [List.size_toArray, List.size_toArray]; omega
  have hlong : ¬ (!its.toArray.isEmpty && Builtin.List.listTooLong (its.toArray.size + its2.toArray.size)) = true := by
    rw [notLongL hsz, Bool.and_false]
    exact Bool.false_ne_true
  refine call_meets F.slot_list_extend ⟨_, e, rfl⟩ F.entry_list_extend (F.args_list_extend_2 _ _)
    (AutoSeq1.list_extend_list_list_0 l its.toArray n b its2.toArray n2 hlong (by rw [List.size_toArray]; omega) (by omega)) ⟨e, e2, ?_⟩
  refine ⟨.non, _, I.lset (its' := its ++ its2) hH e (by simp) (r.append r2) ?_, rfl, q⟩
  rw [List.length_append]
  omega

def rPop : V → List V → Hp → VK → Prop := fun x vs H Q => ∃ l xs y, x = .ref l ∧ vs = [] ∧ H l = some (.lst xs) ∧ xs[xs.length - 1]? = some y ∧ Q y (upd H l (.lst xs.dropLast))
theorem mt_pop : MtM X "list.pop" rPop := by
  intro pins s σ H x vs v us Q I rx rv h
  obtain ⟨l, xs, y, rfl, rfl, hH, hy, q⟩ := h
  cases rx
  have hus := rv.zero
  subst hus
  obtain ⟨z, its, n, r, hl, e⟩ := I.lstM hH
  obtain ⟨u, hu, ru⟩ := r.get hy
  have hy' : its.toArray[its.toArray.size - 1]? = some u := by
    show its.toArray[its.length - 1]? = some u
    rw [← Array.getElem?_toList, ← hl]
    exact hu
  refine call_meets F.slot_list_pop ⟨_, e, rfl⟩ F.entry_list_pop (F.args_list_pop_1 _) (MeetsSeq.list_pop_last l its.toArray n u hy' (by rw [List.size_toArray]; omega)) ⟨e, ?_⟩
  refine ⟨y, _, I.lset (its' := its.dropLast) hH e ?_ r.dropLast ?_, ru, q⟩
  · show its.toArray.eraseIdxIfInBounds (its.toArray.size - 1) = its.dropLast.toArray
    rw [List.size_toArray, List.eraseIdxIfInBounds_toArray, erase_last]
  · rw [List.length_dropLast]
    omega


def rReverse : V → List V → Hp → VK → Prop := fun x vs H Q => ∃ l xs, x = .ref l ∧ vs = [] ∧ H l = some (.lst xs) ∧ Q .non (upd H l (.lst xs.reverse))
theorem mt_reverse : MtM X "list.reverse" rReverse := by
  intro pins s σ H x vs v us Q I rx rv h
  obtain ⟨l, xs, rfl, rfl, hH, q⟩ := h
  cases rx
  have hus := rv.zero
  subst hus
  obtain ⟨z, its, n, r, hl, e⟩ := I.lstM hH
  refine call_meets F.slot_list_reverse ⟨_, e, rfl⟩ F.entry_list_reverse (F.args_list_reverse_1 _) (AutoSeq1.list_reverse_list_0 l its.toArray n (by rw [List.size_toArray]; omega)) ⟨e, ?_⟩
  refine ⟨.non, _, I.lset (its' := its.reverse) hH e (by simp) r.reverse ?_, rfl, q⟩
  rw [List.length_reverse]
  omega

def rClear : V → List V → Hp → VK → Prop := fun x vs H Q => ∃ l xs, x = .ref l ∧ vs = [] ∧ H l = some (.lst xs) ∧ Q .non (upd H l (.lst []))
theorem mt_clear : MtM X "list.clear" rClear := by
  intro pins s σ H x vs v us Q I rx rv h
  obtain ⟨l, xs, rfl, rfl, hH, q⟩ := h
  cases rx
  have hus := rv.zero
  subst hus
  obtain ⟨z, its, n, r, hl, e⟩ := I.lstM hH
  refine call_meets F.slot_list_clear ⟨_, e, rfl⟩ F.entry_list_clear (F.args_list_clear_1 _) (AutoSeq1.list_clear_list_0 l its.toArray n (by rw [List.size_toArray]; omega)) ⟨e, ?_⟩
  exact ⟨.non, _, I.lset (its' := []) (ys := []) hH e rfl .nil (Nat.zero_le _), rfl, q⟩

def rCat : R2 := fun x y H Q => ∃ l b xs zs, x = .ref l ∧ y = .ref b ∧ H l = some (.lst xs) ∧ H b = some (.lst zs) ∧ xs.length + zs.length ≤ sizeLine ∧ ∀ p, H p = none → Q (.ref p) (upd H p (.lst (xs ++ zs)))
theorem op_cat : OpR X (binaryOp .Add) rCat := by
  intro pins s σ H x y v u Q I rx ry h
  obtain ⟨l, b, xs, zs, rfl, rfl, hH, hB, hz, q⟩ := h
  cases rx
  cases ry
  obtain ⟨z, its, n, r, hl, e⟩ := I.lstM hH
  obtain ⟨z2, its2, n2, r2, hl2, e2⟩ := I.lstM hB
  refine PySem.P.add_list e e2 ?_ (by rw [List.size_toArray, List.size_toArray]; omega)
  have ea : its.toArray ++ its2.toArray = (its ++ its2).toArray := by simp
  rw [ea]
  exact ⟨.ref _, _, I.lnew (t' := s.toks) (r.append r2) (by rw [List.length_append]; omega), rfl, q _ I.fresh⟩

end

section
variable {prog : Program} {w : World} {A : Around} {E : Value → Shared → Prop} {s : Shared}
set_option maxRecDepth 100000 in
end

section
variable {X : Cx}
end
end L2

namespace Att
open PySem PySem.W PySem.Calls PyProof.Rows

theorem ints_of_wellAll {P : Params} {h : Heap} : ∀ (ns : List Int) (vs : List Value), WellAll P h vs (ns.map WData.int) → IntsAre vs ns := by
  intro ns
  induction ns with
  | nil =>
    intro vs w
    rw [List.map_nil] at w
    cases w
    exact .nil
  | cons n ns ih =>
    intro vs w
    rw [List.map_cons] at w
    cases w with
    | cons a b =>
      cases a
      exact .cons _ _ (ih _ b)

theorem script_of {l : OpenLaw} {n : Nat} (hn : l.most = some n) {P : Params} {h : Heap} {args : List WData} {vals : List Value}
    (hpre : l.row.toRowW.claim.pre args = true) (hwl : WellAll P h vals args) :
    ∃ a vs ns, vals = [Value.ref a] ∧ args = [WData.list (ns.map WData.int)] ∧ h.get? a = some { cls := .type "list", data := .seq vs.toArray } ∧ IntsAre vs ns ∧ ns.length ≤ n := by
  have hsh : WShape.hasAll [] args [.list .int] = true := (pre_splitW hpre).1
  have hc : l.pre.holds [] { args := args } = true := (pre_splitW hpre).2
  obtain ⟨d, r, rfl, h1, h2⟩ := hasAllW_cons hsh
  obtain rfl := hasAllW_nil h2
  obtain ⟨xs, rfl, h3⟩ := hasW_list h1
  obtain ⟨ns, rfl⟩ := items_int h3
  have hlen : ns.length ≤ n := by
    unfold OpenLaw.pre at hc
    have h4 : (WTm.not (.lt (.lit (.int (n : Int))) (.len (.arg 0)))).holds [] { args := [.list (ns.map .int)] } = true := by
      have h4 := (holds_andW hc).1
      rw [hn] at h4
      exact h4
    have h5 := condW_of h4 (w_not (w_lt w_lit (w_len_list (w_arg rfl))))
    rw [List.length_map] at h5
    refine Nat.le_of_not_lt fun q => ?_
    have q' : (n : Int) < ((ns.length : Nat) : Int) := by omega
    first
      | (rw [decide_eq_true q'] at h5; exact absurd h5 (by decide))
      | (simp at h5; omega)
  cases hwl with
  | cons w1 w2 =>
    cases w2
    cases w1 with
    | list ho hall => exact ⟨_, _, ns, rfl, rfl, ho, ints_of_wellAll ns _ hall, hlen⟩

theorem post_true (l : OpenLaw) (args : List WData) : l.row.toRowW.claim.post args (.bool true) args = true :=
  postW_of (r := l.row.toRowW) (X := (true == true))
    (show WShape.has [] (.bool true) .bool = true by first | rfl | decide | simp [WShape.has, WShape.arms, WShape.armsAll])
    (show (WTm.eq .res (.lit (.bool true))).value [] { args := args, res := some (.bool true), after := args } = some (.bool (true == true)) from w_eq_bool (w_res rfl) w_lit) rfl


/-- the same from a codeAny of the CALL (for a layer whose function contracts speak of calls) -/
theorem attach_call {l : OpenLaw} {n : Nat} {q : Program} {loose : List Str} {XP : (Str → Option Value) → Heap → Prop} {YP : World → Heap → Prop} {d : DefRec}
    (hn : l.most = some n) (hdf : d.params.defaults = [])
    (call : ∀ (w : World) (s₀ s₁ : Shared) (mg mb : Str → Option Value) (fa : Addr) (o : Obj) (pm cd doc : Value) (a : Addr) (vs : List Value) (ns : List Int),
      Ground q loose [] XP w s₀ mg mb s₁.heap → YP w s₁.heap →
      s₁.heap.get? fa = some o → o.data = .func (docDef d.name d.params d.body d.scope pm cd doc) → s₁.heap.CodeRec cd d.name → mg d.name = some (.ref fa) →
      s₁.heap.get? a = some { cls := .type "list", data := .seq vs.toArray } → IntsAre vs ns → ns.length ≤ n → s₁.gens = #[] →
      codeAny (model l.prog w) callerA (.call (.ref fa) ⟨[.ref a], []⟩) (fun r s' => r = .ok (.ret (.bool true)) ∧ OldK s₁.heap s'.heap ∧ s'.os = s₁.os ∧ AllBare s'.gens) s₁) :
    WalkO q loose XP YP l.row.toRowW d [] (fun f vs => PySem.call f vs) := by
  intro w s₀ s₁ mg mb G Y fa o pm cd doc dV kV ho hd hcd hD hmg hg args vals as hpre hlay hrd hwl hlo
  obtain rfl : dV = .none := Dflts.none hD hdf
  obtain rfl : kV = .none := Dflts.noKw hD
  obtain ⟨a, vs, ns, rfl, rfl, hobj, hints, hlen⟩ := script_of hn hpre hwl
  refine enter_call (codeAny_mono (call w s₀ s₁ mg mb fa o pm cd doc a vs ns G Y ho (fd_plain hd) hcd hmg hobj hints hlen hg) fun r s' hq => ?_)
  obtain ⟨rfl, h2, h3, h4⟩ := hq
  exact ⟨.inl ⟨.bool true, .bool true, [], rfl, fun _ => rfl, .bool true, post_true l _, fun _ => ⟨List.Pairwise.nil, fun _ hm => (nomatch hm)⟩⟩, h2, h3, h4⟩


section
variable {prog : Program} {w : World} {A : Around} {E : Value → Shared → Prop} {s : Shared} {K : Frag}






end
end Att

namespace L2
open PySem PySem.Spec PyProof.Rows

theorem vals_ints : ∀ {vs : List Value} {ns : List Int}, IntsAre vs ns → Vals (ns.map V.int) vs
  | _, _, .nil => .nil
  | _, _, .cons n t h => .cons ⟨t, rfl⟩ (vals_ints h)

/-- nothing is tracked but the script, known to the object (or it is an object of the module) -/
def Only (H : Hp) : Prop := ∀ b, H b = none ∨ ∃ o xs, H b = some (.frz o (.lst xs))

/-- THE HEAD: the law's promise, at the heap behind the top. F, the promise of the law's def, may use that base is part of the heap (so K.In base, base.Ns mainGlobals mg stand in Mod) -/
theorem law_call {P : Program} {w : World} {K : PySem.W.Frag} {mg mb : Str → Option Value} {CX : CXT} {k : Nat} {fa a : Addr} {fd : FuncData} {x : Str} {sp : Sp} {s₁ : Shared} {vs : List Value} {ns : List Int}
    (KX : K.In s₁.heap) (hns : s₁.heap.Ns mainGlobals mg) (hb : s₁.heap.Ns builtinsNs mb) (hbb : ∀ x : Str, x ≠ "__name__" → mb x = bootBuiltins x) (hlim : s₁.heap.NoLimit) (hg : s₁.gens = #[])
    (ha : s₁.heap.get? a = some { cls := .type "list", data := .seq vs.toArray }) (hi : IntsAre vs ns) (hl : ns.length ≤ sizeLine) (hr : Room k callerA)
    (F : ∀ base : Heap, K.In base → base.Ns mainGlobals mg → FnOk P w K mg base CX k fa fd [x] sp) (hbind : ∀ (s : Shared) (u : Value), BindsTo s fd ⟨[u], []⟩ [(x, u)])
    (hsp : ∀ H : Hp, Only H → SqL K H a (ns.map V.int) → sp [.ref a] H (fun v _ => v = .bl true) fun _ _ _ => False)
    (hCX : ∀ H e s', CX [] H s₁ (fun _ _ _ => False) e s' → False) :
    codeAny (model P w) callerA (.call (.ref fa) ⟨[.ref a], []⟩) (fun r s' => r = .ok (.ret (.bool true)) ∧ OldK s₁.heap s'.heap ∧ s'.os = s₁.os ∧ AllBare s'.gens) s₁ := by
  have rv := vals_ints hi
  have lenV := hi.length
  -- from an abstract heap in which nothing but the script may be tracked
  have core : ∀ H : Hp, Only H → SqL K H a (ns.map V.int) → HOk P w H s₁.heap → (∀ b, H b ≠ none → b = a) → (H a ≠ none → K.lookup a = none) →
      codeAny (model P w) callerA (.call (.ref fa) ⟨[.ref a], []⟩) (fun r s' => r = .ok (.ret (.bool true)) ∧ OldK s₁.heap s'.heap ∧ s'.os = s₁.os ∧ AllBare s'.gens) s₁ := by
    intro H hO hS hok hA hK
    have base_of : ∀ {b : Addr} {o : Obj}, s₁.heap.get? b = some o → H b = none → (hidT s₁.heap H).get? b = some o := fun e n => hidT_get e n
    have noA : ∀ {b : Addr} {o : Obj} {es : Array DictEntry} {ep : Nat}, s₁.heap.get? b = some o → o.data = .dict es ep → H b = none := fun {b o es ep} e d => by
      cases q : H b with
      | none => rfl
      | some u =>
        have e' : b = a := hA b (by rw [q]; simp)
        subst e'
        rw [ha] at e; cases e
        have d' : Data.seq vs.toArray _ = Data.dict es ep := d
        cases d'
    have nsK : ∀ {b : Addr} {m : Str → Option Value}, s₁.heap.Ns b m → (hidT s₁.heap H).Ns b m := fun {b m} ⟨o, es, ep, e, d, r⟩ => ⟨o, es, ep, base_of e (noA e d), d, r⟩
    have hKb : K.In (hidT s₁.heap H) := fun b o e => base_of (KX b o e) (by
      cases q : H b with
      | none => rfl
      | some u =>
        have e' : b = a := hA b (by rw [q]; simp)
        subst e'
        rw [hK (by rw [q]; simp)] at e; cases e)
    have hM : Mod K mg (hidT s₁.heap H) := ⟨hKb, nsK hns, ⟨mb, nsK hb, hbb⟩, let ⟨mc, h1, h2⟩ := hlim; ⟨mc, nsK h1, h2⟩⟩
    have e0 : Env0 P w K mg (hidT s₁.heap H) callerA [] s₁ H := ⟨rfl, hM, fun b o e => of_hidT e, Nat.le_of_eq (hidT_size _ _), trivial, fun b hb => absurd (show b ∈ ([] : List Addr) from hb) (by simp), hok, .of_eq hg⟩
    refine codeAny_mono ((F _ hKb (nsK hns)).run callerA [] s₁ H ⟨[.ref a], []⟩ [.ref a] [.ref a] _ _ hr e0 (hbind s₁ (.ref a)) (.cons rfl .nil) (hsp H hO hS)) fun r s' h => ?_
    cases r with
    | error e => exact (hCX H e s' h).elim
    | ok fl =>
      cases fl with
      | next => exact False.elim h
      | brk => exact False.elim h
      | cont => exact False.elim h
      | ret u =>
        obtain ⟨v, H', os, bare, un, hok', r', q⟩ := h
        have q' : v = .bl true := q
        subst q'
        obtain rfl : u = Value.bool true := r'
        refine ⟨rfl, OldK.of_keep fun b o e => ?_, os, bare⟩
        cases q : H b with
        | none => exact un.keep b o e q (by intro z; exact absurd (show b ∈ ([] : List Addr) from z) (by simp)) (by simp)
        | some u =>
          rcases hO b with z | ⟨ob, xs, z⟩
          · rw [q] at z; cases z
          · have z2 := un.frzs b ob _ z
            obtain ⟨e1, _⟩ := hok b _ z
            obtain ⟨e2, _⟩ := hok' b _ z2
            rw [e] at e1; cases e1
            exact e2
  cases hk : K.lookup a with
  | some o =>
    -- the script is one of the module's own objects
    have e := KX a o hk
    rw [ha] at e
    cases e
    refine core (fun _ => none) (fun _ => .inl rfl) (.inr ⟨_, vs.toArray, _, hk, rfl, rfl, rfl, by rw [List.size_toArray, lenV]; exact hl, by simpa using rv⟩) (fun b u z => by have z' : (none : Option HO) = some u := z; cases z') (fun b z => absurd rfl z) fun z => absurd rfl z
  | none =>
    refine core (fun b => if b = a then some (.frz { cls := .type "list", data := .seq vs.toArray } (.lst (ns.map V.int))) else none) (fun b => ?_) (.inl (.inr ⟨{ cls := .type "list", data := .seq vs.toArray }, if_pos rfl⟩)) (fun b u z => ?_) (fun b z => ?_) fun _ => hk
    · by_cases hb : b = a
      · exact .inr ⟨_, _, if_pos hb⟩
      · exact .inl (if_neg hb)
    · by_cases hb : b = a
      · have z' := (if_pos hb).symm.trans z
        cases z'
        subst hb
        exact ⟨ha, by rw [List.length_map]; exact hl, vs, _, rv, ha⟩
      · have z' := (if_neg hb).symm.trans z
        cases z'
    · by_cases hb : b = a
      · exact hb
      · exact absurd (if_neg hb) z
end L2

namespace L2
open PySem PySem.Spec PyProof.Rows


/-- the goal that k_head leaves (case hc), from the law's promise. F gives the function object fd (K's own) once, then the promise over every base -/
theorem walk_of {l : PySem.W.OpenLaw} {n k : Nat} {q : Program} {loose : List Str} {XP : (Str → Option Value) → Heap → Prop} {YP : World → Heap → Prop} {d : DefRec} {K : Params → PySem.W.Frag} {CX : World → CXT} {sp : World → Sp} {x : Str}
    (hn : l.most = some n) (hn2 : n ≤ sizeLine) (hdf : d.params.defaults = []) (hr : Room k callerA)
    (hY : ∀ (w : World) (h : Heap), YP w h → (K w.params).In h)
    (F : ∀ (w : World) (mg : Str → Option Value) (fa : Addr) (h : Heap), (K w.params).In h → h.Ns mainGlobals mg → mg d.name = some (.ref fa) →
      ∃ fd : FuncData, (∀ (s : Shared) (u : Value), BindsTo s fd ⟨[u], []⟩ [(x, u)]) ∧
        ∀ base : Heap, (K w.params).In base → base.Ns mainGlobals mg → FnOk l.prog w (K w.params) mg base (CX w) k fa fd [x] (sp w))
    (hsp : ∀ (w : World) (H : Hp) (a : Addr) (ns : List Int), ns.length ≤ n → Only H → SqL (K w.params) H a (ns.map V.int) → sp w [.ref a] H (fun v _ => v = .bl true) fun _ _ _ => False)
    (hCX : ∀ (w : World) (H : Hp) (s : Shared) (e : Value) (s' : Shared), CX w [] H s (fun _ _ _ => False) e s' → False) :
    PySem.W.WalkO q loose XP YP l.row.toRowW d [] (fun f vs => PySem.call f vs) := by
  refine Att.attach_call hn hdf fun w s₀ s₁ mg mb fa o pm cd doc a vs ns G Y ho hd hcd hmg hobj hints hlen hg => ?_
  have KX := hY w _ Y
  obtain ⟨fd, hb, hF⟩ := F w mg fa _ KX G.T.g hmg
  exact law_call KX G.T.g G.T.b G.T.builtins G.T.nolimit hg hobj hints (Nat.le_trans hlen hn2) hr hF hb (fun H hO hS => hsp w H a ns hlen hO hS) fun H e s' => hCX w H s₁ e s'
end L2

/- THE LAST THEOREM (shape; LID, My.* are yours):
   My.Adr: a structure of the addresses that your layer names (classes, functions); My.Txt K t: a structure (Prop) of the equations over K;
   My.txt_mk : {K} {implicit addresses ..} (e1 : nsIn K mainGlobals "law" = some (some (.ref f))) (e2 : K.lookup f = some ⟨oc, od, .func (fnOf "law" "law" params body scope dV kV doc pm an cdv ct), sl⟩) (e3 : codeIn K cdv "law" = true) .. : ∃ t, My.Txt K t

set_option maxRecDepth 100000 in
set_option maxHeartbeats 0 in
theorem PySem.Challenge.cw_LID_holds : PySem.Challenge.rw_LID.Holds := by
  w_on; o_law; k_head; (case hw => w_witness2)
  k_fill
  refine L2.walk_of (l := PySem.Challenge.rw_LID) (n := 63) (k := 40) (x := "script") (CX := fun w => ..) (sp := fun _ => My.sp_law) rfl (by decide) rfl ⟨rfl, by decide, by decide⟩ (fun w h Y => PySem.W.kIn_of Y) ?F ?S ?C
  case F =>
    intro w mg fa h KX G hmg
    have T : ∃ t, My.Txt (L2.KOf KX) t := by
      dsimp only [L2.KOf]                          -- K must stand as «<heap const> w.params» for k_is
      refine' My.txt_mk ?e1 ?e2 ?e3 ..
      (case e1 => PySem.W.k_is)                    -- in the order: a name -> its address -> its object -> its parts
      (case e2 => PySem.W.k_is)
      ..
    obtain ⟨t, T⟩ := T
    have e0 := hmg.symm.trans (PySem.W.mg_of KX G T.law)
    cases e0                                       -- fa is the law's own address
    exact ⟨_, fun s u => .of_eq rfl, fun base kb nb => My.law_fn T kb nb⟩     -- if «.of_eq rfl» comes too early: refine' ⟨_, ?b, fun base kb nb => My.law_fn T kb nb⟩; exact fun s u => .of_eq rfl
  case S => exact fun w H a ns hl hO hS => ..
  case C => exact ..
(the tactic k_is has no namespace: write k_is) -/

namespace L2
open PySem PySem.Spec PyProof.Rows

def defArgs (s : Stmt) : Arguments := match s with
  | .FunctionDef _ a _ _ _ _ _ _ _ _ => a
  | _ => { posonlyargs := [], args := [], vararg := none, kwonlyargs := [], kw_defaults := [], kwarg := none, defaults := [] }
def defBody (s : Stmt) : List Stmt := match s with
  | .FunctionDef _ _ b _ _ _ _ _ _ _ => b
  | _ => []
def defScope (s : Stmt) : Scope := match s with
  | .FunctionDef _ _ _ _ _ _ sc _ _ _ => sc
  | _ => { kind := .function, names := [], isGenerator := false, isCoroutine := false }

abbrev CX0 : CXT := fun _ _ _ _ _ _ => False
abbrev E0 : XK := fun _ _ _ => False
theorem pass0 {X : Cx} : Passes CX0 X E0 := fun _ _ _ _ _ _ _ h => h.elim

structure Fun (K : PySem.W.Frag) (x qual : Str) (st : Stmt) (f : Addr) (fd : FuncData) : Prop where
  ex : ∃ (oc : Value) (od : Option Addr) (kV doc pm : Value) (an : Option Addr) (cdv ct : Value) (osl : Array (Option Value)),
    fd = PySem.W.fnOf x qual (defArgs st) (defBody st) (defScope st) .none kV doc pm an cdv ct ∧ K.lookup f = some ⟨oc, od, .func fd, osl⟩ ∧ PySem.W.codeIn K cdv qual = true
  kp : PySem.W.keepIn K (.ref f) = true
section
variable {P : Program} {w : World} {K : PySem.W.Frag} {mg : Str → Option Value} {base : Heap}
/-- THE RULE for a def: its body as a term of rules, and the reading of that term -/
theorem Fun.ok {x qual : Str} {st : Stmt} {f : Addr} {fd : FuncData} {N ps : List Str} {k : Nat} {sp : Sp} (F : Fun K x qual st f fd) (S : FnScope N ps (defScope st)) (len : ∀ vs H Q E, sp vs H Q E → vs.length = ps.length)
    (hbody : ∀ (cdv : Value) (A : Around) (outer : List Env) (s : Shared) (H : Hp) (vs : List V) (Q : VK) (E : XK), Room k (A.deeper (envOfC qual (defScope st) s.heap.objs.size f cdv)) → sp vs H Q E →
      ∃ t, PSs (cxOf CX0 P w K mg base N qual (defScope st) f cdv A outer s H E).nox (defBody st) t ∧ t { nx := fun _ H' => Q .non H', rt := Q } (start N vs) H) : FnOk P w K mg base CX0 (k + 1) f fd ps sp := by
  obtain ⟨oc, od, kV, doc, pm, an, cdv, ct, osl, rfl, lk, hcd⟩ := F.ex
  refine fn_of lk hcd S len fun A outer s H vs Q E hr hsp => ?_
  obtain ⟨t, h, q⟩ := hbody cdv A outer s H vs Q E hr hsp
  exact ⟨t, h.nox, q⟩
/-- how its arguments bind (no defaults): h is «fun _ _ _ _ _ _ us hl => match us, hl with | [_, _], _ => rfl», one _ a parameter -/
theorem Fun.binds {x qual : Str} {st : Stmt} {f : Addr} {fd : FuncData} {ps : List Str} (F : Fun K x qual st f fd)
    (h : ∀ (kV doc pm : Value) (an : Option Addr) (cdv ct : Value) (us : List Value), us.length = ps.length → bindArgs (PySem.W.fnOf x qual (defArgs st) (defBody st) (defScope st) .none kV doc pm an cdv ct) ⟨us, []⟩ = pure (ps.zip us)) : Binds K fd ps [] := by
  obtain ⟨oc, od, kV, doc, pm, an, cdv, ct, osl, rfl, lk, hcd⟩ := F.ex
  exact .all (h kV doc pm an cdv ct)
theorem fun_mk {x qual : Str} {st : Stmt} {f : Addr} {oc : Value} {od an : Option Addr} {osl : Array (Option Value)} {kV doc pm cdv ct : Value} (l : K.lookup f = some ⟨oc, od, .func (PySem.W.fnOf x qual (defArgs st) (defBody st) (defScope st) .none kV doc pm an cdv ct), osl⟩)
    (c : PySem.W.codeIn K cdv qual = true) (k : PySem.W.keepIn K (.ref f) = true) : Fun K x qual st f (PySem.W.fnOf x qual (defArgs st) (defBody st) (defScope st) .none kV doc pm an cdv ct) := ⟨⟨oc, od, kV, doc, pm, an, cdv, ct, osl, rfl, l, c⟩, k⟩
end

section
variable {X : Cx}
theorem pv (i : Nat) {x : Str} {pos : Pos} (hN : X.N[i]? = some x := by rfl) (hv : Vis X.env.scope x := by first | exact Or.inl rfl | exact Or.inr (Or.inl rfl) | exact Or.inr (Or.inr rfl)) (hd : (x == ("__debug__" : Str)) = false := by decide)
    (hcd : (x == ("__classdict__" : Str)) = false := by decide) : PE X (.Name x pos) (tVar i) := pe_var hN hv hd hcd
end

theorem iteF {A B : Prop} (h : B) : if false = true then A else B := by
  rw [if_neg Bool.false_ne_true]
  exact h
theorem iteT {A B : Prop} (h : A) : if true = true then A else B := by
  rw [if_pos rfl]
  exact h
theorem ite2 {c A B : Prop} [Decidable c] (h1 : c → A) (h2 : ¬ c → B) : if c then A else B := by
  by_cases h : c
  · rw [if_pos h]
    exact h1 h
  · rw [if_neg h]
    exact h2 h
theorem iteNS {c A B : Prop} [Decidable c] (hc : c) (h : B) : if (!decide c) = true then A else B := by
  rw [decide_eq_true hc]
  exact iteF h

/-- all that was tracked is as it was -/
def Same (H H' : Hp) : Prop := ∀ b o, H b = some o → H' b = some o
theorem Same.trans {H H1 H2 : Hp} (a : Same H H1) (b : Same H1 H2) : Same H H2 := fun c o h => b c o (a c o h)
theorem Same.free {H H' : Hp} (e : Same H H') {l : Addr} (h : H' l = Option.none) : H l = Option.none := by
  cases q : H l with
  | none => rfl
  | some o =>
    rw [e l o q] at h
    cases h
theorem Same.seq {K : PySem.W.Frag} {H H' : Hp} {a : Addr} {xs : List V} (e : Same H H') (h : SqL K H a xs) : SqL K H' a xs := by
  rcases h with (h | ⟨o, h⟩) | h
  · exact .inl (.inl (e _ _ h))
  · exact .inl (.inr ⟨o, e _ _ h⟩)
  · exact .inr h

end L2

-- CHANGE: your row's module here, as the last of these rows
set_option Elab.async false
set_option linter.all false
set_option maxRecDepth 100000
namespace L2
open PySem PySem.Spec PyProof.Rows

end L2

namespace L2
open PySem PySem.Spec PyProof.Rows

section
variable (P : Program) (w : World)
end

section
variable {P : Program} {w : World} {H H' : Hp} {h h' : Heap} {a : Addr} {o : HO}
end

section
variable {P : Program} {w : World} {H : Hp} {h h' : Heap} {x e : Addr} {o' : HO}
end

section
variable {fs fs' ex ex' : List Addr} {H H1 H2 : Hp} {h h1 h2 h' : Heap} {a x e : Addr} {o : HO}
end

end L2

namespace L2
open PySem PySem.Spec PyProof.Rows

section
variable {X : Cx} {pins : List (Addr × Obj)} {σ : List (Option V)} {H H' : Hp} {s : Shared} {h' : Heap}

end

end L2

namespace L2
open PySem PySem.Spec PyProof.Rows
section
variable {X : Cx}

variable {a b : Expr} {ta tb : TE} {pos : Pos}
variable {tA tB' : TT} {rest : List Expr}
end
end L2

namespace L2
open PySem PySem.Spec PyProof.Rows

section
variable {X : Cx} {pins : List (Addr × Obj)} {σ : St} {H : Hp} {s : Shared} {a : Addr} {xs ys : List V}
end

section
variable {X : Cx} {pins : List (Addr × Obj)} {σ : St} {H : Hp} {s : Shared} {E : Value → Shared → Prop}
end

section
variable {X : Cx} {st : Stmt} {rest : List Stmt} {t u : TS} {e : Expr} {te : TE} {pos : Pos}
end

section
variable {X : Cx} {pos : Pos}
end

section
variable {X : Cx} {pos : Pos}
end

end L2

namespace L2
open PySem PySem.Spec PyProof.Rows
section
variable {X : Cx} {tg : Expr}
end

end L2

namespace L2
open PySem PySem.Spec PyProof.Rows

section
variable {X : Cx} {a b c : Expr} {ta tb tc : TE} {pos : Pos}

end

section
variable {X : Cx} {a b c : Expr} {ta tb tc : TE} {pos : Pos}
end
end L2

namespace L2
open PySem PySem.Spec PyProof.Rows

section
variable {prog : Program} {w : World} {A : Around} {E : Value → Shared → Prop} {s : Shared} {K : PySem.W.Frag} {x dx C f : Addr} {mA : Str → Option Value} {name : Str} {v : Value}

end

section
variable {P : Program} {w : World} {H H' : Hp} {h h' : Heap} {a C dx : Addr} {fs fs' : List (Str × V)}
end

section
variable {X : Cx} {pins : List (Addr × Obj)} {σ : St} {H : Hp} {s : Shared} {a C dx : Addr} {fs : List (Str × V)} {f : Str} {v : V} {A : Around} {E : Value → Shared → Prop}

end

section
variable {X : Cx} {o e value : Expr} {f : Str} {pos pos' tpos : Pos} {ta tv : TE}
end

section
variable {X : Cx} {pins : List (Addr × Obj)} {σ : St} {H : Hp} {s : Shared} {A : Around} {E : Value → Shared → Prop} {Q : Value → Shared → Prop} {c : Value} {b : Bool}
end
end L2

namespace L2
open PySem PySem.Spec PyProof.Rows

section
variable {X : Cx} {e : Expr} {es : List Expr} {te : TE} {t : TA} {pos : Pos}
end

section
variable {X : Cx} {pins : List (Addr × Obj)} {σ : St} {H : Hp} {s s' : Shared}
end

section
variable {X : Cx} {CX : CXT} {k : Nat} {f C : Addr} {fd : FuncData} {ps : List Str} {sp : Sp} {dvs : List V} {ds : List Value} {E : XK} {x m : Str} {p pos apos : Pos} {e o : Expr} {es : List Expr} {ta : TE} {t : TA}

end

section
variable {X : Cx} {CX : CXT} {k : Nat} {f C : Addr} {fd : FuncData} {ps ks : List Str} {sp : Sp} {E : XK} {x m : Str} {p pos apos kpos : Pos} {e o : Expr} {es : List Expr} {kws : List Keyword} {te ta : TE} {t tk : TA} {nm : Option Str}
variable {g : List Value → List Value → List Value} {gV : List V → List V → List V}
end

end L2

namespace L2
open PySem PySem.Spec PyProof.Rows
section
variable {X : Cx} {x : Str} {p pos : Pos} {e : Expr} {es : List Expr} {t : TA} {id T : String} {r : List V → Hp → VK → Prop}

end
end L2

namespace L2
open PySem PySem.Spec PyProof.Rows

section
variable {κ : Type} [DecidableEq κ]



end




section
variable {P : Program} {w : World} {H : Hp} {h : Heap} {a : Addr}
end



section
variable {X : Cx} {pins : List (Addr × Obj)} {σ : St} {H : Hp} {s : Shared} {a : Addr} {y v : V} {u r : Value} {o : Option V} {A : Around} {E : Value → Shared → Prop}


end

section
variable {X : Cx} {pins : List (Addr × Obj)} {σ : St} {H : Hp} {s : Shared} {a : Addr} {kvs : List (Key × V)} {k : Key} {u : Value} {A : Around} {E : Value → Shared → Prop}
end





section
variable {X : Cx} {o i e value : Expr} {pos pos' tpos : Pos} {td ty tv : TE}
end


section
variable {X : Cx} {pos : Pos}
end






section
variable {X : Cx} {pins : List (Addr × Obj)} {σ : St} {H : Hp} {s : Shared} {a : Addr} {y d : V} {u r : Value} {o : Option V} {A : Around} {E : Value → Shared → Prop}
end

section
variable {X : Cx} {o e f : Expr} {apos cpos : Pos} {td ty tx : TE}
end

section
variable {X : Cx} {pins : List (Addr × Obj)} {σ : St} {H : Hp} {s : Shared} {a : Addr} {kvs : List (Key × V)} {A : Around} {E : Value → Shared → Prop}
end


section
variable {X : Cx} {pins : List (Addr × Obj)} {σ : St} {H : Hp} {s : Shared} {a : Addr} {y : V} {u : Value} {A : Around} {E : Value → Shared → Prop}
end
end L2

namespace Att
open PySem PySem.W PySem.Calls PyProof.Rows

section
variable {prog : Program} {w : World} {A : Around} {E : Value → Shared → Prop} {s : Shared} {K : Frag}

end
end Att

namespace L2
open PySem PySem.Spec PyProof.Rows

end L2

namespace L2
open PySem PySem.Spec PyProof.Rows

end L2

/- THE LAST THEOREM (shape; LID, My.* are yours):
   My.Adr: a structure of the addresses that your layer names (classes, functions); My.Txt K t: a structure (Prop) of the equations over K;
   My.txt_mk : {K} {implicit addresses ..} (e1 : nsIn K mainGlobals "law" = some (some (.ref f))) (e2 : K.lookup f = some ⟨oc, od, .func (fnOf "law" "law" params body scope dV kV doc pm an cdv ct), sl⟩) (e3 : codeIn K cdv "law" = true) .. : ∃ t, My.Txt K t

set_option maxRecDepth 100000 in
set_option maxHeartbeats 0 in
theorem PySem.Challenge.cw_LID_holds : PySem.Challenge.rw_LID.Holds := by
  w_on; o_law; k_head; (case hw => w_witness2)
  k_fill
  refine L2.walk_of (l := PySem.Challenge.rw_LID) (n := 63) (k := 40) (x := "script") (CX := fun w => ..) (sp := fun _ => My.sp_law) rfl (by decide) rfl ⟨rfl, by decide, by decide⟩ (fun w h Y => PySem.W.kIn_of Y) ?F ?S ?C
  case F =>
    intro w mg fa h KX G hmg
    have T : ∃ t, My.Txt (L2.KOf KX) t := by
      dsimp only [L2.KOf]                          -- K must stand as «<heap const> w.params» for k_is
      refine' My.txt_mk ?e1 ?e2 ?e3 ..
      (case e1 => PySem.W.k_is)                    -- in the order: a name -> its address -> its object -> its parts
      (case e2 => PySem.W.k_is)
      ..
    obtain ⟨t, T⟩ := T
    have e0 := hmg.symm.trans (PySem.W.mg_of KX G T.law)
    cases e0                                       -- fa is the law's own address
    exact ⟨_, fun s u => .of_eq rfl, fun base kb nb => My.law_fn T kb nb⟩     -- if «.of_eq rfl» comes too early: refine' ⟨_, ?b, fun base kb nb => My.law_fn T kb nb⟩; exact fun s u => .of_eq rfl
  case S => exact fun w H a ns hl hO hS => ..
  case C => exact ..
(the tactic k_is has no namespace: write k_is) -/

namespace L2
open PySem PySem.Spec PyProof.Rows

section
variable {P : Program} {w : World} {K : PySem.W.Frag} {mg : Str → Option Value} {base : Heap}
end
section
variable {X : Cx}
end

section
variable {κ : Type} [DecidableEq κ]
end
end L2


set_option Elab.async false
set_option linter.all false
set_option maxRecDepth 100000
set_option maxHeartbeats 4000000
namespace L2
open PySem PySem.Spec PyProof.Rows
def Fn (P : Program) (w : World) (K : PySem.W.Frag) (mg : Str → Option Value) (base : Heap) (k : Nat) (x : Str) (ps : List Str) (sp : Sp) : Prop :=
  ∃ (f : Addr) (fd : FuncData), FnOk P w K mg base CX0 k f fd ps sp ∧ Binds K fd ps [] ∧ PySem.W.keepIn K (.ref f) = true ∧ mg x = some (.ref f)
section
variable {X : Cx} {k : Nat} {x : Str} {ps : List Str} {sp : Sp} {p pos : Pos} {e : Expr} {es : List Expr} {t : TA}
theorem pe_callG (F : Fn X.prog X.w X.K X.mg X.base k x ps sp) (hr : Room k X.A) (hg : Gl X x) (ha : PA X (e :: es) t) (hdb : (x == ("__debug__" : Str)) = false := by decide)
    (he : starEach (e :: es) X.env = (false, eval e X.env) :: starEach es X.env := by rfl) (hpl : (backTo pos (starEach es X.env)).any (·.1) = false := by rfl) :
    PE X (.Call (.Name x p) (e :: es) [] pos) (tCall sp [] E0 t) := by
  obtain ⟨f, fd, G, b, kp, m⟩ := F
  exact pe_call G hr hg m kp b .nil pass0 ha hdb he hpl
end
theorem hu64 {A : Around} {k : Nat} (hr : Room k A) : A.units + 64 < cLine := hr.units
theorem bt_int : bootBuiltins "int" = some (.type "int") := by decide +kernel
theorem bt_bool : bootBuiltins "bool" = some (.type "bool") := by decide +kernel
theorem bt_list : bootBuiltins "list" = some (.type "list") := by decide +kernel
theorem bt_tuple : bootBuiltins "tuple" = some (.type "tuple") := by decide +kernel
theorem bt_len : bootBuiltins "len" = some (.builtin "len") := by decide +kernel
theorem bt_isinstance : bootBuiltins "isinstance" = some (.builtin "isinstance") := by decide +kernel
theorem bt_sorted : bootBuiltins "sorted" = some (.builtin "sorted") := by decide +kernel
theorem bt_min : bootBuiltins "min" = some (.builtin "min") := by decide +kernel
theorem kit_same (K : PySem.W.Frag) (T : String) : PySem.W.kitOne K (.type T) (.type T) = some true := by
  unfold PySem.W.kitOne
  rw [if_pos (beq_self_eq_true _)]
end L2

set_option Elab.async false
set_option linter.all false
set_option maxRecDepth 100000
set_option maxHeartbeats 4000000
namespace L2
open PySem PySem.Spec PyProof.Rows

def Tp (H : Hp) (v : V) (ns : List Int) : Prop := ∃ p, v = .ref p ∧ H p = some (.tup (ns.map V.int))
abbrev Tps (H : Hp) (vs : List V) (nss : List (List Int)) : Prop := Paired (Tp H) vs nss
theorem Tp.mono {H H' : Hp} {v : V} {ns : List Int} (s : Same H H') (t : Tp H v ns) : Tp H' v ns := let ⟨p, e, h⟩ := t; ⟨p, e, s _ _ h⟩
theorem Tps.mono {H H' : Hp} {vs : List V} {nss : List (List Int)} (s : Same H H') (t : Tps H vs nss) : Tps H' vs nss := Paired.mapP t fun _ _ z => z.mono s
theorem Same.new {H : Hp} {p : Addr} (h : H p = none) (o : HO) : Same H (upd H p o) := fun b u q => by rw [upd_ne (ne_of_none q h)]; exact q

def RdD (X : Cx) (H : Hp) (v : V) (d : PyData) : Prop := ∀ (pins : List (Addr × Obj)) (σ : St) (s : Shared) (u : Value), Inv X pins σ H s → RelV v u → ∃ as, Reads s.heap u d as
section
variable {X : Cx} {H : Hp}
theorem rd_int (i : Int) : RdD X H (.int i) (.int i) := fun _ _ s u _ r => by
  obtain ⟨t, rfl⟩ := (show ∃ t, u = Value.int i t from r)
  exact ⟨_, .int i t⟩
theorem rdAll {pins : List (Addr × Obj)} {σ : St} {s : Shared} (I : Inv X pins σ H s) : ∀ {xs : List V} {ds : List PyData} {us : List Value}, Paired (RdD X H) xs ds → Vals xs us → ∃ as, ReadsAll s.heap us ds as
  | _, _, _, .nil, .nil => ⟨_, .nil⟩
  | _, _, _, .cons r t, .cons q z => by
    obtain ⟨as, h1⟩ := r pins σ s _ I q
    obtain ⟨bs, h2⟩ := rdAll I t z
    exact ⟨_, .cons h1 h2⟩
theorem rd_tup {p : Addr} {xs : List V} {ds : List PyData} (h : SqT X.K H p xs) (r : Paired (RdD X H) xs ds) : RdD X H (.ref p) (.tuple ds) := fun pins σ s u I ru => by
  cases (show u = Value.ref p from ru)
  obtain ⟨its, rv, ⟨o, ho, hc, n, hd⟩, _⟩ := I.tuple h
  obtain ⟨as, q⟩ := rdAll I r rv
  exact ⟨_, .tuple ho hc hd (by simpa using q)⟩
theorem rd_lst {p : Addr} {xs : List V} {ds : List PyData} (h : SqL X.K H p xs) (r : Paired (RdD X H) xs ds) : RdD X H (.ref p) (.list ds) := fun pins σ s u I ru => by
  cases (show u = Value.ref p from ru)
  obtain ⟨its, rv, ⟨o, n, ho, hc, _, hd⟩, _⟩ := I.list h
  obtain ⟨as, q⟩ := rdAll I r rv
  exact ⟨_, .list ho hc hd (by simpa using q)⟩
theorem rd_ints : ∀ ns : List Int, Paired (RdD X H) (ns.map V.int) (ns.map PyData.int)
  | [] => .nil
  | i :: r => .cons (rd_int i) (rd_ints r)
def tD (ns : List Int) : PyData := .tuple (ns.map .int)
def ltD (nss : List (List Int)) : PyData := .list (nss.map tD)
theorem rd_tp {v : V} {ns : List Int} (h : Tp H v ns) : RdD X H v (tD ns) := by
  obtain ⟨p, rfl, h⟩ := h
  exact rd_tup (SqT.of h) (rd_ints ns)
theorem rd_tps : ∀ {vs : List V} {nss : List (List Int)}, Tps H vs nss → Paired (RdD X H) vs (nss.map tD)
  | _, _, .nil => .nil
  | _, _, .cons r t => .cons (rd_tp r) (rd_tps t)
theorem rd_lt {p : Addr} {vs : List V} {nss : List (List Int)} (h : SqL X.K H p vs) (r : Tps H vs nss) : RdD X H (.ref p) (ltD nss) := rd_lst h (rd_tps r)
end
theorem canI : ∀ ns : List Int, PyData.canLayAll0 (ns.map PyData.int) = true
  | [] => rfl
  | _ :: r => by simp [PyData.canLayAll0, PyData.canLay0, canI r]
theorem depI : ∀ ns : List Int, PyData.depthAll (ns.map PyData.int) = 0
  | [] => rfl
  | _ :: r => by simp [PyData.depthAll, PyData.depth, depI r]
theorem can_tD (ns : List Int) : (tD ns).canLay0 = true := by simp [tD, PyData.canLay0, canI]
theorem dep_tD (ns : List Int) : (tD ns).depth ≤ 1 := by simp [tD, PyData.depth, depI]
theorem canT : ∀ nss : List (List Int), PyData.canLayAll0 (nss.map tD) = true
  | [] => rfl
  | x :: r => by simp [PyData.canLayAll0, can_tD x, canT r]
theorem depT : ∀ nss : List (List Int), PyData.depthAll (nss.map tD) ≤ 1
  | [] => by simp [PyData.depthAll]
  | x :: r => by
    have h1 := dep_tD x
    have h2 := depT r
    simp only [List.map_cons, PyData.depthAll]
    omega
theorem can_ltD (nss : List (List Int)) : (ltD nss).canLay0 = true := by simp [ltD, PyData.canLay0, canT]
theorem dep_ltD (nss : List (List Int)) : (ltD nss).depth ≤ 2 := by
  have h := depT nss
  simp only [ltD, PyData.depth]
  omega
theorem shaped_of {d : PyData} (h1 : d.canLay0 = true) (h2 : d.depth ≤ 64) : SeqAt.shaped d = true := by simp [SeqAt.shaped, h1, h2]
theorem sh_tD (ns : List Int) : SeqAt.shaped (tD ns) = true := shaped_of (can_tD ns) (Nat.le_trans (dep_tD ns) (by decide))
theorem sh_ltD (nss : List (List Int)) : SeqAt.shaped (ltD nss) = true := shaped_of (can_ltD nss) (Nat.le_trans (dep_ltD nss) (by decide))
theorem eqvI : ∀ ns ms : List Int, PyData.eqvAll (ns.map PyData.int) (ms.map PyData.int) = decide (ns = ms)
  | [], [] => by simp [PyData.eqvAll]
  | [], _ :: _ => by simp [PyData.eqvAll]
  | _ :: _, [] => by simp [PyData.eqvAll]
  | a :: r, b :: t => by
    simp only [List.map_cons, PyData.eqvAll, PyData.eqv, eqvI r t]
    by_cases h : a = b <;> by_cases h' : r = t <;> simp [h, h']
theorem eqv_tD (a b : List Int) : PyData.eqv (tD a) (tD b) = decide (a = b) := by simp only [tD, PyData.eqv]; exact eqvI a b
theorem eqvT : ∀ a b : List (List Int), PyData.eqvAll (a.map tD) (b.map tD) = decide (a = b)
  | [], [] => by simp [PyData.eqvAll]
  | [], _ :: _ => by simp [PyData.eqvAll]
  | _ :: _, [] => by simp [PyData.eqvAll]
  | a :: r, b :: t => by
    simp only [List.map_cons, PyData.eqvAll, eqv_tD, eqvT r t]
    by_cases h : a = b <;> by_cases h' : r = t <;> simp [h, h']
theorem eqv_ltD (a b : List (List Int)) : PyData.eqv (ltD a) (ltD b) = decide (a = b) := by simp only [ltD, PyData.eqv]; exact eqvT a b
theorem any_tD : ∀ (nss : List (List Int)) (ns : List Int), ((nss.map tD).any fun y => PyData.eqv y (tD ns)) = decide (ns ∈ nss)
  | [], ns => by simp
  | x :: r, ns => by
    rw [List.map_cons, List.any_cons, eqv_tD, any_tD r ns]
    by_cases h : x = ns <;> by_cases h' : ns ∈ r <;> simp [h, h', eq_comm]

section
variable {X : Cx}
theorem op_neD (hu : X.A.units + 64 < cLine) : OpR X (compareOp .NotEq) (fun x y H Q => ∃ d e, RdD X H x d ∧ RdD X H y e ∧ SeqAt.shaped d = true ∧ SeqAt.shaped e = true ∧ Q (.bl (!PyData.eqv d e)) H) := by
  intro pins s σ H x y v u Q I rx ry h
  obtain ⟨d, e, hd, he, sd, se, q⟩ := h
  obtain ⟨as, ra⟩ := hd pins σ s v I rx
  obtain ⟨bs, rb⟩ := he pins σ s u I ry
  exact ne_dataH ra rb sd se hu ⟨.bl _, H, I, rfl, q⟩
/-- a tuple of ints in a list of such -/
theorem op_inT (hu : X.A.units + 64 < cLine) : OpR X (compareOp .In) (fun x y H Q => ∃ ns nss, Tp H x ns ∧ RdD X H y (ltD nss) ∧ Q (.bl (decide (ns ∈ nss))) H) := by
  intro pins s σ H x y v u Q I rx ry h
  obtain ⟨ns, nss, hd, he, q⟩ := h
  obtain ⟨as, ra⟩ := rd_tp (X := X) hd pins σ s v I rx
  obtain ⟨bs, rb⟩ := he pins σ s u I ry
  refine SeqAt.in_list_reads rb ra (canT nss) (can_tD ns) (by have := depT nss; have := dep_tD ns; omega) ?_
  rw [any_tD]
  exact ⟨.bl _, H, I, rfl, q⟩
theorem op_notInT (hu : X.A.units + 64 < cLine) : OpR X (compareOp .NotIn) (fun x y H Q => ∃ ns nss, Tp H x ns ∧ RdD X H y (ltD nss) ∧ Q (.bl (!decide (ns ∈ nss))) H) := by
  intro pins s σ H x y v u Q I rx ry h
  obtain ⟨ns, nss, hd, he, q⟩ := h
  obtain ⟨as, ra⟩ := rd_tp (X := X) hd pins σ s v I rx
  obtain ⟨bs, rb⟩ := he pins σ s u I ry
  refine SeqAt.notIn_list_reads rb ra (canT nss) (can_tD ns) (by have := depT nss; have := dep_tD ns; omega) ?_
  rw [any_tD]
  exact ⟨.bl _, H, I, rfl, q⟩
def rNeT : R2 := fun x y H Q => ∃ ns ms, Tp H x ns ∧ Tp H y ms ∧ Q (.bl (!decide (ns = ms))) H
theorem op_neT (hu : X.A.units + 64 < cLine) : OpR X (compareOp .NotEq) rNeT := fun pins s σ H x y v u Q I rx ry ⟨ns, ms, a, b, q⟩ =>
  op_neD hu pins s σ H x y v u Q I rx ry ⟨_, _, rd_tp a, rd_tp b, sh_tD _, sh_tD _, by rw [eqv_tD]; exact q⟩
def rNeLT (X : Cx) : R2 := fun x y H Q => ∃ a b, RdD X H x (ltD a) ∧ RdD X H y (ltD b) ∧ Q (.bl (!decide (a = b))) H
theorem op_neLT (hu : X.A.units + 64 < cLine) : OpR X (compareOp .NotEq) (rNeLT X) := fun pins s σ H x y v u Q I rx ry ⟨ns, ms, a, b, q⟩ =>
  op_neD hu pins s σ H x y v u Q I rx ry ⟨_, _, a, b, sh_ltD _, sh_ltD _, by rw [eqv_ltD]; exact q⟩
theorem call_isinst : CallR X (.builtin "isinstance") (fun xs H Q => ∃ x t n b, xs = [x, .ty n] ∧ TyOf X.K H x t ∧ PySem.W.kitOne X.K t (.type n) = some b ∧ Q (.bl b) H) := by
  intro pins s σ H xs us Q I r h
  obtain ⟨x, t, n, b, rfl, ty, e, q⟩ := h
  obtain ⟨u, w', rfl, ru, rw'⟩ := vals2 r
  cases (show w' = Value.type n from rw')
  exact isinst_ok I ru ty e fun tk => ⟨.bl b, H, I.tok tk, rfl, q⟩
end
section
variable {X : Cx} {pins : List (Addr × Obj)} {σ : List (Option V)} {H : Hp} {s : Shared} {h' : Heap}
theorem Inv.turnedNew {t' : Nat} {ch : List Addr} {p : Addr} {o : HO} (I : Inv X pins σ H s) (hf : ∀ b ∈ ch, FpOk X pins H b) (k : ∀ b o, b ∉ ch → s.heap.get? b = some o → h'.get? b = some o)
    (hp : s.heap.objs.size ≤ p) (new : ObjOk X.prog X.w (upd H p o) h' p o) : Inv X pins σ (upd H p o) { s with heap := h', toks := t' } := by
  have hn : H p = none := I.hok.fresh hp
  have nch : ∀ b u, H b = some u → b ∉ ch := fun b u e z => by rw [(hf b z).1] at e; cases e
  refine I.step (g' := s.gens) (d' := s.drawn) (ch := ch) (fun b hb => ?_) (fun b o _ _ hc e _ => k b o hc e) (fun b o _ _ hc e _ => ⟨o.slots, k b o hc e⟩) (fun b o hc e n => ?_) (fun b o hc e => ⟨o, k b o hc e⟩)
    (fun b xs e => by rw [upd_ne (ne_of_none e hn)]; exact e) (fun b o u e => by rw [upd_ne (ne_of_none e hn)]; exact e) (fun b ps e => ⟨#[], by rw [upd_ne (ne_of_none e hn), e]; simp⟩) (fun m hm => ?_) ?_ I.bare
  · obtain ⟨_, f1, _, f3, f4, f5⟩ := hf b hb
    exact ⟨f3, f1, f4, f5⟩
  · rw [upd_ne (Nat.ne_of_lt (Nat.lt_of_lt_of_le (Heap.lt_size e) hp))]; exact n
  · obtain ⟨o, es, ep, ho, r⟩ := hm
    exact ⟨o, es, ep, k _ o (fun z => (hf _ z).2.1 rfl) ho, r⟩
  · intro b u e
    by_cases hb : b = p
    · subst hb; rw [upd_same] at e; cases e; exact new
    · rw [upd_ne hb] at e
      refine (I.hok b u e).stay (fun c v hc q => k c v ?_ q) (fun c q => by rw [upd_ne (ne_of_none q hn)]; exact q) fun c xs q => by rw [upd_ne (ne_of_none q hn)]; exact q
      rcases hc with z | z
      · rw [z]; exact nch b u e
      · exact nch c _ z
end
def Ite (K : PySem.W.Frag) (a : Addr) : It :=
  ⟨fun i H => ∃ xs x, SqL K H a xs ∧ xs[i]? = some x, fun i H x H' => ∃ p y, H p = none ∧ x = .ref p ∧ H' = upd H p (.tup [.int (i : Int), y]) ∧ ∀ xs, SqL K H a xs → xs[i]? = some y, fun i H => ∃ xs, SqL K H a xs ∧ xs.length ≤ i⟩
theorem turn_enum {P : Program} {w : World} {K : PySem.W.Frag} {elts : List Expr} {x1 : Nat} {pos : Pos} (a e it : Addr) (hne : e ≠ it) :
    Turn P w K (.Tuple elts x1 pos) (Ite K a) [e, it] e (fun i h => (∃ old, IsEnum h e it i old) ∧ h.IsListIter it a i) where
  mem := by simp
  obj := fun i h st b hb => by
    obtain ⟨⟨old, he⟩, hi⟩ := st
    have q : b = e ∨ b = it := by simpa using hb
    rcases q with rfl | rfl
    · exact ⟨_, he, fun v z => by cases z⟩
    · obtain ⟨o, e, c, d⟩ := hi
      exact ⟨o, e, fun v z => by rw [d] at z; cases z⟩
  keep := fun i h h' st k => by
    obtain ⟨⟨old, he⟩, hi⟩ := st
    exact ⟨⟨old, k e (by simp) _ he⟩, hi.at fun o q => k it (by simp) o q⟩
  item := by
    intro X hP hw hK hc i pins s σ H E I hf st hg
    subst hP hw hK
    obtain ⟨⟨old, he⟩, hi⟩ := st
    obtain ⟨xs, x, hq, hx⟩ := hg
    obtain ⟨its, rv, p, hz⟩ := I.list hq
    obtain ⟨u, hu, ru⟩ := rv.get hx
    have lte : e < s.heap.objs.size := Heap.lt_size he
    have lti : it < s.heap.objs.size := by obtain ⟨o, e, _⟩ := hi; exact Heap.lt_size e
    refine wpAny_pyNext_enum_item he hi p.isList (x := u) (by simpa using hu) hne fun h' ho hi' ht hsz hk => ?_
    refine ⟨_, rfl, wpAny_letOwnedTupleGo_enum ho fun h'' he'' sb => ?_⟩
    have hs : ∀ b o, b ∉ [e, it] → s.heap.get? b = some o → h''.get? b = some o := fun b o hb q => (sb.2 b (fun z => hb (by simp [z]))).trans (hk b o (fun z => hb (by simp [z])) (fun z => hb (by simp [z])) q)
    have ht2 : h''.get? s.heap.objs.size = some { cls := .type "tuple", data := .seq #[.int i s.toks, u] } := (sb.2 _ (Nat.ne_of_gt lte)).trans ht
    have I1 := I.turnedNew (t' := s.toks + 1) (ch := [e, it]) (o := .tup [.int (i : Int), x]) hf hs (Nat.le_refl _) ⟨by show 2 ≤ sizeLine; decide, [.int i s.toks, u], .cons ⟨_, rfl⟩ (.cons ru .nil), ⟨_, ht2, rfl, _, rfl⟩⟩
    refine ⟨.ref s.heap.objs.size, _, I1, rfl, ⟨s.heap.objs.size, x, I.hok.fresh (Nat.le_refl _), rfl, rfl, fun ys hy => by rw [I.list_inj hy hq]; exact hx⟩, ⟨⟨u, by simpa using he''⟩, ?_⟩, fun b hb => ?_⟩
    · exact hi'.at fun o q => (sb.2 it (Ne.symm hne)).trans q
    · have q : b = e ∨ b = it := by simpa using hb
      have hlt : b < s.heap.objs.size := by rcases q with rfl | rfl <;> assumption
      rw [upd_ne (Nat.ne_of_lt hlt)]
      exact (hf b hb).1
  done := by
    intro X hP hw hK hc i pins s σ H E I hf st hg
    subst hP hw hK
    obtain ⟨⟨old, he⟩, hi⟩ := st
    obtain ⟨xs, hq, hx⟩ := hg
    obtain ⟨its, rv, p, hz⟩ := I.list hq
    obtain ⟨f0, f1, f2, f3, f4, f5⟩ := hf it (by simp)
    have hl := rv.length
    exact wpAny_pyNext_enum_end (I.ok.hd hc) he hi p.isList (by simp; omega) fun h' eb => ⟨rfl, I.turned (t' := s.toks) (fun b o hb e => eb b o hb e) f0 f1 f3 f4 f5⟩
  self := fun _ _ _ _ _ st h => by
    obtain ⟨⟨old, he⟩, _⟩ := st
    exact wpAny_pyIter_enum he h
section
variable {X : Cx}
def iEnum (K : PySem.W.Frag) (ta : TA) : TI := fun σ H R => ta σ H fun vs H1 => ∃ a xs, vs = [.ref a] ∧ SqL K H1 a xs ∧ R (Ite K a) H1
theorem bt_enumerate : bootBuiltins "enumerate" = some (.type "enumerate") := by decide +kernel
theorem pi_enum {elts : List Expr} {x1 : Nat} {tp : Pos} {a : Expr} {ta : TA} {p pos : Pos} (hg : Gl X "enumerate") (hm : X.mg "enumerate" = none) (ha : PA X [a] ta) (hs : starEach [a] X.env = [(false, eval a X.env)] := by rfl) :
    PI X (.Tuple elts x1 tp) (.Call (.Name "enumerate" p) [a] [] pos) (iEnum X.K ta) := by
  intro pins s σ H R I h
  refine Call_ (ld_blt I hg hm bt_enumerate (PyProof.Rows.callWith_type1 (thn (ha pos pins s σ H _ I h) fun us s1 ⟨vs, H1, I1, r1, q1⟩ => ?_) hs rfl))
  obtain ⟨l, xs, e, hq, q⟩ := q1
  subst e
  cases r1 with
  | cons r rr =>
    cases rr
    cases (show _ = Value.ref l from r)
    obtain ⟨its, rv, p, hz⟩ := I1.list hq
    refine call_enumerate_list p.isList fun h' he hi hsz hk => ?_
    refine wpAny_pyIter_enum he ?_
    have I2 := I1.kept (t' := s1.toks) (h' := h') hk
    refine ⟨s1.heap.objs.size + 1, [s1.heap.objs.size + 1, s1.heap.objs.size], _, _, H1, rfl, I2, turn_enum l _ _ (Nat.succ_ne_self _), ⟨⟨_, he⟩, hi⟩, fun b hb => ?_, q⟩
    have z : b = s1.heap.objs.size + 1 ∨ b = s1.heap.objs.size := by simpa using hb
    have hb2 : s1.heap.objs.size ≤ b := by rcases z with rfl | rfl <;> omega
    exact I1.fpOk hb2 (I1.hok.fresh hb2)
end
end L2

set_option Elab.async false
set_option linter.all false
set_option maxRecDepth 100000
set_option maxHeartbeats 4000000
namespace Tim
open PySem PyProof.Rows

def gallop' : Bool → Keyed → Array Keyed → Nat → Nat → Nat → StateT SortSt Sem (Option Nat) := sortPriv% PySem.Builtin.gallop
def mergeLo' : Array Keyed → Array Keyed → StateT SortSt Sem (Array Keyed) := sortPriv% PySem.Builtin.mergeLo
def mergeHi' : Array Keyed → Array Keyed → StateT SortSt Sem (Array Keyed) := sortPriv% PySem.Builtin.mergeHi
def setG (st : SortSt) (g : Nat) : SortSt := SortSt.mk' (kindOf st) (arrOf st) (pendingOf st) g (failedOf st)
def beyond' (left : Bool) (key : Keyed) (arr : Array Keyed) (base i : Nat) : StateT SortSt Sem (Option Bool) := do
  let x ← elem' arr (base + i)
  if left then lt' x key else return (← lt' key x).map (!·)
def tailG (left : Bool) (key : Keyed) (arr : Array Keyed) (base n p₀ q₀ : Nat) : StateT SortSt Sem (Option Nat) := do
  let mut p := p₀
  let mut q := q₀
  for _ in [0:n] do
    if p ≥ q then break
    let c := p + (q - p) / 2
    let some yes ← beyond' left key arr base c | return none
    if yes then p := c + 1 else q := c
  return some q
/-- the comparisons among the things of P are told by lt, which is an order -/
structure Cmp (M : Model) (A : Around) (E : Value → Shared → Prop) (s : Shared) (κ : SortKind) (P : Keyed → Prop) (lt : Keyed → Keyed → Bool) : Prop where
  run : ∀ (x y : Keyed) (st : SortSt) (Q : Option Bool → SortSt → Prop), P x → P y → kindOf st = κ → Q (some (lt x y)) st → wpS M A E s (lt' x y) Q st
  asym : ∀ x y, lt x y = true → lt y x = false
  trans : ∀ x y z, lt y x = false → lt z y = false → lt z x = false

section
variable {M : Model} {A : Around} {E : Value → Shared → Prop} {s : Shared} {κ : SortKind} {P : Keyed → Prop} {lt : Keyed → Keyed → Bool}

theorem wpS_elem {arr : Array Keyed} {i : Nat} {x : Keyed} {Q : Keyed → SortSt → Prop} {st : SortSt} (h : arr[i]? = some x) (q : Q x st) : wpS M A E s (elem' arr i) Q st := by
  rw [elem'_eq, h]
  exact wpS_pure q

def bey (lt : Keyed → Keyed → Bool) (left : Bool) (key x : Keyed) : Bool := if left then lt x key else !lt key x

theorem wpS_beyond (C : Cmp M A E s κ P lt) {left : Bool} {key x : Keyed} {arr : Array Keyed} {base i : Nat} {st : SortSt} {Q : Option Bool → SortSt → Prop} (hx : arr[base + i]? = some x) (px : P x) (pk : P key) (hk : kindOf st = κ)
    (q : Q (some (bey lt left key x)) st) : wpS M A E s (beyond' left key arr base i) Q st := by
  unfold beyond'
  refine wpS_bind (wpS_elem hx ?_)
  cases left with
  | true => exact C.run x key st Q px pk hk q
  | false => exact wpS_bind (C.run key x st _ pk px hk (wpS_pure q))

section
variable (C : Cmp M A E s κ P lt) {left : Bool} {key : Keyed} {arr : Array Keyed} {base n hint : Nat} {st : SortSt} {B : Nat → Bool} (hk : kindOf st = κ) (pk : P key)
  (hB : ∀ i, i < n → ∃ x, arr[base + i]? = some x ∧ P x ∧ bey lt left key x = B i) (mono : ∀ i j, i ≤ j → j < n → B j = true → B i = true)
include C hk pk hB mono
theorem wpS_tailG {lo hi : Nat} {Q : Option Nat → SortSt → Prop} (hlh : lo ≤ hi) (hn : hi ≤ n) (h1 : ∀ i, i < lo → B i = true) (h2 : ∀ i, hi ≤ i → i < n → B i = false)
    (h : ∀ k, k ≤ n → (∀ i, i < k → B i = true) → (∀ i, k ≤ i → i < n → B i = false) → Q (some k) st) : wpS M A E s (tailG left key arr base n lo hi) Q st := by
  unfold tailG
  refine wpS_bind (wpS_forRange (fun i (c : Option (Option Nat) × Nat × Nat) st' => st' = st ∧ c.1 = none ∧ c.2.1 ≤ c.2.2 ∧ c.2.2 ≤ n ∧ c.2.2 - c.2.1 + i ≤ n ∧ (∀ i, i < c.2.1 → B i = true) ∧ (∀ i, c.2.2 ≤ i → i < n → B i = false)) ?_ ?_ ⟨rfl, rfl, hlh, hn, by simp only; omega, h1, h2⟩)
  · rintro i ⟨r, lo, hi⟩ st' _ hi' ⟨rfl, rfl, a1, a2, a3, a4, a5⟩
    dsimp only at a1 a2 a3 a4 a5 ⊢
    by_cases hge : lo ≥ hi
    · rw [if_pos hge]
      refine wpS_pure ?_
      have e : lo = hi := by omega
      subst e
      exact wpS_pure (h lo a2 a4 a5)
    · rw [if_neg hge]
      have hm : lo + (hi - lo) / 2 < n := by omega
      obtain ⟨x, hx, px, bx⟩ := hB _ hm
      refine wpS_bind (wpS_beyond C hx px pk hk ?_)
      rw [bx]
      cases hb : B (lo + (hi - lo) / 2) with
      | true =>
        exact wpS_pure ⟨rfl, rfl, by dsimp only; omega, a2, by dsimp only; omega, fun j hj => mono j _ (by dsimp only at hj; omega) hm hb, a5⟩
      | false =>
        refine wpS_pure ⟨rfl, rfl, by dsimp only; omega, by dsimp only; omega, by dsimp only; omega, a4, fun j hj hjn => ?_⟩
        cases hbj : B j with
        | false => rfl
        | true => rw [mono _ j hj hjn hbj] at hb; cases hb
  · rintro ⟨r, lo, hi⟩ st' ⟨rfl, rfl, a1, a2, a3, a4, a5⟩
    dsimp only at a1 a2 a3 a4 a5 ⊢
    have e : lo = hi := by omega
    subst e
    exact wpS_pure (h lo a2 a4 a5)
/-- gallop: the place where the run of what lies ahead of the key ends -/
theorem wpS_gallop {Q : Option Nat → SortSt → Prop} (hh : hint < n)
    (h : ∀ k, k ≤ n → (∀ i, i < k → B i = true) → (∀ i, k ≤ i → i < n → B i = false) → Q (some k) st) : wpS M A E s (gallop' left key arr base n hint) Q st := by
  have mono' : ∀ i j, i ≤ j → j < n → B i = false → B j = false := fun i j hij hj hb => by
    cases hbj : B j with
    | false => rfl
    | true => rw [mono i j hij hj hbj] at hb; cases hb
  unfold gallop'
  obtain ⟨x, hx, px, bx⟩ := hB _ hh
  refine wpS_bind (wpS_beyond C hx px pk hk ?_)
  rw [bx]
  cases hb : B hint with
  | true =>
    have fin : ∀ l o, l < o → hint + l < n → B (hint + l) = true → (n - hint ≤ o ∨ hint + o < n ∧ B (hint + o) = false) → wpS M A E s (tailG left key arr base n (hint + l + 1) (hint + min o (n - hint))) Q st := by
      intro l o a1 a2 a3 a4
      refine wpS_tailG C hk pk hB mono ?_ ?_ ?_ ?_ h
      · rcases a4 with a4 | ⟨a4, _⟩ <;> omega
      · omega
      · intro i hi
        exact mono i (hint + l) (by omega) a2 a3
      · intro i hi hin
        rcases a4 with a4 | ⟨a4, a5⟩
        · omega
        · exact mono' (hint + o) i (by omega) hin a5
    refine wpS_bind (wpS_forRange (fun i (c : Option (Option Nat) × Nat × Nat) st' => st' = st ∧ c.1 = none ∧ c.2.1 < c.2.2 ∧ hint + c.2.1 < n ∧ B (hint + c.2.1) = true ∧ i + 1 ≤ c.2.2) ?_ ?_ ⟨rfl, rfl, by decide, hh, hb, by simp⟩)
    · rintro i ⟨r, l, o⟩ st' _ hi' ⟨rfl, rfl, a1, a2, a3, a4⟩
      dsimp only at a1 a2 a3 a4 ⊢
      by_cases hge : o ≥ n - hint
      · rw [if_pos hge]
        exact wpS_pure (fin l o a1 a2 a3 (.inl hge))
      · rw [if_neg hge]
        have hm : hint + o < n := by omega
        obtain ⟨x, hx, px, bx⟩ := hB _ hm
        refine wpS_bind (wpS_beyond C hx px pk hk ?_)
        rw [bx]
        cases hb : B (hint + o) with
        | true => exact wpS_pure ⟨rfl, rfl, by dsimp only; omega, hm, hb, by dsimp only; omega⟩
        | false => exact wpS_pure (fin l o a1 a2 a3 (.inr ⟨hm, hb⟩))
    · rintro ⟨r, l, o⟩ st' ⟨rfl, rfl, a1, a2, a3, a4⟩
      dsimp only at a1 a2 a3 a4 ⊢
      exact fin l o a1 a2 a3 (.inl (by omega))
  | false =>
    have fin : ∀ l o, l < o → l ≤ hint → B (hint - l) = false → (hint + 1 ≤ o ∨ o ≤ hint ∧ B (hint - o) = true) → wpS M A E s (tailG left key arr base n (hint + 1 - min o (hint + 1)) (hint - l)) Q st := by
      intro l o a1 a2 a3 a4
      refine wpS_tailG C hk pk hB mono ?_ ?_ ?_ ?_ h
      · rcases a4 with a4 | ⟨a4, _⟩ <;> omega
      · omega
      · intro i hi
        rcases a4 with a4 | ⟨a4, a5⟩
        · omega
        · exact mono i (hint - o) (by omega) (by omega) a5
      · intro i hi hin
        exact mono' (hint - l) i hi hin a3
    refine wpS_bind (wpS_forRange (fun i (c : Option (Option Nat) × Nat × Nat) st' => st' = st ∧ c.1 = none ∧ c.2.1 < c.2.2 ∧ c.2.1 ≤ hint ∧ B (hint - c.2.1) = false ∧ i + 1 ≤ c.2.2) ?_ ?_ ⟨rfl, rfl, by decide, Nat.zero_le _, hb, by simp⟩)
    · rintro i ⟨r, l, o⟩ st' _ hi' ⟨rfl, rfl, a1, a2, a3, a4⟩
      dsimp only at a1 a2 a3 a4 ⊢
      by_cases hge : o ≥ hint + 1
      · rw [if_pos hge]
        exact wpS_pure (fin l o a1 a2 a3 (.inl hge))
      · rw [if_neg hge]
        have hm : hint - o < n := by omega
        obtain ⟨x, hx, px, bx⟩ := hB _ hm
        refine wpS_bind (wpS_beyond C hx px pk hk ?_)
        rw [bx]
        cases hb : B (hint - o) with
        | true => exact wpS_pure (fin l o a1 a2 a3 (.inr ⟨by omega, hb⟩))
        | false => exact wpS_pure ⟨rfl, rfl, by dsimp only; omega, by dsimp only; omega, hb, by dsimp only; omega⟩
    · rintro ⟨r, l, o⟩ st' ⟨rfl, rfl, a1, a2, a3, a4⟩
      dsimp only at a1 a2 a3 a4 ⊢
      exact fin l o a1 a2 a3 (.inl (by omega))
end
end
end Tim

set_option Elab.async false
set_option linter.all false
set_option maxRecDepth 100000
set_option maxHeartbeats 4000000
namespace Tim
open PySem PyProof.Rows
abbrev Srt (lt : Keyed → Keyed → Bool) (l : List Keyed) : Prop := l.Pairwise fun x y => lt y x = false
section
variable {lt : Keyed → Keyed → Bool} {a b out : List Keyed} {ia ib k : Nat}
theorem Srt.drop (h : Srt lt a) (i : Nat) : Srt lt (a.drop i) := List.Pairwise.sublist (List.drop_sublist i a) h
theorem Srt.take (h : Srt lt a) (i : Nat) : Srt lt (a.take i) := List.Pairwise.sublist (List.take_sublist i a) h
theorem Srt.cross (h : Srt lt a) (i : Nat) : ∀ x ∈ a.take i, ∀ y ∈ a.drop i, lt y x = false := by
  have h' := h
  rw [← List.take_append_drop i a] at h'
  exact (List.pairwise_append.mp h').2.2
/-- what is taken of both so far, in order; what is left of both -/
structure JL (lt : Keyed → Keyed → Bool) (a b out : List Keyed) (ia ib : Nat) : Prop where
  hia : ia ≤ a.length
  hib : ib ≤ b.length
  perm : out.Perm (a.take ia ++ b.take ib)
  srt : Srt lt out
  cap : ∀ x ∈ out, ∀ y, y ∈ a.drop ia ∨ y ∈ b.drop ib → lt y x = false
theorem JL.len (J : JL lt a b out ia ib) : out.length = ia + ib := by
  have h := J.perm.length_eq
  have h1 := J.hia
  have h2 := J.hib
  rw [List.length_append, List.length_take, List.length_take] at h
  omega
theorem take_more (l : List Keyed) (i k : Nat) : l.take (i + k) = l.take i ++ (l.drop i).take k := by
  rw [List.take_add]
theorem JL.stepA (ha : Srt lt a) (J : JL lt a b out ia ib) (hk : ia + k ≤ a.length) (h : ∀ x ∈ (a.drop ia).take k, ∀ y ∈ b.drop ib, lt y x = false) : JL lt a b (out ++ (a.drop ia).take k) (ia + k) ib where
  hia := hk
  hib := J.hib
  perm := by
    rw [take_more]
    refine (List.Perm.append_right _ J.perm).trans ?_
    rw [List.append_assoc, List.append_assoc]
    exact List.Perm.append_left _ List.perm_append_comm
  srt := List.pairwise_append.mpr ⟨J.srt, (ha.drop ia).take k, fun x hx y hy => J.cap x hx y (.inl (List.mem_of_mem_take hy))⟩
  cap := by
    intro x hx y hy
    have e : a.drop (ia + k) = (a.drop ia).drop k := by rw [List.drop_drop]
    rcases List.mem_append.mp hx with hx | hx
    · refine J.cap x hx y ?_
      rcases hy with hy | hy
      · rw [e] at hy
        exact .inl (List.mem_of_mem_drop hy)
      · exact .inr hy
    · rcases hy with hy | hy
      · rw [e] at hy
        exact (ha.drop ia).cross k x hx y hy
      · exact h x hx y hy
theorem JL.swap (J : JL lt a b out ia ib) : JL lt b a out ib ia :=
  ⟨J.hib, J.hia, J.perm.trans List.perm_append_comm, J.srt, fun x hx y hy => J.cap x hx y hy.symm⟩
theorem JL.stepB (hb : Srt lt b) (J : JL lt a b out ia ib) (hk : ib + k ≤ b.length) (h : ∀ x ∈ (b.drop ib).take k, ∀ y ∈ a.drop ia, lt y x = false) : JL lt a b (out ++ (b.drop ib).take k) ia (ib + k) :=
  (JL.stepA hb J.swap hk h).swap
def Res (lt : Keyed → Keyed → Bool) (a b r : List Keyed) : Prop := r.Perm (a ++ b) ∧ Srt lt r
theorem JL.endB (ha : Srt lt a) (J : JL lt a b out ia b.length) : Res lt a b (out ++ a.drop ia) := by
  have J' := JL.stepA (k := a.length - ia) ha J (by have := J.hia; omega) (by intro x _ y hy; rw [List.drop_length] at hy; cases hy)
  have e : (a.drop ia).take (a.length - ia) = a.drop ia := List.take_of_length_le (by rw [List.length_drop]; exact Nat.le_refl _)
  rw [e] at J'
  have e2 : ia + (a.length - ia) = a.length := by have := J.hia; omega
  rw [e2] at J'
  have p := J'.perm
  rw [List.take_length, List.take_length] at p
  exact ⟨p, J'.srt⟩
/-- of a the last one alone is left, and it is behind all of b -/
theorem JL.last (ha : Srt lt a) (hb : Srt lt b) (J : JL lt a b out ia ib) (hl : ia + 1 = a.length) (hx : ∀ x ∈ b, ∀ y ∈ a.drop ia, lt y x = false) : Res lt a b (out ++ b.drop ib ++ a.drop ia) := by
  have J' := JL.stepB (k := b.length - ib) hb J (by have := J.hib; omega) (fun x h y hy => hx x (List.mem_of_mem_drop (List.mem_of_mem_take h)) y hy)
  have e : (b.drop ib).take (b.length - ib) = b.drop ib := List.take_of_length_le (by rw [List.length_drop]; exact Nat.le_refl _)
  have e2 : ib + (b.length - ib) = b.length := by have := J.hib; omega
  rw [e, e2] at J'
  exact J'.endB ha
end
theorem drop_cons_get {l : List Keyed} {i : Nat} {x : Keyed} (h : l[i]? = some x) : l.drop i = x :: l.drop (i + 1) := by
  obtain ⟨hi, rfl⟩ := List.getElem?_eq_some_iff.mp h
  exact List.drop_eq_getElem_cons hi
theorem take1_get {l : List Keyed} {i : Nat} {x : Keyed} (h : l[i]? = some x) : (l.drop i).take 1 = [x] := by
  rw [drop_cons_get h]
  rfl
/-- the least of what is left is its first one -/
theorem Srt.first {lt : Keyed → Keyed → Bool} {l : List Keyed} {i : Nat} {x : Keyed} (h : Srt lt l) (hi : l[i]? = some x) (hr : lt x x = false) : ∀ y ∈ l.drop i, lt y x = false := by
  intro y hy
  have h' := h.drop i
  rw [drop_cons_get hi] at h' hy
  rcases List.mem_cons.mp hy with rfl | hy
  · exact hr
  · exact (List.pairwise_cons.mp h').1 y hy

section
variable {M : Model} {A : Around} {E : Value → Shared → Prop} {s : Shared} {κ : SortKind} {P : Keyed → Prop} {lt : Keyed → Keyed → Bool}
theorem Cmp.irrefl (C : Cmp M A E s κ P lt) (x : Keyed) : lt x x = false := by
  cases h : lt x x with
  | false => rfl
  | true => have := C.asym x x h; rw [h] at this; cases this
/-- x below y, y at most z -/
theorem Cmp.le_of_lt (C : Cmp M A E s κ P lt) {x y z : Keyed} (h1 : lt x y = true) (h2 : lt z y = false) : lt z x = false := C.trans x y z (C.asym x y h1) h2
/-- all but the gallop's number stays -/
structure Alike (st st' : SortSt) : Prop where
  k : kindOf st' = kindOf st
  a : arrOf st' = arrOf st
  p : pendingOf st' = pendingOf st
  f : failedOf st' = failedOf st
theorem Alike.refl (st : SortSt) : Alike st st := ⟨rfl, rfl, rfl, rfl⟩
theorem Alike.setG {st st' : SortSt} (h : Alike st st') (g : Nat) : Alike st (setG st' g) := ⟨h.k, h.a, h.p, h.f⟩
theorem wpS_rule {n : String} {Q : Unit → SortSt → Prop} {st : SortSt} (h : Q () st) : wpS M A E s (liftM (rule n) : StateT SortSt Sem Unit) Q st := wpS_lift (wpAny_rule ⟨rfl, h⟩)

theorem iteBoth {c : Prop} [Decidable c] {α : Type} {x y : StateT SortSt Sem α} {Q : α → SortSt → Prop} {st : SortSt} (h1 : wpS M A E s x Q st) (h2 : wpS M A E s y Q st) : wpS M A E s (if c then x else y) Q st := by
  split
  · exact h1
  · exact h2
/-- the arrays' own forms -/
theorem toL_push (o : Array Keyed) (l : List Keyed) (i : Nat) (x : Keyed) (h : l[i]? = some x) : (o.push x).toList = o.toList ++ (l.drop i).take 1 := by
  rw [take1_get h, Array.toList_push]
theorem toL_ext (o a : Array Keyed) (i k : Nat) : (o ++ a.extract i (i + k)).toList = o.toList ++ (a.toList.drop i).take k := by
  rw [Array.toList_append, Array.toList_extract]
  simp [List.extract_eq_drop_take]
theorem toL_rest (a : Array Keyed) (i : Nat) : (a.extract i a.size).toList = a.toList.drop i := by
  rw [Array.toList_extract]
  simp only [List.extract_eq_drop_take]
  exact List.take_of_length_le (by rw [List.length_drop, Array.length_toList]; exact Nat.le_refl _)
section
variable (C : Cmp M A E s κ P lt) {a b : Array Keyed} (ha : Srt lt a.toList) (hb : Srt lt b.toList) (pa : ∀ x ∈ a.toList, P x) (pb : ∀ x ∈ b.toList, P x)
include C ha hb pa pb
theorem get_some {l : Array Keyed} {i : Nat} (h : i < l.size) : ∃ x, l[i]? = some x ∧ l.toList[i]? = some x ∧ x ∈ l.toList := ⟨l[i], by simp [h], by simp [h], by simp⟩
theorem wpS_mergeLo {st : SortSt} {Q : Array Keyed → SortSt → Prop} (hk : kindOf st = κ) (h1a : 0 < a.size) (h1b : 0 < b.size) (h0 : ∀ x ∈ a.toList, ∀ y, b[0]? = some y → lt y x = true)
    (hl : ∀ x ∈ b.toList, ∀ y, a[a.size - 1]? = some y → lt x y = true)
    (h : ∀ r st', Alike st st' → Res lt a.toList b.toList r.toList → Q r st') : wpS M A E s (mergeLo' a b) Q st := by
  have la : a.toList.length = a.size := by simp
  have lb : b.toList.length = b.size := by simp
  -- what is handed back
  have fDone : ∀ (out : Array Keyed) (ia ib : Nat), JL lt a.toList b.toList out.toList ia ib → ib = b.size → Res lt a.toList b.toList (out ++ a.extract ia a.size ++ b.extract ib b.size).toList := by
    intro out ia ib J e
    subst e
    rw [Array.toList_append, Array.toList_append, toL_rest, toL_rest]
    rw [← lb] at J ⊢
    rw [List.drop_length, List.append_nil]
    exact J.endB ha
  have hlast : ∀ ia, ia + 1 = a.size → ∀ x ∈ b.toList, ∀ y ∈ a.toList.drop ia, lt y x = false := by
    intro ia e x hx y hy
    obtain ⟨z, hz, hz2, _⟩ := get_some C ha hb pa pb (l := a) (i := ia) (by omega)
    rw [drop_cons_get hz2, List.drop_eq_nil_of_le (by omega)] at hy
    have : y = z := by simpa using hy
    subst this
    exact C.asym _ _ (hl x hx y (by rw [← e]; simpa using hz))
  have fLast : ∀ (out : Array Keyed) (ia ib : Nat), JL lt a.toList b.toList out.toList ia ib → ia + 1 = a.size → Res lt a.toList b.toList (out ++ b.extract ib b.size ++ a.extract ia a.size).toList := by
    intro out ia ib J e
    rw [Array.toList_append, Array.toList_append, toL_rest, toL_rest]
    exact J.last ha hb (by omega) (hlast ia e)
  -- one of b, one of a
  have pushB : ∀ (out : Array Keyed) (ia ib : Nat) (x y : Keyed), JL lt a.toList b.toList out.toList ia ib → a.toList[ia]? = some x → b.toList[ib]? = some y → lt y x = true → JL lt a.toList b.toList (out.push y).toList ia (ib + 1) := by
    intro out ia ib x y J hx hy hlt
    rw [toL_push out _ ib y hy]
    have hib : ib < b.toList.length := (List.getElem?_eq_some_iff.mp hy).1
    refine J.stepB hb (by omega) fun u hu v hv => ?_
    rw [take1_get hy] at hu
    have : u = y := by simpa using hu
    subst this
    exact C.le_of_lt hlt (ha.first hx (C.irrefl x) v hv)
  have pushA : ∀ (out : Array Keyed) (ia ib : Nat) (x y : Keyed), JL lt a.toList b.toList out.toList ia ib → a.toList[ia]? = some x → b.toList[ib]? = some y → lt y x = false → JL lt a.toList b.toList (out.push x).toList (ia + 1) ib := by
    intro out ia ib x y J hx hy hlt
    rw [toL_push out _ ia x hx]
    have hia : ia < a.toList.length := (List.getElem?_eq_some_iff.mp hx).1
    refine J.stepA ha (by omega) fun u hu v hv => ?_
    rw [take1_get hx] at hu
    have : u = x := by simpa using hu
    subst this
    exact C.trans _ _ _ hlt (hb.first hy (C.irrefl y) v hv)
  unfold mergeLo'
  refine wpS_bind (wpS_rule ?_)
  dsimp only
  obtain ⟨b0, hb0, hb0', mb0⟩ := get_some C ha hb pa pb (l := b) (i := 0) h1b
  refine wpS_bind (wpS_elem hb0 ?_)
  have J0 : JL lt a.toList b.toList (#[b0] : Array Keyed).toList 0 1 := by
    have J : JL lt a.toList b.toList [] 0 0 := ⟨Nat.zero_le _, Nat.zero_le _, by simp, List.Pairwise.nil, by simp⟩
    have J' := J.stepB (k := 1) hb (by omega) (fun x hx y hy => by
      rw [take1_get hb0'] at hx
      have : x = b0 := by simpa using hx
      subst this
      exact C.asym _ _ (h0 y (by simpa using hy) x hb0))
    rw [take1_get hb0'] at J'
    exact J'
  by_cases c1 : 1 = b.size
  · rw [if_pos (by simpa using c1)]
    exact wpS_pure (h _ st (Alike.refl st) (fDone _ _ _ J0 c1))
  rw [if_neg (by simpa using c1)]
  by_cases c2 : 0 + 1 = a.size
  · rw [if_pos (by simpa using c2)]
    exact wpS_pure (h _ st (Alike.refl st) (fLast _ _ _ J0 c2))
  rw [if_neg (by simpa using c2)]
  refine wpS_bind (wpS_get ?_)
  refine wpS_bind (wpS_mono (wpS_forRange (fun i (c : Option (Array Keyed) × Array Keyed × Nat × Nat × Nat) st' => c.1 = none ∧ Alike st st' ∧ JL lt a.toList b.toList c.2.1.toList c.2.2.1 c.2.2.2.1 ∧ c.2.2.1 + 1 < a.size ∧ c.2.2.2.1 < b.size ∧ i + 1 ≤ c.2.1.size)
    (Q := fun c st' => Alike st st' ∧ ∃ r, c.1 = some r ∧ Res lt a.toList b.toList r.toList) ?_ ?_ ⟨rfl, Alike.refl st, J0, by dsimp only; omega, by dsimp only; omega, by simp⟩) ?_)
  rotate_left
  · rintro ⟨r, out, ia, ib, mg⟩ st' ⟨rfl, al, J, a1, a2, a3⟩
    dsimp only at al J a1 a2 a3 ⊢
    have := J.len
    have e : out.toList.length = out.size := by simp
    omega
  · rintro ⟨r, out, ia, ib, mg⟩ st' ⟨al, r', e, hr⟩
    dsimp only at e
    subst e
    exact wpS_pure (h _ st' al hr)
  rintro i ⟨r, out, ia, ib, mg⟩ st' _ hit ⟨rfl, al, J, a1, a2, a3⟩
  dsimp only at al J a1 a2 a3 ⊢
  -- the first loop
  refine wpS_bind (wpS_mono (wpS_forRange (fun j (c : Option (Array Keyed) × Array Keyed × Nat × Nat × Nat × Nat) st2 => st2 = st' ∧ c.1 = none ∧ JL lt a.toList b.toList c.2.1.toList c.2.2.1 c.2.2.2.1 ∧ c.2.2.1 + 1 < a.size ∧ c.2.2.2.1 < b.size ∧ out.size ≤ c.2.1.size ∧ (0 < j → out.size < c.2.1.size))
    (Q := fun c st2 => st2 = st' ∧ ((∃ r, c.1 = some r ∧ Res lt a.toList b.toList r.toList) ∨ (c.1 = none ∧ JL lt a.toList b.toList c.2.1.toList c.2.2.1 c.2.2.2.1 ∧ c.2.2.1 + 1 < a.size ∧ c.2.2.2.1 < b.size ∧ out.size < c.2.1.size)))
    ?_ ?_ ⟨rfl, rfl, J, a1, a2, Nat.le_refl _, by simp⟩) ?_)
  · rintro j ⟨r, o, xa, xb, ac, bc⟩ st2 _ _ ⟨rfl, rfl, J, b1, b2, b3, b4⟩
    dsimp only at J b1 b2 b3 b4 ⊢
    obtain ⟨y, hy, hy', my⟩ := get_some C ha hb pa pb (l := b) (i := xb) b2
    obtain ⟨x, hx, hx', mx⟩ := get_some C ha hb pa pb (l := a) (i := xa) (by omega)
    refine wpS_bind (wpS_elem hy (wpS_bind (wpS_elem hx (wpS_bind (C.run y x st2 _ (pb y my) (pa x mx) (al.k.trans hk) ?_)))))
    dsimp only
    cases hlt : lt y x with
    | true =>
      rw [if_pos rfl]
      refine wpS_bind (wpS_elem hy ?_)
      have J' := pushB o xa xb x y J hx' hy' hlt
      have hsz : (o.push y).size = o.size + 1 := by simp
      by_cases e : xb + 1 = b.size
      · rw [if_pos (by simpa using e)]
        exact wpS_pure ⟨rfl, .inl ⟨_, rfl, fDone _ _ _ J' e⟩⟩
      · rw [if_neg (by simpa using e)]
        split
        · exact wpS_pure ⟨rfl, .inr ⟨rfl, J', b1, by dsimp only; omega, by dsimp only; omega⟩⟩
        · exact wpS_pure ⟨rfl, rfl, J', b1, by dsimp only; omega, by dsimp only; omega, fun _ => by dsimp only; omega⟩
    | false =>
      rw [if_neg (by simp)]
      refine wpS_bind (wpS_elem hx ?_)
      have J' := pushA o xa xb x y J hx' hy' hlt
      have hsz : (o.push x).size = o.size + 1 := by simp
      by_cases e : xa + 1 + 1 = a.size
      · rw [if_pos (by simpa using e)]
        exact wpS_pure ⟨rfl, .inl ⟨_, rfl, fLast _ _ _ J' e⟩⟩
      · rw [if_neg (by simpa using e)]
        split
        · exact wpS_pure ⟨rfl, .inr ⟨rfl, J', by dsimp only; omega, b2, by dsimp only; omega⟩⟩
        · exact wpS_pure ⟨rfl, rfl, J', by dsimp only; omega, b2, by dsimp only; omega, fun _ => by dsimp only; omega⟩
  · rintro ⟨r, o, xa, xb, ac, bc⟩ st2 ⟨rfl, rfl, J, b1, b2, b3, b4⟩
    dsimp only at J b1 b2 b3 b4 ⊢
    exact ⟨rfl, .inr ⟨rfl, J, b1, b2, b4 (by omega)⟩⟩
  rintro ⟨r, o, xa, xb, ac, bc⟩ st2 ⟨rfl, hc⟩
  dsimp only at hc ⊢
  rcases hc with ⟨r', e, hr⟩ | ⟨e, J1, b1, b2, b3⟩
  · subst e
    exact wpS_pure ⟨al, r', rfl, hr⟩
  subst e
  dsimp only
  clear J a1 a2
  refine wpS_bind (wpS_rule ?_)
  -- the second loop
  refine wpS_bind (wpS_mono (wpS_forRange (fun j (c : Option (Array Keyed) × Array Keyed × Nat × Nat × Nat × Nat × Nat) st3 => Alike st st3 ∧ c.1 = none ∧ JL lt a.toList b.toList c.2.1.toList c.2.2.1 c.2.2.2.1 ∧ c.2.2.1 + 1 < a.size ∧ c.2.2.2.1 < b.size ∧ out.size < c.2.1.size)
    (Q := fun c st3 => Alike st st3 ∧ ((∃ r, c.1 = some r ∧ Res lt a.toList b.toList r.toList) ∨ (c.1 = none ∧ JL lt a.toList b.toList c.2.1.toList c.2.2.1 c.2.2.2.1 ∧ c.2.2.1 + 1 < a.size ∧ c.2.2.2.1 < b.size ∧ out.size < c.2.1.size)))
    ?_ ?_ ⟨al, rfl, J1, b1, b2, b3⟩) ?_)
  rotate_left
  · rintro ⟨r, o, xa, xb, mg, ac, bc⟩ st3 ⟨al3, rfl, J, b1, b2, b3⟩
    exact ⟨al3, .inr ⟨rfl, J, b1, b2, b3⟩⟩
  · rintro ⟨r, o, xa, xb, mg, ac, bc⟩ st3 ⟨al3, hc⟩
    dsimp only at hc ⊢
    rcases hc with ⟨r', e, hr⟩ | ⟨e, J, b1, b2, b3⟩
    · subst e
      exact wpS_pure ⟨al3, r', rfl, hr⟩
    · subst e
      dsimp only
      exact wpS_bind (wpS_modify (wpS_pure ⟨rfl, al3.setG _, J, b1, b2, by dsimp only; omega⟩))
  rintro j ⟨r, o, xa, xb, mg, ac, bc⟩ st3 _ _ ⟨al3, rfl, J, b1, b2, b3⟩
  dsimp only at J b1 b2 b3 ⊢
  obtain ⟨y, hy, hy', my⟩ := get_some C ha hb pa pb (l := b) (i := xb) b2
  refine iteBoth ?_ ?_
  all_goals
    refine wpS_bind (wpS_modify ?_)
    have al4 : ∀ g, Alike st (setG st3 g) := fun g => al3.setG g
    refine wpS_bind (wpS_elem hy ?_)
    refine wpS_bind (wpS_gallop C (B := fun i => !lt y (a.toList.getD (xa + i) y)) ((al4 _).k.trans hk) (pb y my) ?_ ?_ (Nat.sub_pos_of_lt (Nat.lt_of_succ_lt b1)) fun k p1 p2 p3 => ?_)
    · intro i hi
      obtain ⟨z, hz, hz', mz⟩ := get_some C ha hb pa pb (l := a) (i := xa + i) (by omega)
      refine ⟨z, hz, pa z mz, ?_⟩
      show (!lt y z) = !lt y (a.toList.getD (xa + i) y)
      rw [List.getD_eq_getElem?_getD, hz']
      rfl
    · intro i' j' hij hj hbj
      obtain ⟨u, hu, hu', mu⟩ := get_some C ha hb pa pb (l := a) (i := xa + i') (by omega)
      obtain ⟨v, hv, hv', mv⟩ := get_some C ha hb pa pb (l := a) (i := xa + j') (by omega)
      rw [List.getD_eq_getElem?_getD, hv'] at hbj
      rw [List.getD_eq_getElem?_getD, hu']
      replace hbj : (!lt y v) = true := hbj
      show (!lt y u) = true
      have hle : lt v u = false := ha.first hu' (C.irrefl u) v (by
        have := List.mem_of_getElem? (l := a.toList.drop (xa + i')) (i := j' - i') (a := v) (by rw [List.getElem?_drop]; rw [show xa + i' + (j' - i') = xa + j' by omega]; exact hv')
        exact this)
      have hyv : lt y v = false := by simpa using hbj
      rw [C.trans _ _ _ hle hyv]
      rfl
    have hkl : xa + k + 1 ≤ a.size := by
      rcases Nat.lt_or_ge (a.size - 1 - xa) k with hlt | hge
      · have q := p2 (a.size - 1 - xa) hlt
        obtain ⟨z, hz, hz', mz⟩ := get_some C ha hb pa pb (l := a) (i := a.size - 1) (by omega)
        rw [show xa + (a.size - 1 - xa) = a.size - 1 by omega, List.getD_eq_getElem?_getD, hz'] at q
        have := hl y my z hz
        simp [this] at q
      · omega
    have J1' : JL lt a.toList b.toList (o ++ a.extract xa (xa + k)).toList (xa + k) xb := by
      rw [toL_ext]
      refine J.stepA ha (by omega) fun u hu v hv => ?_
      obtain ⟨n, hn, rfl⟩ := List.mem_iff_getElem.mp hu
      rw [List.length_take, List.length_drop] at hn
      have q := p2 n (by omega)
      have e : ((a.toList.drop xa).take k)[n] = a.toList.getD (xa + n) y := by
        rw [List.getElem_take, List.getElem_drop, List.getD_eq_getElem?_getD, List.getElem?_eq_getElem (by omega)]
        rfl
      rw [e]
      exact C.trans _ _ _ (by simpa using q) (hb.first hy' (C.irrefl y) v hv)
    have hszA : (o ++ a.extract xa (xa + k)).size = o.size + k := by
      have h1 := J1'.len
      have h2 := J.len
      rw [Array.length_toList] at h1 h2
      omega
    obtain ⟨x2, hx2, hx2', mx2⟩ := get_some C ha hb pa pb (l := a) (i := xa + k) (by omega)
    have hlt2 : lt y x2 = true := by
      have q := p3 k (Nat.le_refl _) (by omega)
      rw [List.getD_eq_getElem?_getD, hx2'] at q
      simpa using q
    dsimp only
    rcases Nat.eq_zero_or_pos k with ek | pk
    · subst ek
      rw [if_neg (Nat.lt_irrefl 0)]
      rw [Nat.add_zero] at hx2 hx2'

      refine wpS_bind (wpS_elem hy ?_)
      have J2 := pushB o xa xb x2 y J hx2' hy' hlt2
      have hsz2 : ((o).push y).size = (o).size + 1 := by rw [Array.size_push]
      by_cases e2 : xb + 1 = b.size
      · rw [if_pos (by simpa using e2)]
        exact wpS_pure ⟨al4 _, .inl ⟨_, rfl, fDone _ _ _ J2 e2⟩⟩
      rw [if_neg (by simpa using e2)]
      refine wpS_bind (wpS_elem hx2 ?_)
      refine wpS_bind (wpS_gallop C (B := fun i => lt (b.toList.getD (xb + 1 + i) y) x2) ((al4 _).k.trans hk) (pa x2 mx2) ?_ ?_ (Nat.sub_pos_of_lt (Nat.lt_of_le_of_ne b2 e2)) fun k2 q1 q2 q3 => ?_)
      · intro i hi
        obtain ⟨z, hz, hz', mz⟩ := get_some C ha hb pa pb (l := b) (i := xb + 1 + i) (by omega)
        refine ⟨z, hz, pb z mz, ?_⟩
        show lt z x2 = lt (b.toList.getD (xb + 1 + i) y) x2
        rw [List.getD_eq_getElem?_getD, hz']
        rfl
      · intro i' j' hij hj hbj
        obtain ⟨u, hu, hu', mu⟩ := get_some C ha hb pa pb (l := b) (i := xb + 1 + i') (by omega)
        obtain ⟨v, hv, hv', mv⟩ := get_some C ha hb pa pb (l := b) (i := xb + 1 + j') (by omega)
        rw [List.getD_eq_getElem?_getD, hv'] at hbj
        rw [List.getD_eq_getElem?_getD, hu']
        replace hbj : lt v x2 = true := hbj
        show lt u x2 = true
        cases hlu : lt u x2 with
        | true => rfl
        | false =>
          have hle : lt v u = false := hb.first hu' (C.irrefl u) v (by
            have := List.mem_of_getElem? (l := b.toList.drop (xb + 1 + i')) (i := j' - i') (a := v) (by rw [List.getElem?_drop]; rw [show xb + 1 + i' + (j' - i') = xb + 1 + j' by omega]; exact hv')
            exact this)
          have := C.trans _ _ _ hlu hle
          rw [hbj] at this
          cases this
      have J3 : JL lt a.toList b.toList ((o).push y ++ b.extract (xb + 1) (xb + 1 + k2)).toList xa (xb + 1 + k2) := by
        rw [toL_ext]
        refine J2.stepB hb (by omega) fun u hu v hv => ?_
        obtain ⟨n, hn, rfl⟩ := List.mem_iff_getElem.mp hu
        rw [List.length_take, List.length_drop] at hn
        have q := q2 n (by omega)
        have e : ((b.toList.drop (xb + 1)).take k2)[n] = b.toList.getD (xb + 1 + n) y := by
          rw [List.getElem_take, List.getElem_drop, List.getD_eq_getElem?_getD, List.getElem?_eq_getElem (by omega)]
          rfl
        rw [e]
        exact C.le_of_lt q (ha.first hx2' (C.irrefl x2) v hv)
      have hsz3 : ((o).push y ++ b.extract (xb + 1) (xb + 1 + k2)).size = (o).size + 1 + k2 := by
        have h1 := J3.len
        have h2 := J2.len
        rw [Array.length_toList] at h1 h2
        omega
      have fin2 : ∀ (o3 : Array Keyed) (ib3 : Nat), JL lt a.toList b.toList o3.toList xa ib3 → ib3 = xb + 1 + k2 → ib3 < b.size → out.size < o3.size → JL lt a.toList b.toList (o3.push x2).toList (xa + 1) ib3 ∧ (o3.push x2).size = o3.size + 1 := by
        intro o3 ib3 J3 e3 l3 s3
        obtain ⟨z, hz, hz', mz⟩ := get_some C ha hb pa pb (l := b) (i := ib3) l3
        refine ⟨pushA o3 xa ib3 x2 z J3 hx2' hz' ?_, by simp⟩
        have q := q3 k2 (Nat.le_refl _) (by omega)
        rw [List.getD_eq_getElem?_getD, ← e3, hz'] at q
        exact q
      dsimp only
      rcases Nat.eq_zero_or_pos k2 with ek2 | pk2
      · subst ek2
        rw [if_neg (Nat.lt_irrefl 0)]
        refine wpS_bind (wpS_elem hx2 ?_)
        have J2' : JL lt a.toList b.toList ((o).push y).toList xa (xb + 1) := J2
        obtain ⟨J4, s4⟩ := fin2 ((o).push y) (xb + 1) J2' rfl (by omega) (by omega)
        by_cases e4 : xa + 1 + 1 = a.size
        · rw [if_pos (by simpa using e4)]
          exact wpS_pure ⟨al4 _, .inl ⟨_, rfl, fLast _ _ _ J4 e4⟩⟩
        rw [if_neg (by simpa using e4)]
        split
        · exact wpS_pure ⟨al4 _, .inr ⟨rfl, J4, by dsimp only; omega, by dsimp only; omega, by dsimp only; omega⟩⟩
        · exact wpS_pure ⟨al4 _, rfl, J4, by dsimp only; omega, by dsimp only; omega, by dsimp only; omega⟩
      rw [if_pos pk2]
      by_cases e5 : xb + 1 + k2 = b.size
      · rw [if_pos (by simpa using e5)]
        exact wpS_pure ⟨al4 _, .inl ⟨_, rfl, fDone _ _ _ J3 e5⟩⟩
      rw [if_neg (by simpa using e5)]
      refine wpS_bind (wpS_elem hx2 ?_)
      obtain ⟨J4, s4⟩ := fin2 _ _ J3 rfl (by omega) (by omega)
      by_cases e4 : xa + 1 + 1 = a.size
      · rw [if_pos (by simpa using e4)]
        exact wpS_pure ⟨al4 _, .inl ⟨_, rfl, fLast _ _ _ J4 e4⟩⟩
      rw [if_neg (by simpa using e4)]
      split
      · exact wpS_pure ⟨al4 _, .inr ⟨rfl, J4, by dsimp only; omega, by dsimp only; omega, by dsimp only; omega⟩⟩
      · exact wpS_pure ⟨al4 _, rfl, J4, by dsimp only; omega, by dsimp only; omega, by dsimp only; omega⟩
    rw [if_pos pk]
    by_cases e6 : xa + k + 1 = a.size
    · rw [if_pos (by simpa using e6)]
      exact wpS_pure ⟨al4 _, .inl ⟨_, rfl, fLast _ _ _ J1' e6⟩⟩
    rw [if_neg (by simpa using e6), if_neg (by simp; omega)]

    refine wpS_bind (wpS_elem hy ?_)
    have J2 := pushB (o ++ a.extract xa (xa + k)) (xa + k) xb x2 y J1' hx2' hy' hlt2
    have hsz2 : (((o ++ a.extract xa (xa + k))).push y).size = ((o ++ a.extract xa (xa + k))).size + 1 := by rw [Array.size_push]
    by_cases e2 : xb + 1 = b.size
    · rw [if_pos (by simpa using e2)]
      exact wpS_pure ⟨al4 _, .inl ⟨_, rfl, fDone _ _ _ J2 e2⟩⟩
    rw [if_neg (by simpa using e2)]
    refine wpS_bind (wpS_elem hx2 ?_)
    refine wpS_bind (wpS_gallop C (B := fun i => lt (b.toList.getD (xb + 1 + i) y) x2) ((al4 _).k.trans hk) (pa x2 mx2) ?_ ?_ (Nat.sub_pos_of_lt (Nat.lt_of_le_of_ne b2 e2)) fun k2 q1 q2 q3 => ?_)
    · intro i hi
      obtain ⟨z, hz, hz', mz⟩ := get_some C ha hb pa pb (l := b) (i := xb + 1 + i) (by omega)
      refine ⟨z, hz, pb z mz, ?_⟩
      show lt z x2 = lt (b.toList.getD (xb + 1 + i) y) x2
      rw [List.getD_eq_getElem?_getD, hz']
      rfl
    · intro i' j' hij hj hbj
      obtain ⟨u, hu, hu', mu⟩ := get_some C ha hb pa pb (l := b) (i := xb + 1 + i') (by omega)
      obtain ⟨v, hv, hv', mv⟩ := get_some C ha hb pa pb (l := b) (i := xb + 1 + j') (by omega)
      rw [List.getD_eq_getElem?_getD, hv'] at hbj
      rw [List.getD_eq_getElem?_getD, hu']
      replace hbj : lt v x2 = true := hbj
      show lt u x2 = true
      cases hlu : lt u x2 with
      | true => rfl
      | false =>
        have hle : lt v u = false := hb.first hu' (C.irrefl u) v (by
          have := List.mem_of_getElem? (l := b.toList.drop (xb + 1 + i')) (i := j' - i') (a := v) (by rw [List.getElem?_drop]; rw [show xb + 1 + i' + (j' - i') = xb + 1 + j' by omega]; exact hv')
          exact this)
        have := C.trans _ _ _ hlu hle
        rw [hbj] at this
        cases this
    have J3 : JL lt a.toList b.toList (((o ++ a.extract xa (xa + k))).push y ++ b.extract (xb + 1) (xb + 1 + k2)).toList (xa + k) (xb + 1 + k2) := by
      rw [toL_ext]
      refine J2.stepB hb (by omega) fun u hu v hv => ?_
      obtain ⟨n, hn, rfl⟩ := List.mem_iff_getElem.mp hu
      rw [List.length_take, List.length_drop] at hn
      have q := q2 n (by omega)
      have e : ((b.toList.drop (xb + 1)).take k2)[n] = b.toList.getD (xb + 1 + n) y := by
        rw [List.getElem_take, List.getElem_drop, List.getD_eq_getElem?_getD, List.getElem?_eq_getElem (by omega)]
        rfl
      rw [e]
      exact C.le_of_lt q (ha.first hx2' (C.irrefl x2) v hv)
    have hsz3 : (((o ++ a.extract xa (xa + k))).push y ++ b.extract (xb + 1) (xb + 1 + k2)).size = ((o ++ a.extract xa (xa + k))).size + 1 + k2 := by
      have h1 := J3.len
      have h2 := J2.len
      rw [Array.length_toList] at h1 h2
      omega
    have fin2 : ∀ (o3 : Array Keyed) (ib3 : Nat), JL lt a.toList b.toList o3.toList (xa + k) ib3 → ib3 = xb + 1 + k2 → ib3 < b.size → out.size < o3.size → JL lt a.toList b.toList (o3.push x2).toList ((xa + k) + 1) ib3 ∧ (o3.push x2).size = o3.size + 1 := by
      intro o3 ib3 J3 e3 l3 s3
      obtain ⟨z, hz, hz', mz⟩ := get_some C ha hb pa pb (l := b) (i := ib3) l3
      refine ⟨pushA o3 (xa + k) ib3 x2 z J3 hx2' hz' ?_, by simp⟩
      have q := q3 k2 (Nat.le_refl _) (by omega)
      rw [List.getD_eq_getElem?_getD, ← e3, hz'] at q
      exact q
    dsimp only
    rcases Nat.eq_zero_or_pos k2 with ek2 | pk2
    · subst ek2
      rw [if_neg (Nat.lt_irrefl 0)]
      refine wpS_bind (wpS_elem hx2 ?_)
      have J2' : JL lt a.toList b.toList (((o ++ a.extract xa (xa + k))).push y).toList (xa + k) (xb + 1) := J2
      obtain ⟨J4, s4⟩ := fin2 (((o ++ a.extract xa (xa + k))).push y) (xb + 1) J2' rfl (by omega) (by omega)
      by_cases e4 : (xa + k) + 1 + 1 = a.size
      · rw [if_pos (by simpa using e4)]
        exact wpS_pure ⟨al4 _, .inl ⟨_, rfl, fLast _ _ _ J4 e4⟩⟩
      rw [if_neg (by simpa using e4)]
      split
      · exact wpS_pure ⟨al4 _, .inr ⟨rfl, J4, by dsimp only; omega, by dsimp only; omega, by dsimp only; omega⟩⟩
      · exact wpS_pure ⟨al4 _, rfl, J4, by dsimp only; omega, by dsimp only; omega, by dsimp only; omega⟩
    rw [if_pos pk2]
    by_cases e5 : xb + 1 + k2 = b.size
    · rw [if_pos (by simpa using e5)]
      exact wpS_pure ⟨al4 _, .inl ⟨_, rfl, fDone _ _ _ J3 e5⟩⟩
    rw [if_neg (by simpa using e5)]
    refine wpS_bind (wpS_elem hx2 ?_)
    obtain ⟨J4, s4⟩ := fin2 _ _ J3 rfl (by omega) (by omega)
    by_cases e4 : (xa + k) + 1 + 1 = a.size
    · rw [if_pos (by simpa using e4)]
      exact wpS_pure ⟨al4 _, .inl ⟨_, rfl, fLast _ _ _ J4 e4⟩⟩
    rw [if_neg (by simpa using e4)]
    split
    · exact wpS_pure ⟨al4 _, .inr ⟨rfl, J4, by dsimp only; omega, by dsimp only; omega, by dsimp only; omega⟩⟩
    · exact wpS_pure ⟨al4 _, rfl, J4, by dsimp only; omega, by dsimp only; omega, by dsimp only; omega⟩
end
end
end Tim

set_option Elab.async false
set_option linter.all false
set_option maxRecDepth 100000
set_option maxHeartbeats 4000000
namespace Tim
open PySem PyProof.Rows
section
variable {M : Model} {A : Around} {E : Value → Shared → Prop} {s : Shared} {κ : SortKind} {P : Keyed → Prop} {lt : Keyed → Keyed → Bool}
abbrev flt (lt : Keyed → Keyed → Bool) : Keyed → Keyed → Bool := fun x y => lt y x
theorem srt_rev {l : List Keyed} (h : Srt lt l) : Srt (flt lt) l.reverse := List.pairwise_reverse.mpr h
theorem srt_unrev {l : List Keyed} (h : Srt (flt lt) l) : Srt lt l.reverse := List.pairwise_reverse.mpr h
/-- what is taken of both from behind -/
structure JH (lt : Keyed → Keyed → Bool) (a b out : Array Keyed) (na nb : Nat) : Prop where
  hna : na ≤ a.size
  hnb : nb ≤ b.size
  j : JL (flt lt) b.toList.reverse a.toList.reverse out.toList (b.size - nb) (a.size - na)
theorem rev_drop (l : Array Keyed) {n : Nat} (h : n ≤ l.size) : l.toList.reverse.drop (l.size - n) = (l.toList.take n).reverse := by
  rw [List.drop_reverse, Array.length_toList]
  congr 2
  omega
theorem rev_seg (l : Array Keyed) {n i : Nat} (h : n ≤ l.size) (hi : i ≤ n) : (l.toList.reverse.drop (l.size - n)).take (n - i) = (l.extract i n).reverse.toList := by
  rw [rev_drop l h, List.take_reverse, List.length_take, Array.length_toList, Array.toList_reverse, Array.toList_extract, List.extract_eq_drop_take, List.drop_take]
  congr 1
  rw [show min n l.size - (n - i) = i by omega]
theorem rev_get (l : Array Keyed) {n : Nat} {x : Keyed} (h : n ≤ l.size) (h1 : 1 ≤ n) (hx : l[n - 1]? = some x) : l.toList.reverse[l.size - n]? = some x := by
  rw [List.getElem?_reverse (by rw [Array.length_toList]; omega), Array.length_toList, Array.getElem?_toList, ← hx]
  congr 1
  omega
theorem JH.len {a b out : Array Keyed} {na nb : Nat} (J : JH lt a b out na nb) : out.size + na + nb = a.size + b.size := by
  have h := J.j.len
  have h1 := J.hna
  have h2 := J.hnb
  rw [Array.length_toList] at h
  omega
section
variable (C : Cmp M A E s κ P lt) {a b out : Array Keyed} (ha : Srt lt a.toList) (hb : Srt lt b.toList) {na nb : Nat}
include C ha hb
theorem JH.stepA (J : JH lt a b out na nb) {k : Nat} {x : Keyed} (hk : k ≤ na) (h1 : 1 ≤ nb) (hx : b[nb - 1]? = some x) (h : ∀ i y, k ≤ i → i < na → a[i]? = some y → lt x y = true) : JH lt a b (out ++ (a.extract k na).reverse) k nb := by
  have hna := J.hna
  refine ⟨by omega, J.hnb, ?_⟩
  rw [Array.toList_append, ← rev_seg a hna hk]
  have e : a.size - k = (a.size - na) + (na - k) := by omega
  rw [e]
  refine J.j.stepB (srt_rev ha) (by rw [List.length_reverse, Array.length_toList]; omega) fun u hu v hv => ?_
  rw [rev_seg a hna hk] at hu
  obtain ⟨i, hi, e⟩ := Array.mem_iff_getElem.mp (Array.mem_toList_iff.mp hu)
  rw [Array.size_reverse, Array.size_extract] at hi
  have hv' := (srt_rev hb).first (rev_get b J.hnb h1 hx) (C.irrefl x) v hv
  have hau : ∃ n, k ≤ n ∧ n < na ∧ a[n]? = some u := by
    have hu2 : u ∈ a.extract k na := Array.mem_reverse.mp (Array.mem_toList_iff.mp hu)
    obtain ⟨n, hn, en⟩ := Array.mem_iff_getElem.mp hu2
    rw [Array.size_extract] at hn
    rw [Array.getElem_extract] at en
    exact ⟨k + n, by omega, by omega, by rw [← en]; simp⟩
  obtain ⟨n, n1, n2, n3⟩ := hau
  have hlt := h n u n1 n2 n3
  exact C.trans v x u hv' (C.asym _ _ hlt)
theorem JH.stepB (J : JH lt a b out na nb) {k : Nat} {y : Keyed} (hk : k ≤ nb) (h1 : 1 ≤ na) (hy : a[na - 1]? = some y) (h : ∀ i x, k ≤ i → i < nb → b[i]? = some x → lt x y = false) : JH lt a b (out ++ (b.extract k nb).reverse) na k := by
  have hnb := J.hnb
  refine ⟨J.hna, by omega, ?_⟩
  rw [Array.toList_append, ← rev_seg b hnb hk]
  have e : b.size - k = (b.size - nb) + (nb - k) := by omega
  rw [e]
  refine J.j.stepA (srt_rev hb) (by rw [List.length_reverse, Array.length_toList]; omega) fun u hu v hv => ?_
  rw [rev_seg b hnb hk] at hu
  have hv' := (srt_rev ha).first (rev_get a J.hna h1 hy) (C.irrefl y) v hv
  have hau : ∃ n, k ≤ n ∧ n < nb ∧ b[n]? = some u := by
    have hu2 : u ∈ b.extract k nb := Array.mem_reverse.mp (Array.mem_toList_iff.mp hu)
    obtain ⟨n, hn, en⟩ := Array.mem_iff_getElem.mp hu2
    rw [Array.size_extract] at hn
    rw [Array.getElem_extract] at en
    exact ⟨k + n, by omega, by omega, by rw [← en]; simp⟩
  obtain ⟨n, n1, n2, n3⟩ := hau
  exact C.trans v y u hv' (h n u n1 n2 n3)
theorem seg1 (l : Array Keyed) {n : Nat} {x : Keyed} (h1 : 1 ≤ n) (hx : l[n - 1]? = some x) : (l.extract (n - 1) n).reverse = #[x] := by
  obtain ⟨hi, e⟩ := Array.getElem?_eq_some_iff.mp hx
  apply Array.ext
  · rw [Array.size_reverse, Array.size_extract]
    show _ = 1
    omega
  · intro i h2 h3
    have : i = 0 := by
      have : (#[x] : Array Keyed).size = 1 := rfl
      omega
    subst this
    rw [Array.getElem_reverse, Array.getElem_extract]
    rw [← e]
    have hs : (l.extract (n - 1) n).size = 1 := by rw [Array.size_extract]; omega
    simp only [hs]
    rfl
theorem JH.pushA (J : JH lt a b out na nb) {x y : Keyed} (h1 : 1 ≤ na) (h2 : 1 ≤ nb) (hy : a[na - 1]? = some y) (hx : b[nb - 1]? = some x) (h : lt x y = true) : JH lt a b (out.push y) (na - 1) nb := by
  have q := JH.stepA C ha hb J (k := na - 1) (by omega) h2 hx (fun i z i1 i2 hz => by
    have : i = na - 1 := by omega
    subst this
    rw [hy] at hz
    cases hz
    exact h)
  rw [seg1 C ha hb a h1 hy] at q
  exact q
theorem JH.pushB (J : JH lt a b out na nb) {x y : Keyed} (h1 : 1 ≤ na) (h2 : 1 ≤ nb) (hy : a[na - 1]? = some y) (hx : b[nb - 1]? = some x) (h : lt x y = false) : JH lt a b (out.push x) na (nb - 1) := by
  have q := JH.stepB C ha hb J (k := nb - 1) (by omega) h1 hy (fun i z i1 i2 hz => by
    have : i = nb - 1 := by omega
    subst this
    rw [hx] at hz
    cases hz
    exact h)
  rw [seg1 C ha hb b h2 hx] at q
  exact q
theorem ext0 (l : Array Keyed) {n : Nat} (h : n ≤ l.size) : (l.extract 0 n).toList = (l.toList.reverse.drop (l.size - n)).reverse := by
  rw [rev_drop l h, List.reverse_reverse, Array.toList_extract, List.extract_eq_drop_take]
  simp
theorem res_rev {r : List Keyed} (h : Res (flt lt) b.toList.reverse a.toList.reverse r) : Res lt a.toList b.toList r.reverse := by
  refine ⟨?_, srt_unrev h.2⟩
  refine (List.reverse_perm _).trans (h.1.trans ?_)
  refine (List.Perm.append (List.reverse_perm _) (List.reverse_perm _)).trans List.perm_append_comm
theorem JH.done (J : JH lt a b out na nb) (h : na = 0) : Res lt a.toList b.toList (a.extract 0 na ++ b.extract 0 nb ++ out.reverse).toList := by
  subst h
  have q := J.j
  rw [Nat.sub_zero] at q
  have e : a.size = a.toList.reverse.length := by simp
  rw [e] at q
  have r := res_rev C ha hb (q.endB (srt_rev hb))
  rw [List.reverse_append] at r
  rw [Array.toList_append, Array.toList_append, Array.toList_reverse, ext0 C ha hb b J.hnb]
  simpa using r
theorem JH.first (J : JH lt a b out na nb) (h : nb = 1) (h0 : ∀ x ∈ a.toList, ∀ y, b[0]? = some y → lt y x = true) : Res lt a.toList b.toList (b.extract 0 nb ++ a.extract 0 na ++ out.reverse).toList := by
  subst h
  have hnb := J.hnb
  have r := res_rev C ha hb (J.j.last (srt_rev hb) (srt_rev ha) (by rw [List.length_reverse, Array.length_toList]; omega) (fun x hx y hy => by
    obtain ⟨b0, hb0⟩ : ∃ b0, b[0]? = some b0 := ⟨b[0], by simp⟩
    have g := rev_get b hnb (Nat.le_refl 1) hb0
    rw [drop_cons_get g, List.drop_eq_nil_of_le (by rw [List.length_reverse, Array.length_toList]; omega)] at hy
    have : y = b0 := by simpa using hy
    subst this
    exact C.asym _ _ (h0 x (List.mem_reverse.mp hx) y hb0)))
  rw [List.reverse_append, List.reverse_append] at r
  rw [Array.toList_append, Array.toList_append, Array.toList_reverse, ext0 C ha hb b J.hnb, ext0 C ha hb a J.hna, List.append_assoc]
  exact r
end
end
end Tim

set_option Elab.async false
set_option linter.all false
set_option maxRecDepth 100000
set_option maxHeartbeats 8000000
namespace Tim
open PySem PyProof.Rows
section
variable {M : Model} {A : Around} {E : Value → Shared → Prop} {s : Shared} {κ : SortKind} {P : Keyed → Prop} {lt : Keyed → Keyed → Bool}
section
variable (C : Cmp M A E s κ P lt) {a b : Array Keyed} (ha : Srt lt a.toList) (hb : Srt lt b.toList) (pa : ∀ x ∈ a.toList, P x) (pb : ∀ x ∈ b.toList, P x)
include C ha hb pa pb
theorem wpS_mergeHi {st : SortSt} {Q : Array Keyed → SortSt → Prop} (hk : kindOf st = κ) (h1a : 0 < a.size) (h1b : 0 < b.size) (h0 : ∀ x ∈ a.toList, ∀ y, b[0]? = some y → lt y x = true)
    (hl : ∀ x ∈ b.toList, ∀ y, a[a.size - 1]? = some y → lt x y = true)
    (h : ∀ r st', Alike st st' → Res lt a.toList b.toList r.toList → Q r st') : wpS M A E s (mergeHi' a b) Q st := by
  unfold mergeHi'
  refine wpS_bind (wpS_rule ?_)
  dsimp only
  obtain ⟨a0, ha0, ha0', ma0⟩ := get_some C ha hb pa pb (l := a) (i := a.size - 1) (by omega)
  obtain ⟨bz, hbz, hbz', mbz⟩ := get_some C ha hb pa pb (l := b) (i := b.size - 1) (by omega)
  refine wpS_bind (wpS_elem ha0 ?_)
  have J0 : JH lt a b (#[a0] : Array Keyed) (a.size - 1) b.size := by
    have J : JH lt a b #[] a.size b.size := ⟨Nat.le_refl _, Nat.le_refl _, by
      rw [Nat.sub_self, Nat.sub_self]
      exact ⟨Nat.zero_le _, Nat.zero_le _, by simp, List.Pairwise.nil, by simp⟩⟩
    exact J.pushA C ha hb h1a h1b ha0 hbz (hl bz mbz a0 ha0)
  by_cases c1 : a.size - 1 = 0
  · rw [if_pos (by simpa using c1)]
    exact wpS_pure (h _ st (Alike.refl st) (J0.done C ha hb c1))
  rw [if_neg (by simpa using c1)]
  by_cases c2 : b.size = 1
  · rw [if_pos (by simpa using c2)]
    exact wpS_pure (h _ st (Alike.refl st) (J0.first C ha hb c2 h0))
  rw [if_neg (by simpa using c2)]
  refine wpS_bind (wpS_get ?_)
  refine wpS_bind (wpS_mono (wpS_forRange (fun i (c : Option (Array Keyed) × Nat × Nat × Array Keyed × Nat) st' => c.1 = none ∧ Alike st st' ∧ JH lt a b c.2.2.2.1 c.2.1 c.2.2.1 ∧ 1 ≤ c.2.1 ∧ 2 ≤ c.2.2.1 ∧ i + 1 ≤ c.2.2.2.1.size)
    (Q := fun c st' => Alike st st' ∧ ∃ r, c.1 = some r ∧ Res lt a.toList b.toList r.toList) ?_ ?_ ⟨rfl, Alike.refl st, J0, by dsimp only; omega, by dsimp only; omega, by simp⟩) ?_)
  rotate_left
  · rintro ⟨r, na, nb, out, mg⟩ st' ⟨rfl, al, J, a1, a2, a3⟩
    dsimp only at al J a1 a2 a3 ⊢
    have := J.len
    omega
  · rintro ⟨r, na, nb, out, mg⟩ st' ⟨al, r', e, hr⟩
    dsimp only at e
    subst e
    exact wpS_pure (h _ st' al hr)
  rintro i ⟨r, na, nb, out, mg⟩ st' _ hit ⟨rfl, al, J, a1, a2, a3⟩
  dsimp only at al J a1 a2 a3 ⊢
  -- the first loop
  refine wpS_bind (wpS_mono (wpS_forRange (fun j (c : Option (Array Keyed) × Nat × Nat × Array Keyed × Nat × Nat) st2 => st2 = st' ∧ c.1 = none ∧ JH lt a b c.2.2.2.1 c.2.1 c.2.2.1 ∧ 1 ≤ c.2.1 ∧ 2 ≤ c.2.2.1 ∧ out.size ≤ c.2.2.2.1.size ∧ (0 < j → out.size < c.2.2.2.1.size))
    (Q := fun c st2 => st2 = st' ∧ ((∃ r, c.1 = some r ∧ Res lt a.toList b.toList r.toList) ∨ (c.1 = none ∧ JH lt a b c.2.2.2.1 c.2.1 c.2.2.1 ∧ 1 ≤ c.2.1 ∧ 2 ≤ c.2.2.1 ∧ out.size < c.2.2.2.1.size)))
    ?_ ?_ ⟨rfl, rfl, J, a1, a2, Nat.le_refl _, by simp⟩) ?_)
  · rintro j ⟨r, xa, xb, o, ac, bc⟩ st2 _ _ ⟨rfl, rfl, J, b1, b2, b3, b4⟩
    dsimp only at J b1 b2 b3 b4 ⊢
    have hxa := J.hna
    have hxb := J.hnb
    obtain ⟨x, hx, hx', mx⟩ := get_some C ha hb pa pb (l := b) (i := xb - 1) (by omega)
    obtain ⟨y, hy, hy', my⟩ := get_some C ha hb pa pb (l := a) (i := xa - 1) (by omega)
    refine wpS_bind (wpS_elem hx (wpS_bind (wpS_elem hy (wpS_bind (C.run x y st2 _ (pb x mx) (pa y my) (al.k.trans hk) ?_)))))
    dsimp only
    cases hlt : lt x y with
    | true =>
      rw [if_pos rfl]
      refine wpS_bind (wpS_elem hy ?_)
      have J' := J.pushA C ha hb b1 (by omega) hy hx hlt
      have hsz : (o.push y).size = o.size + 1 := by rw [Array.size_push]
      by_cases e : xa - 1 = 0
      · rw [if_pos (by simpa using e)]
        exact wpS_pure ⟨rfl, .inl ⟨_, rfl, J'.done C ha hb e⟩⟩
      · rw [if_neg (by simpa using e)]
        split
        · exact wpS_pure ⟨rfl, .inr ⟨rfl, J', by dsimp only; omega, b2, by dsimp only; omega⟩⟩
        · exact wpS_pure ⟨rfl, rfl, J', by dsimp only; omega, b2, by dsimp only; omega, fun _ => by dsimp only; omega⟩
    | false =>
      rw [if_neg (by simp)]
      refine wpS_bind (wpS_elem hx ?_)
      have J' := J.pushB C ha hb b1 (by omega) hy hx hlt
      have hsz : (o.push x).size = o.size + 1 := by rw [Array.size_push]
      by_cases e : xb - 1 = 1
      · rw [if_pos (by simpa using e)]
        exact wpS_pure ⟨rfl, .inl ⟨_, rfl, J'.first C ha hb e h0⟩⟩
      · rw [if_neg (by simpa using e)]
        split
        · exact wpS_pure ⟨rfl, .inr ⟨rfl, J', b1, by dsimp only; omega, by dsimp only; omega⟩⟩
        · exact wpS_pure ⟨rfl, rfl, J', b1, by dsimp only; omega, by dsimp only; omega, fun _ => by dsimp only; omega⟩
  · rintro ⟨r, xa, xb, o, ac, bc⟩ st2 ⟨rfl, rfl, J, b1, b2, b3, b4⟩
    dsimp only at J b1 b2 b3 b4 ⊢
    exact ⟨rfl, .inr ⟨rfl, J, b1, b2, b4 (by omega)⟩⟩
  rintro ⟨r, xa, xb, o, ac, bc⟩ st2 ⟨rfl, hc⟩
  dsimp only at hc ⊢
  rcases hc with ⟨r', e, hr⟩ | ⟨e, J1, b1, b2, b3⟩
  · subst e
    exact wpS_pure ⟨al, r', rfl, hr⟩
  subst e
  dsimp only
  clear J a1 a2
  refine wpS_bind (wpS_rule ?_)
  -- the second loop
  refine wpS_bind (wpS_mono (wpS_forRange (fun j (c : Option (Array Keyed) × Nat × Nat × Array Keyed × Nat × Nat × Nat) st3 => Alike st st3 ∧ c.1 = none ∧ JH lt a b c.2.2.2.1 c.2.1 c.2.2.1 ∧ 1 ≤ c.2.1 ∧ 2 ≤ c.2.2.1 ∧ out.size < c.2.2.2.1.size)
    (Q := fun c st3 => Alike st st3 ∧ ((∃ r, c.1 = some r ∧ Res lt a.toList b.toList r.toList) ∨ (c.1 = none ∧ JH lt a b c.2.2.2.1 c.2.1 c.2.2.1 ∧ 1 ≤ c.2.1 ∧ 2 ≤ c.2.2.1 ∧ out.size < c.2.2.2.1.size)))
    ?_ ?_ ⟨al, rfl, J1, b1, b2, b3⟩) ?_)
  rotate_left
  · rintro ⟨r, xa, xb, o, mg, ac, bc⟩ st3 ⟨al3, rfl, J, b1, b2, b3⟩
    exact ⟨al3, .inr ⟨rfl, J, b1, b2, b3⟩⟩
  · rintro ⟨r, xa, xb, o, mg, ac, bc⟩ st3 ⟨al3, hc⟩
    dsimp only at hc ⊢
    rcases hc with ⟨r', e, hr⟩ | ⟨e, J, b1, b2, b3⟩
    · subst e
      exact wpS_pure ⟨al3, r', rfl, hr⟩
    · subst e
      dsimp only
      exact wpS_bind (wpS_modify (wpS_pure ⟨rfl, al3.setG _, J, b1, b2, by dsimp only; omega⟩))
  rintro j ⟨r, xa, xb, o, mg, ac, bc⟩ st3 _ _ ⟨al3, rfl, J, b1, b2, b3⟩
  dsimp only at J b1 b2 b3 ⊢
  have hxa := J.hna
  have hxb := J.hnb
  obtain ⟨x, hx, hx', mx⟩ := get_some C ha hb pa pb (l := b) (i := xb - 1) (by omega)
  refine iteBoth ?_ ?_
  all_goals
    refine wpS_bind (wpS_modify ?_)
    have al4 : ∀ g, Alike st (setG st3 g) := fun g => al3.setG g
    refine wpS_bind (wpS_elem hx ?_)
    refine wpS_bind (wpS_gallop C (B := fun i => !lt x (a.toList.getD i x)) ((al4 _).k.trans hk) (pb x mx) ?_ ?_ (Nat.sub_lt b1 (by decide)) fun k p1 p2 p3 => ?_)
    · intro i hi
      obtain ⟨z, hz, hz', mz⟩ := get_some C ha hb pa pb (l := a) (i := i) (by omega)
      refine ⟨z, by rw [Nat.zero_add]; exact hz, pa z mz, ?_⟩
      show (!lt x z) = !lt x (a.toList.getD i x)
      rw [List.getD_eq_getElem?_getD, hz']
      rfl
    · intro i' j' hij hj hbj
      obtain ⟨u, hu, hu', mu⟩ := get_some C ha hb pa pb (l := a) (i := i') (by omega)
      obtain ⟨v, hv, hv', mv⟩ := get_some C ha hb pa pb (l := a) (i := j') (by omega)
      rw [List.getD_eq_getElem?_getD, hv'] at hbj
      rw [List.getD_eq_getElem?_getD, hu']
      replace hbj : (!lt x v) = true := hbj
      show (!lt x u) = true
      have hle : lt v u = false := ha.first hu' (C.irrefl u) v (by
        have := List.mem_of_getElem? (l := a.toList.drop i') (i := j' - i') (a := v) (by rw [List.getElem?_drop]; rw [show i' + (j' - i') = j' by omega]; exact hv')
        exact this)
      have hyv : lt x v = false := by simpa using hbj
      rw [C.trans _ _ _ hle hyv]
      rfl
    have J1' : JH lt a b (o ++ (a.extract k xa).reverse) k xb := J.stepA C ha hb p1 (by omega) hx (fun i z i1 i2 hz => by
      have q := p3 i i1 i2
      rw [List.getD_eq_getElem?_getD, Array.getElem?_toList, hz] at q
      simpa using q)
    have hlenA := J1'.len
    have hlenJ := J.len
    dsimp only
    rcases Nat.eq_zero_or_pos (xa - k) with ek | pk
    · have ek' : k = xa := by omega
      rw [if_neg (by omega)]
      obtain ⟨y2, hy2, hy2', my2⟩ := get_some C ha hb pa pb (l := a) (i := xa - 1) (by omega)
      have hlt2 : lt x y2 = false := by
        have q := p2 (xa - 1) (by omega)
        rw [List.getD_eq_getElem?_getD, hy2'] at q
        simpa using q

      refine wpS_bind (wpS_elem hx ?_)
      have J2 := J.pushB C ha hb b1 (by omega) hy2 hx hlt2
      have hsz2 : ((o).push x).size = (o).size + 1 := by rw [Array.size_push]
      by_cases e2 : xb - 1 = 1
      · rw [if_pos (by simpa using e2)]
        exact wpS_pure ⟨al4 _, .inl ⟨_, rfl, J2.first C ha hb e2 h0⟩⟩
      rw [if_neg (by simpa using e2)]
      refine wpS_bind (wpS_elem hy2 ?_)
      have hxb2 : 2 ≤ xb - 1 := by omega
      have hxbs : xb - 1 ≤ b.size := J2.hnb
      refine wpS_bind (wpS_gallop C (B := fun i => lt (b.toList.getD i y2) y2) ((al4 _).k.trans hk) (pa y2 my2) ?_ ?_ (Nat.sub_lt (Nat.lt_of_lt_of_le (by decide) hxb2) (by decide)) fun k2 q1 q2 q3 => ?_)
      · intro i hi
        obtain ⟨z, hz, hz', mz⟩ := get_some C ha hb pa pb (l := b) (i := i) (by omega)
        refine ⟨z, by rw [Nat.zero_add]; exact hz, pb z mz, ?_⟩
        show lt z y2 = lt (b.toList.getD i y2) y2
        rw [List.getD_eq_getElem?_getD, hz']
        rfl
      · intro i' j' hij hj hbj
        obtain ⟨u, hu, hu', mu⟩ := get_some C ha hb pa pb (l := b) (i := i') (by omega)
        obtain ⟨v, hv, hv', mv⟩ := get_some C ha hb pa pb (l := b) (i := j') (by omega)
        rw [List.getD_eq_getElem?_getD, hv'] at hbj
        rw [List.getD_eq_getElem?_getD, hu']
        replace hbj : lt v y2 = true := hbj
        show lt u y2 = true
        cases hlu : lt u y2 with
        | true => rfl
        | false =>
          have hle : lt v u = false := hb.first hu' (C.irrefl u) v (by
            have := List.mem_of_getElem? (l := b.toList.drop i') (i := j' - i') (a := v) (by rw [List.getElem?_drop]; rw [show i' + (j' - i') = j' by omega]; exact hv')
            exact this)
          have := C.trans _ _ _ hlu hle
          rw [hbj] at this
          cases this
      have hk1 : 1 ≤ k2 := by
        rcases Nat.eq_zero_or_pos k2 with e | e
        · have q := q3 0 (by omega) (by omega)
          obtain ⟨z, hz, hz', mz⟩ := get_some C ha hb pa pb (l := b) (i := 0) (by omega)
          rw [List.getD_eq_getElem?_getD, hz'] at q
          have := h0 y2 my2 z hz
          rw [show (some z : Option Keyed).getD y2 = z from rfl] at q
          rw [this] at q
          cases q
        · exact e
      obtain ⟨x3, hx3, hx3', mx3⟩ := get_some C ha hb pa pb (l := b) (i := k2 - 1) (by omega)
      have hlt3 : lt x3 y2 = true := by
        have q := q2 (k2 - 1) (by omega)
        rw [List.getD_eq_getElem?_getD, hx3'] at q
        exact q
      have J3 : JH lt a b ((o).push x ++ (b.extract k2 (xb - 1)).reverse) xa k2 := J2.stepB C ha hb (by omega) b1 hy2 (fun i z i1 i2 hz => by
        have q := q3 i i1 i2
        rw [List.getD_eq_getElem?_getD, Array.getElem?_toList, hz] at q
        exact q)
      have hsz3 := J3.len
      have hlen2 := J2.len
      have hlen1 := J.len
      dsimp only
      rcases Nat.eq_zero_or_pos (xb - 1 - k2) with ek2 | pk2
      · have ek3 : k2 = xb - 1 := by omega
        rw [if_neg (by omega)]
        refine wpS_bind (wpS_elem hy2 ?_)
        subst ek3
        have J4 := J2.pushA C ha hb b1 (by omega) hy2 hx3 hlt3
        have s4 : (((o).push x).push y2).size = (o).size + 1 + 1 := by rw [Array.size_push, Array.size_push]
        by_cases e4 : xa - 1 = 0
        · rw [if_pos (by simpa using e4)]
          exact wpS_pure ⟨al4 _, .inl ⟨_, rfl, J4.done C ha hb e4⟩⟩
        rw [if_neg (by simpa using e4)]
        split
        · exact wpS_pure ⟨al4 _, .inr ⟨rfl, J4, by dsimp only; omega, by dsimp only; omega, by dsimp only; omega⟩⟩
        · exact wpS_pure ⟨al4 _, rfl, J4, by dsimp only; omega, by dsimp only; omega, by dsimp only; omega⟩
      rw [if_pos pk2]
      by_cases e5 : k2 = 1
      · rw [if_pos (by simpa using e5)]
        exact wpS_pure ⟨al4 _, .inl ⟨_, rfl, J3.first C ha hb e5 h0⟩⟩
      rw [if_neg (by simpa using e5), if_neg (by simp; omega)]
      refine wpS_bind (wpS_elem hy2 ?_)
      have J4 := J3.pushA C ha hb b1 (by omega) hy2 hx3 hlt3
      have hlen4 := J4.len
      by_cases e4 : xa - 1 = 0
      · rw [if_pos (by simpa using e4)]
        exact wpS_pure ⟨al4 _, .inl ⟨_, rfl, J4.done C ha hb e4⟩⟩
      rw [if_neg (by simpa using e4)]
      split
      · exact wpS_pure ⟨al4 _, .inr ⟨rfl, J4, by dsimp only; omega, by dsimp only; omega, by dsimp only; omega⟩⟩
      · exact wpS_pure ⟨al4 _, rfl, J4, by dsimp only; omega, by dsimp only; omega, by dsimp only; omega⟩
    rw [if_pos pk]
    by_cases e6 : k = 0
    · rw [if_pos (by simpa using e6)]
      exact wpS_pure ⟨al4 _, .inl ⟨_, rfl, J1'.done C ha hb e6⟩⟩
    rw [if_neg (by simpa using e6)]
    have hk1' : 1 ≤ k := by omega
    obtain ⟨y2, hy2, hy2', my2⟩ := get_some C ha hb pa pb (l := a) (i := k - 1) (by omega)
    have hlt2 : lt x y2 = false := by
      have q := p2 (k - 1) (by omega)
      rw [List.getD_eq_getElem?_getD, hy2'] at q
      simpa using q

    refine wpS_bind (wpS_elem hx ?_)
    have J2 := J1'.pushB C ha hb hk1' (by omega) hy2 hx hlt2
    have hsz2 : (((o ++ (a.extract k xa).reverse)).push x).size = ((o ++ (a.extract k xa).reverse)).size + 1 := by rw [Array.size_push]
    by_cases e2 : xb - 1 = 1
    · rw [if_pos (by simpa using e2)]
      exact wpS_pure ⟨al4 _, .inl ⟨_, rfl, J2.first C ha hb e2 h0⟩⟩
    rw [if_neg (by simpa using e2)]
    refine wpS_bind (wpS_elem hy2 ?_)
    have hxb2 : 2 ≤ xb - 1 := by omega
    have hxbs : xb - 1 ≤ b.size := J2.hnb
    refine wpS_bind (wpS_gallop C (B := fun i => lt (b.toList.getD i y2) y2) ((al4 _).k.trans hk) (pa y2 my2) ?_ ?_ (Nat.sub_lt (Nat.lt_of_lt_of_le (by decide) hxb2) (by decide)) fun k2 q1 q2 q3 => ?_)
    · intro i hi
      obtain ⟨z, hz, hz', mz⟩ := get_some C ha hb pa pb (l := b) (i := i) (by omega)
      refine ⟨z, by rw [Nat.zero_add]; exact hz, pb z mz, ?_⟩
      show lt z y2 = lt (b.toList.getD i y2) y2
      rw [List.getD_eq_getElem?_getD, hz']
      rfl
    · intro i' j' hij hj hbj
      obtain ⟨u, hu, hu', mu⟩ := get_some C ha hb pa pb (l := b) (i := i') (by omega)
      obtain ⟨v, hv, hv', mv⟩ := get_some C ha hb pa pb (l := b) (i := j') (by omega)
      rw [List.getD_eq_getElem?_getD, hv'] at hbj
      rw [List.getD_eq_getElem?_getD, hu']
      replace hbj : lt v y2 = true := hbj
      show lt u y2 = true
      cases hlu : lt u y2 with
      | true => rfl
      | false =>
        have hle : lt v u = false := hb.first hu' (C.irrefl u) v (by
          have := List.mem_of_getElem? (l := b.toList.drop i') (i := j' - i') (a := v) (by rw [List.getElem?_drop]; rw [show i' + (j' - i') = j' by omega]; exact hv')
          exact this)
        have := C.trans _ _ _ hlu hle
        rw [hbj] at this
        cases this
    have hk1 : 1 ≤ k2 := by
      rcases Nat.eq_zero_or_pos k2 with e | e
      · have q := q3 0 (by omega) (by omega)
        obtain ⟨z, hz, hz', mz⟩ := get_some C ha hb pa pb (l := b) (i := 0) (by omega)
        rw [List.getD_eq_getElem?_getD, hz'] at q
        have := h0 y2 my2 z hz
        rw [show (some z : Option Keyed).getD y2 = z from rfl] at q
        rw [this] at q
        cases q
      · exact e
    obtain ⟨x3, hx3, hx3', mx3⟩ := get_some C ha hb pa pb (l := b) (i := k2 - 1) (by omega)
    have hlt3 : lt x3 y2 = true := by
      have q := q2 (k2 - 1) (by omega)
      rw [List.getD_eq_getElem?_getD, hx3'] at q
      exact q
    have J3 : JH lt a b (((o ++ (a.extract k xa).reverse)).push x ++ (b.extract k2 (xb - 1)).reverse) k k2 := J2.stepB C ha hb (by omega) hk1' hy2 (fun i z i1 i2 hz => by
      have q := q3 i i1 i2
      rw [List.getD_eq_getElem?_getD, Array.getElem?_toList, hz] at q
      exact q)
    have hsz3 := J3.len
    have hlen2 := J2.len
    have hlen1 := J1'.len
    dsimp only
    rcases Nat.eq_zero_or_pos (xb - 1 - k2) with ek2 | pk2
    · have ek3 : k2 = xb - 1 := by omega
      rw [if_neg (by omega)]
      refine wpS_bind (wpS_elem hy2 ?_)
      subst ek3
      have J4 := J2.pushA C ha hb hk1' (by omega) hy2 hx3 hlt3
      have s4 : ((((o ++ (a.extract k xa).reverse)).push x).push y2).size = ((o ++ (a.extract k xa).reverse)).size + 1 + 1 := by rw [Array.size_push, Array.size_push]
      by_cases e4 : k - 1 = 0
      · rw [if_pos (by simpa using e4)]
        exact wpS_pure ⟨al4 _, .inl ⟨_, rfl, J4.done C ha hb e4⟩⟩
      rw [if_neg (by simpa using e4)]
      split
      · exact wpS_pure ⟨al4 _, .inr ⟨rfl, J4, by dsimp only; omega, by dsimp only; omega, by dsimp only; omega⟩⟩
      · exact wpS_pure ⟨al4 _, rfl, J4, by dsimp only; omega, by dsimp only; omega, by dsimp only; omega⟩
    rw [if_pos pk2]
    by_cases e5 : k2 = 1
    · rw [if_pos (by simpa using e5)]
      exact wpS_pure ⟨al4 _, .inl ⟨_, rfl, J3.first C ha hb e5 h0⟩⟩
    rw [if_neg (by simpa using e5), if_neg (by simp; omega)]
    refine wpS_bind (wpS_elem hy2 ?_)
    have J4 := J3.pushA C ha hb hk1' (by omega) hy2 hx3 hlt3
    have hlen4 := J4.len
    by_cases e4 : k - 1 = 0
    · rw [if_pos (by simpa using e4)]
      exact wpS_pure ⟨al4 _, .inl ⟨_, rfl, J4.done C ha hb e4⟩⟩
    rw [if_neg (by simpa using e4)]
    split
    · exact wpS_pure ⟨al4 _, .inr ⟨rfl, J4, by dsimp only; omega, by dsimp only; omega, by dsimp only; omega⟩⟩
    · exact wpS_pure ⟨al4 _, rfl, J4, by dsimp only; omega, by dsimp only; omega, by dsimp only; omega⟩
end
end
end Tim

set_option Elab.async false
set_option linter.all false
set_option maxRecDepth 100000
set_option maxHeartbeats 8000000
namespace Tim
open PySem PyProof.Rows
abbrev Asc (lt : Keyed → Keyed → Bool) (xs : Array Keyed) (lo hi : Nat) : Prop := ∀ i j x y, lo ≤ i → i < j → j < hi → xs[i]? = some x → xs[j]? = some y → lt y x = false
abbrev Dsc (lt : Keyed → Keyed → Bool) (xs : Array Keyed) (lo hi : Nat) : Prop := ∀ i j x y, lo ≤ i → i < j → j < hi → xs[i]? = some x → xs[j]? = some y → lt x y = false
abbrev Eqv (lt : Keyed → Keyed → Bool) (xs : Array Keyed) (lo hi : Nat) : Prop := ∀ i j x y, lo ≤ i → i < hi → lo ≤ j → j < hi → xs[i]? = some x → xs[j]? = some y → lt x y = false
/-- only the places from lo to hi have changed theirs among them -/
structure Seg (xs ys : Array Keyed) (lo hi : Nat) : Prop where
  perm : ys.Perm xs
  out : ∀ i : Nat, i < lo ∨ hi ≤ i → ys[i]? = xs[i]?
theorem Seg.refl (xs : Array Keyed) (lo hi : Nat) : Seg xs xs lo hi := ⟨Array.Perm.refl _, fun _ _ => rfl⟩
theorem Seg.trans {xs ys zs : Array Keyed} {lo hi : Nat} (a : Seg xs ys lo hi) (b : Seg ys zs lo hi) : Seg xs zs lo hi := ⟨b.perm.trans a.perm, fun i h => (b.out i h).trans (a.out i h)⟩
theorem Seg.wide {xs ys : Array Keyed} {lo hi lo' hi' : Nat} (a : Seg xs ys lo hi) (h1 : lo' ≤ lo) (h2 : hi ≤ hi') : Seg xs ys lo' hi' := ⟨a.perm, fun i h => a.out i (by omega)⟩
theorem Seg.size {xs ys : Array Keyed} {lo hi : Nat} (a : Seg xs ys lo hi) : ys.size = xs.size := a.perm.size_eq
theorem seg_mirror {xs : Array Keyed} {i j : Nat} (hj : j ≤ xs.size) : Seg xs (mirror xs i j ((j - i) / 2)) i j :=
  ⟨mirror_perm _ _ _ _, fun k h => by rw [getElem?_mirror_all hj, if_neg (by omega)]⟩
theorem Asc.congr {lt : Keyed → Keyed → Bool} {xs ys : Array Keyed} {lo hi : Nat} (h : Asc lt xs lo hi) (e : ∀ i : Nat, lo ≤ i → i < hi → ys[i]? = xs[i]?) : Asc lt ys lo hi := fun i j x y a b c d f => h i j x y a b c (by rw [← e i a (by omega)]; exact d) (by rw [← e j (by omega) c]; exact f)
section
variable {M : Model} {A : Around} {E : Value → Shared → Prop} {s : Shared} {κ : SortKind} {P : Keyed → Prop} {lt : Keyed → Keyed → Bool}
section
variable (C : Cmp M A E s κ P lt) {xs : Array Keyed} {lo hi n : Nat} {x y : Keyed}
include C
theorem Asc.more (h : Asc lt xs lo (lo + n)) (h1 : 1 ≤ n) (hx : xs[lo + n - 1]? = some x) (hy : xs[lo + n]? = some y) (hl : lt y x = false) : Asc lt xs lo (lo + (n + 1)) := by
  intro i j u v a b c d f
  rcases Nat.lt_or_ge j (lo + n) with hj | hj
  · exact h i j u v a b hj d f
  · have : j = lo + n := by omega
    subst this
    rw [hy] at f
    cases f
    rcases Nat.lt_or_ge i (lo + n - 1) with hi | hi
    · exact C.trans u x y (h i (lo + n - 1) u x a hi (by omega) d hx) hl
    · have : i = lo + n - 1 := by omega
      subst this
      rw [hx] at d
      cases d
      exact hl
theorem Dsc.more (h : Dsc lt xs lo (lo + n)) (h1 : 1 ≤ n) (hx : xs[lo + n - 1]? = some x) (hy : xs[lo + n]? = some y) (hl : lt x y = false) : Dsc lt xs lo (lo + (n + 1)) := by
  intro i j u v a b c d f
  rcases Nat.lt_or_ge j (lo + n) with hj | hj
  · exact h i j u v a b hj d f
  · have : j = lo + n := by omega
    subst this
    rw [hy] at f
    cases f
    rcases Nat.lt_or_ge i (lo + n - 1) with hi | hi
    · exact C.trans y x u hl (h i (lo + n - 1) u x a hi (by omega) d hx)
    · have : i = lo + n - 1 := by omega
      subst this
      rw [hx] at d
      cases d
      exact hl
theorem Dsc.flip (h : Dsc lt xs lo hi) (hs : hi ≤ xs.size) : Asc lt (mirror xs lo hi ((hi - lo) / 2)) lo hi := by
  intro i j u v a b c d f
  rw [getElem?_mirror_all hs, if_pos (by omega)] at d f
  exact h _ _ v u (by omega) (by omega) (by omega) f d
theorem Dsc.block {p : Nat} (h : Dsc lt xs lo hi) (e : Eqv lt xs p hi) (hp : lo ≤ p) (hs : hi ≤ xs.size) : Dsc lt (mirror xs p hi ((hi - p) / 2)) lo hi := by
  intro i j u v a b c d f
  rw [getElem?_mirror_all hs] at d f
  by_cases hj : p ≤ j ∧ j < hi
  · rw [if_pos hj] at f
    by_cases hi' : p ≤ i ∧ i < hi
    · rw [if_pos hi'] at d
      exact e _ _ u v (by omega) (by omega) (by omega) (by omega) d f
    · rw [if_neg hi'] at d
      exact h i _ u v a (by omega) (by omega) d f
  · rw [if_neg hj] at f
    rw [if_neg (by omega)] at d
    exact h i j u v a b c d f
/-- rising and falling at once: all alike -/
theorem Asc.eqv (h : Asc lt xs lo (lo + n)) (h1 : 1 ≤ n) (hn : lo + n ≤ xs.size) (hx : xs[lo]? = some x) (hy : xs[lo + n - 1]? = some y) (hl : lt x y = false) : Eqv lt xs lo (lo + n) := by
  have lox : ∀ i u, lo ≤ i → i < lo + n → xs[i]? = some u → lt u x = false := fun i u a b c => by
    rcases Nat.lt_or_ge lo i with hi | hi
    · exact h lo i x u (Nat.le_refl _) hi b hx c
    · have : i = lo := by omega
      subst this
      rw [hx] at c
      cases c
      exact C.irrefl x
  have hiy : ∀ i u, lo ≤ i → i < lo + n → xs[i]? = some u → lt y u = false := fun i u a b c => by
    rcases Nat.lt_or_ge i (lo + n - 1) with hi | hi
    · exact h i (lo + n - 1) u y a hi (by omega) c hy
    · have : i = lo + n - 1 := by omega
      subst this
      rw [hy] at c
      cases c
      exact C.irrefl y
  intro i j u v a b c d f g
  -- v at most y at most x at most u
  exact C.trans v y u (hiy j v c d g) (C.trans y x u hl (lox i u a b f))
theorem Eqv.dsc (h : Eqv lt xs lo hi) : Dsc lt xs lo hi := fun i j x y a b c d f => h i j x y a (by omega) (by omega) c d f
theorem Eqv.flip (h : Eqv lt xs lo hi) (hs : hi ≤ xs.size) : Eqv lt (mirror xs lo hi ((hi - lo) / 2)) lo hi := by
  intro i j u v a b c d f g
  rw [getElem?_mirror_all hs, if_pos (by omega)] at f g
  exact h _ _ u v (by omega) (by omega) (by omega) (by omega) f g
theorem Eqv.more {p : Nat} (h : Eqv lt xs p (lo + n)) (hp : p + 1 ≤ lo + n) (hx : xs[lo + n - 1]? = some x) (hy : xs[lo + n]? = some y) (h1 : lt y x = false) (h2 : lt x y = false) : Eqv lt xs p (lo + (n + 1)) := by
  have up : ∀ i u, p ≤ i → i < lo + n → xs[i]? = some u → lt u y = false ∧ lt y u = false := fun i u a b c =>
    ⟨C.trans y x u h2 (h i (lo + n - 1) u x a b (by omega) (by omega) c hx), C.trans u x y (h (lo + n - 1) i x u (by omega) (by omega) a b hx c) h1⟩
  intro i j u v a b c d f g
  rcases Nat.lt_or_ge i (lo + n) with hi | hi
  · rcases Nat.lt_or_ge j (lo + n) with hj | hj
    · exact h i j u v a hi c hj f g
    · have : j = lo + n := by omega
      subst this
      rw [hy] at g
      cases g
      exact (up i u a hi f).1
  · have : i = lo + n := by omega
    subst this
    rw [hy] at f
    cases f
    rcases Nat.lt_or_ge j (lo + n) with hj | hj
    · exact (up j v c hj g).2
    · have : j = lo + n := by omega
      subst this
      rw [hy] at g
      cases g
      exact C.irrefl y
theorem wpS_ltAt2 {st : SortSt} {i j : Nat} {Q : Option Bool → SortSt → Prop} (hk : kindOf st = κ) (hx : (arrOf st)[i]? = some x) (hy : (arrOf st)[j]? = some y) (px : P x) (py : P y) (q : Q (some (lt x y)) st) : wpS M A E s (ltAt' i j) Q st := by
  rw [ltAt'_eq]
  refine wpS_bind (wpS_get ?_)
  exact wpS_bind (wpS_elem hx (wpS_bind (wpS_elem hy (C.run x y st Q px py hk q))))
theorem wpS_rev {st : SortSt} {i j : Nat} {Q : Unit → SortSt → Prop} (q : Q () (setArr st (mirror (arrOf st) i j ((j - i) / 2)))) : wpS M A E s (reverseSlice' i j) Q st := by
  rw [reverseSlice'_eq]
  exact wpS_modify q
end
theorem get_at {xs : Array Keyed} {i : Nat} (h : i < xs.size) (pp : ∀ x ∈ xs.toList, P x) : ∃ x, xs[i]? = some x ∧ P x := ⟨xs[i], by simp [h], pp _ (by simp)⟩
theorem all_perm {xs ys : Array Keyed} (h : ys.Perm xs) (pp : ∀ x ∈ xs.toList, P x) : ∀ x ∈ ys.toList, P x := fun x hx => pp x ((Array.perm_iff_toList_perm.mp h).mem_iff.mp hx)
section
variable (C : Cmp M A E s κ P lt)
include C
/-- a run is counted, and turned round where it falls -/
theorem wpS_countRun {st : SortSt} {lo nrem : Nat} {Q : Option Nat → SortSt → Prop} (hk : kindOf st = κ) (pp : ∀ x ∈ (arrOf st).toList, P x) (h1 : 1 ≤ nrem) (hs : lo + nrem ≤ (arrOf st).size)
    (h : ∀ n xs, 1 ≤ n → n ≤ nrem → Seg (arrOf st) xs lo (lo + nrem) → Asc lt xs lo (lo + n) → Q (some n) (setArr st xs)) : wpS M A E s (countRun' lo nrem) Q st := by
  have up : ∀ {xs : Array Keyed} {n : Nat}, Seg (arrOf st) xs lo (lo + nrem) → n < nrem → ∃ y, xs[lo + n]? = some y ∧ P y := fun sg hn => get_at (by rw [sg.size]; omega) (all_perm sg.perm pp)
  rw [countRun'_eq]
  dsimp only
  refine wpS_bind (wpS_mono (wpS_forRange (fun i (c : Option (Option Nat) × Nat) st' => st' = st ∧ c.1 = none ∧ c.2 = i ∧ Asc lt (arrOf st) lo (lo + c.2))
    (Q := fun c st' => st' = st ∧ c.1 = none ∧ 1 ≤ c.2 ∧ c.2 ≤ nrem ∧ Asc lt (arrOf st) lo (lo + c.2) ∧ (c.2 < nrem → ∃ x y, (arrOf st)[lo + c.2 - 1]? = some x ∧ (arrOf st)[lo + c.2]? = some y ∧ lt y x = true))
    ?_ ?_ ⟨rfl, rfl, rfl, fun i j x y a b c => by dsimp only at c; omega⟩) ?_)
  · rintro i ⟨r, n⟩ st' g1 g2 ⟨rfl, rfl, rfl, hA⟩
    dsimp only at g1 g2 hA ⊢
    obtain ⟨y, hy, py⟩ := up (Seg.refl _ _ _) g2
    obtain ⟨x, hx, px⟩ := up (n := n - 1) (Seg.refl _ _ _) (by omega)
    rw [show lo + (n - 1) = lo + n - 1 by omega] at hx
    refine wpS_bind (wpS_ltAt2 C hk hy hx py px ?_)
    dsimp only
    cases hlt : lt y x with
    | true => exact wpS_pure ⟨rfl, rfl, g1, by dsimp only; omega, hA, fun _ => ⟨x, y, hx, hy, hlt⟩⟩
    | false => exact wpS_pure ⟨rfl, rfl, rfl, hA.more C g1 hx hy hlt⟩
  · rintro ⟨r, n⟩ st' ⟨rfl, rfl, rfl, hA⟩
    dsimp only at hA ⊢
    exact ⟨rfl, rfl, by omega, by omega, hA, fun _ => by omega⟩
  rintro ⟨r, n⟩ st' ⟨rfl, rfl, n1, n2, hA, hn⟩
  dsimp only at n1 n2 hA hn ⊢
  by_cases e : n = nrem
  · rw [if_pos (by simpa using e)]
    exact wpS_pure (h n (arrOf st') n1 n2 (Seg.refl _ _ _) hA)
  rw [if_neg (by simpa using e)]
  have hlt : n < nrem := by omega
  obtain ⟨x, y, hx, hy, hyx⟩ := hn hlt
  by_cases hn1 : n > 1
  · rw [if_pos hn1]
    obtain ⟨z, hz, pz⟩ := up (n := 0) (Seg.refl _ _ _) (by omega)
    obtain ⟨x', hx', px'⟩ := up (n := n - 1) (Seg.refl _ _ _) (by omega)
    rw [show lo + (n - 1) = lo + n - 1 by omega] at hx'
    rw [hx] at hx'
    cases hx'
    rw [Nat.add_zero] at hz
    refine wpS_bind (wpS_ltAt2 C hk hz hx pz px' ?_)
    dsimp only
    cases h3 : lt z x with
    | true => exact wpS_pure (h n (arrOf st') n1 n2 (Seg.refl _ _ _) hA)
    | false =>
      rw [if_neg (by simp)]
      have hE := hA.eqv C n1 (by omega) hz hx h3
      have hms : lo + n ≤ (arrOf st').size := by omega
      refine wpS_bind (wpS_rev C ?_)
      have sg := (seg_mirror (i := lo) hms).wide (lo' := lo) (hi' := lo + nrem) (Nat.le_refl _) (by omega)
      have hD : Dsc lt (mirror (arrOf st') lo (lo + n) ((lo + n - lo) / 2)) lo (lo + (n + 1)) := by
        have hE2 := hE.flip C hms
        have hD2 := Eqv.dsc C hE
        have hD3 := hD2.more C n1 hx hy (C.asym _ _ hyx)
        intro i j a b c1 c2 c3 c4 c5
        rcases Nat.lt_or_ge j (lo + n) with hj | hj
        · exact Eqv.dsc C hE2 i j a b c1 c2 hj c4 c5
        · have ej : j = lo + n := by omega
          subst ej
          rw [getElem?_mirror_all hms, if_neg (by omega)] at c5
          rw [getElem?_mirror_all hms, if_pos (by omega)] at c4
          exact hD3 _ (lo + n) a b (by omega) (by omega) (by omega) c4 c5
      generalize mirror (arrOf st') lo (lo + n) ((lo + n - lo) / 2) = xs at sg hD
      refine wpS_bind (wpS_rule ?_)
      refine wpS_bind (wpS_mono (wpS_forRange (fun i (c : Option (Option Nat) × Nat × Nat) st2 => ∃ ys, st2 = setArr st' ys ∧ c.1 = none ∧ c.2.1 = i ∧ n + 1 ≤ i ∧ i ≤ nrem ∧ c.2.2 + 1 ≤ c.2.1 ∧ Seg (arrOf st') ys lo (lo + nrem) ∧ Dsc lt ys lo (lo + c.2.1) ∧ Eqv lt ys (lo + c.2.1 - (c.2.2 + 1)) (lo + c.2.1))
        (Q := fun c st2 => ∃ ys, st2 = setArr st' ys ∧ c.1 = none ∧ n + 1 ≤ c.2.1 ∧ c.2.1 ≤ nrem ∧ c.2.2 + 1 ≤ c.2.1 ∧ Seg (arrOf st') ys lo (lo + nrem) ∧ Dsc lt ys lo (lo + c.2.1) ∧ Eqv lt ys (lo + c.2.1 - (c.2.2 + 1)) (lo + c.2.1))
        ?_ ?_ ⟨xs, rfl, rfl, rfl, Nat.le_refl _, hlt, by dsimp only; omega, sg, hD, fun i j u v a b c d f g => by
          have : i = j := by dsimp only at a b c d; omega
          subst this
          rw [f] at g
          cases g
          exact C.irrefl u⟩) ?_)
      · rintro i ⟨r, m, q⟩ st2 g1 g2 ⟨ys, rfl, rfl, rfl, g3, g4, g5, sgy, hD, hE⟩
        dsimp only at g1 g2 g3 g4 g5 hD hE ⊢
        obtain ⟨v, hv, pv⟩ := up sgy g2
        obtain ⟨u, hu, pu⟩ := up (n := m - 1) sgy (by omega)
        rw [show lo + (m - 1) = lo + m - 1 by omega] at hu
        refine wpS_bind (wpS_ltAt2 C hk (st := setArr st' ys) hv hu pv pu ?_)
        dsimp only
        have hms : lo + m ≤ ys.size := by rw [sgy.size]; omega
        cases h2 : lt v u with
        | true =>
          rw [if_pos rfl]
          have hD2 := hD.more C (by omega) hu hv (C.asym _ _ h2)
          have one : ∀ (zs : Array Keyed), Eqv lt zs (lo + (m + 1) - (0 + 1)) (lo + (m + 1)) := fun zs i j a b c1 c2 c3 c4 c5 c6 => by
            have : i = j := by omega
            subst this
            rw [c5] at c6
            cases c6
            exact C.irrefl a
          by_cases hq : q > 0
          · rw [if_pos hq]
            refine wpS_bind (wpS_rev C (wpS_pure ?_))
            have sgm := seg_mirror (xs := ys) (i := lo + m - (q + 1)) hms
            refine ⟨_, rfl, rfl, rfl, by omega, by omega, by dsimp only; omega, sgy.trans (sgm.wide (by omega) (by omega)), ?_, one _⟩
            -- the new one lies behind all of them
            intro i j a b c1 c2 c3 c4 c5
            dsimp only at c3
            have hb := hD.block C hE (by omega) hms
            rcases Nat.lt_or_ge j (lo + m) with hj | hj
            · exact hb i j a b c1 c2 hj c4 c5
            · have ej : j = lo + m := by omega
              subst ej
              have e5 : ys[lo + m]? = some b := by rw [← sgm.out (lo + m) (.inr (Nat.le_refl _))]; exact c5
              have c4' : (mirror ys (lo + m - (q + 1)) (lo + m) ((lo + m - (lo + m - (q + 1))) / 2))[i]? = some a := c4
              rw [getElem?_mirror_all hms] at c4'
              by_cases hi : lo + m - (q + 1) ≤ i ∧ i < lo + m
              · rw [if_pos hi] at c4'
                exact hD2 _ (lo + m) a b (by omega) (by omega) (by omega) c4' e5
              · rw [if_neg hi] at c4'
                exact hD2 i (lo + m) a b c1 (by omega) (by omega) c4' e5
          · rw [if_neg hq]
            exact wpS_pure ⟨ys, rfl, rfl, rfl, by omega, by omega, by dsimp only; omega, sgy, hD2, one _⟩
        | false =>
          rw [if_neg (by simp)]
          refine wpS_bind (wpS_ltAt2 C hk (st := setArr st' ys) hu hv pu pv ?_)
          dsimp only
          cases h3 : lt u v with
          | true => exact wpS_pure ⟨ys, rfl, rfl, g3, by dsimp only; omega, g5, sgy, hD, hE⟩
          | false =>
            refine wpS_pure ⟨ys, rfl, rfl, rfl, by omega, by omega, by dsimp only; omega, sgy, hD.more C (by omega) hu hv h3, ?_⟩
            have := hE.more C (by omega) hu hv h2 h3
            dsimp only
            rw [show lo + (m + 1) - (q + 1 + 1) = lo + m - (q + 1) by omega]
            exact this
      · rintro ⟨r, m, q⟩ st2 ⟨ys, rfl, rfl, g2, g3, g4, g5, sgy, hD, hE⟩
        dsimp only at g2 g3 g4 g5 hD hE ⊢
        exact ⟨ys, rfl, rfl, by omega, by omega, g5, sgy, hD, hE⟩
      · rintro ⟨r, m, q⟩ st2 ⟨ys, rfl, rfl, g3, g4, g5, sgy, hD, hE⟩
        dsimp only at g3 g4 g5 hD hE ⊢
        have hms : lo + m ≤ ys.size := by rw [sgy.size]; omega
        by_cases hq : q > 0
        · rw [if_pos hq]
          refine wpS_bind (wpS_rev C ?_)
          have sgz := sgy.trans ((seg_mirror (xs := ys) (i := lo + m - (q + 1)) hms).wide (lo' := lo) (hi' := lo + nrem) (by omega) (by omega))
          have hDz := hD.block C hE (by omega) hms
          show wpS M A E s _ Q (setArr st' (mirror ys (lo + m - (q + 1)) (lo + m) ((lo + m - (lo + m - (q + 1))) / 2)))
          generalize mirror ys (lo + m - (q + 1)) (lo + m) ((lo + m - (lo + m - (q + 1))) / 2) = ws at sgz hDz
          have hms : lo + m ≤ ws.size := by rw [sgz.size]; omega
          refine wpS_bind (wpS_rev C ?_)
          have sg2 : Seg (arrOf st') (mirror ws lo (lo + m) ((lo + m - lo) / 2)) lo (lo + nrem) := sgz.trans ((seg_mirror hms).wide (Nat.le_refl _) (by omega))
          have hA2 := Dsc.flip C hDz hms
          show wpS M A E s _ Q (setArr st' (mirror ws lo (lo + m) ((lo + m - lo) / 2)))
          generalize mirror ws lo (lo + m) ((lo + m - lo) / 2) = zs at sg2 hA2
          refine wpS_bind (wpS_forRange (fun i (c : Option (Option Nat) × Nat) st2 => st2 = setArr st' zs ∧ c.1 = none ∧ c.2 = i ∧ 1 ≤ i ∧ i ≤ nrem ∧ Asc lt zs lo (lo + c.2)) ?_ ?_ ⟨rfl, rfl, rfl, by omega, g4, hA2⟩)
          · rintro i ⟨r, n⟩ st2 g1 g2 ⟨rfl, rfl, rfl, g3, g4, hA⟩
            dsimp only at g1 g2 hA ⊢
            obtain ⟨y, hy, py⟩ := up sg2 g2
            obtain ⟨x, hx, px⟩ := up (n := n - 1) sg2 (by omega)
            rw [show lo + (n - 1) = lo + n - 1 by omega] at hx
            refine wpS_bind (wpS_ltAt2 C hk (st := setArr st' zs) hy hx py px ?_)
            dsimp only
            cases hlt : lt y x with
            | true => exact wpS_pure (wpS_pure (h n zs g3 g4 sg2 hA))
            | false => exact wpS_pure ⟨rfl, rfl, rfl, by omega, by omega, hA.more C g3 hx hy hlt⟩
          · rintro ⟨r, n⟩ st2 ⟨rfl, rfl, rfl, g3, g4, hA⟩
            exact wpS_pure (h _ zs g3 g4 sg2 hA)
        · rw [if_neg hq]
          have hms : lo + m ≤ ys.size := by rw [sgy.size]; omega
          refine wpS_bind (wpS_rev C ?_)
          have sg2 : Seg (arrOf st') (mirror ys lo (lo + m) ((lo + m - lo) / 2)) lo (lo + nrem) := sgy.trans ((seg_mirror hms).wide (Nat.le_refl _) (by omega))
          have hA2 := Dsc.flip C hD hms
          show wpS M A E s _ Q (setArr st' (mirror ys lo (lo + m) ((lo + m - lo) / 2)))
          generalize mirror ys lo (lo + m) ((lo + m - lo) / 2) = zs at sg2 hA2
          refine wpS_bind (wpS_forRange (fun i (c : Option (Option Nat) × Nat) st2 => st2 = setArr st' zs ∧ c.1 = none ∧ c.2 = i ∧ 1 ≤ i ∧ i ≤ nrem ∧ Asc lt zs lo (lo + c.2)) ?_ ?_ ⟨rfl, rfl, rfl, by omega, g4, hA2⟩)
          · rintro i ⟨r, n⟩ st2 g1 g2 ⟨rfl, rfl, rfl, g3, g4, hA⟩
            dsimp only at g1 g2 hA ⊢
            obtain ⟨y, hy, py⟩ := up sg2 g2
            obtain ⟨x, hx, px⟩ := up (n := n - 1) sg2 (by omega)
            rw [show lo + (n - 1) = lo + n - 1 by omega] at hx
            refine wpS_bind (wpS_ltAt2 C hk (st := setArr st' zs) hy hx py px ?_)
            dsimp only
            cases hlt : lt y x with
            | true => exact wpS_pure (wpS_pure (h n zs g3 g4 sg2 hA))
            | false => exact wpS_pure ⟨rfl, rfl, rfl, by omega, by omega, hA.more C g3 hx hy hlt⟩
          · rintro ⟨r, n⟩ st2 ⟨rfl, rfl, rfl, g3, g4, hA⟩
            exact wpS_pure (h _ zs g3 g4 sg2 hA)
  · rw [if_neg hn1]
    have en : n = 1 := by omega
    have sg := Seg.refl (arrOf st') lo (lo + nrem)
    have hD : Dsc lt (arrOf st') lo (lo + (n + 1)) := by
      subst en
      intro i j a b c1 c2 c3 c4 c5
      have ei : i = lo := by omega
      have ej : j = lo + 1 := by omega
      subst ei ej
      rw [hy] at c5
      cases c5
      rw [show i + 1 - 1 = i by omega, c4] at hx
      cases hx
      exact C.asym _ _ hyx
    obtain ⟨xs, exs⟩ : ∃ xs, xs = arrOf st' := ⟨_, rfl⟩
    show wpS M A E s _ Q (setArr st' (arrOf st'))
    have sg' : Seg (arrOf st') xs lo (lo + nrem) := by rw [exs]; exact sg
    have hD' : Dsc lt xs lo (lo + (n + 1)) := by rw [exs]; exact hD
    have est : setArr st' (arrOf st') = setArr st' xs := by rw [exs]
    rw [est]
    clear sg hD est exs
    have sg := sg'
    have hD := hD'
    refine wpS_bind (wpS_rule ?_)
    refine wpS_bind (wpS_mono (wpS_forRange (fun i (c : Option (Option Nat) × Nat × Nat) st2 => ∃ ys, st2 = setArr st' ys ∧ c.1 = none ∧ c.2.1 = i ∧ n + 1 ≤ i ∧ i ≤ nrem ∧ c.2.2 + 1 ≤ c.2.1 ∧ Seg (arrOf st') ys lo (lo + nrem) ∧ Dsc lt ys lo (lo + c.2.1) ∧ Eqv lt ys (lo + c.2.1 - (c.2.2 + 1)) (lo + c.2.1))
      (Q := fun c st2 => ∃ ys, st2 = setArr st' ys ∧ c.1 = none ∧ n + 1 ≤ c.2.1 ∧ c.2.1 ≤ nrem ∧ c.2.2 + 1 ≤ c.2.1 ∧ Seg (arrOf st') ys lo (lo + nrem) ∧ Dsc lt ys lo (lo + c.2.1) ∧ Eqv lt ys (lo + c.2.1 - (c.2.2 + 1)) (lo + c.2.1))
      ?_ ?_ ⟨xs, rfl, rfl, rfl, Nat.le_refl _, hlt, by dsimp only; omega, sg, hD, fun i j u v a b c d f g => by
        have : i = j := by dsimp only at a b c d; omega
        subst this
        rw [f] at g
        cases g
        exact C.irrefl u⟩) ?_)
    · rintro i ⟨r, m, q⟩ st2 g1 g2 ⟨ys, rfl, rfl, rfl, g3, g4, g5, sgy, hD, hE⟩
      dsimp only at g1 g2 g3 g4 g5 hD hE ⊢
      obtain ⟨v, hv, pv⟩ := up sgy g2
      obtain ⟨u, hu, pu⟩ := up (n := m - 1) sgy (by omega)
      rw [show lo + (m - 1) = lo + m - 1 by omega] at hu
      refine wpS_bind (wpS_ltAt2 C hk (st := setArr st' ys) hv hu pv pu ?_)
      dsimp only
      have hms : lo + m ≤ ys.size := by rw [sgy.size]; omega
      cases h2 : lt v u with
      | true =>
        rw [if_pos rfl]
        have hD2 := hD.more C (by omega) hu hv (C.asym _ _ h2)
        have one : ∀ (zs : Array Keyed), Eqv lt zs (lo + (m + 1) - (0 + 1)) (lo + (m + 1)) := fun zs i j a b c1 c2 c3 c4 c5 c6 => by
          have : i = j := by omega
          subst this
          rw [c5] at c6
          cases c6
          exact C.irrefl a
        by_cases hq : q > 0
        · rw [if_pos hq]
          refine wpS_bind (wpS_rev C (wpS_pure ?_))
          have sgm := seg_mirror (xs := ys) (i := lo + m - (q + 1)) hms
          refine ⟨_, rfl, rfl, rfl, by omega, by omega, by dsimp only; omega, sgy.trans (sgm.wide (by omega) (by omega)), ?_, one _⟩
          -- the new one lies behind all of them
          intro i j a b c1 c2 c3 c4 c5
          dsimp only at c3
          have hb := hD.block C hE (by omega) hms
          rcases Nat.lt_or_ge j (lo + m) with hj | hj
          · exact hb i j a b c1 c2 hj c4 c5
          · have ej : j = lo + m := by omega
            subst ej
            have e5 : ys[lo + m]? = some b := by rw [← sgm.out (lo + m) (.inr (Nat.le_refl _))]; exact c5
            have c4' : (mirror ys (lo + m - (q + 1)) (lo + m) ((lo + m - (lo + m - (q + 1))) / 2))[i]? = some a := c4
            rw [getElem?_mirror_all hms] at c4'
            by_cases hi : lo + m - (q + 1) ≤ i ∧ i < lo + m
            · rw [if_pos hi] at c4'
              exact hD2 _ (lo + m) a b (by omega) (by omega) (by omega) c4' e5
            · rw [if_neg hi] at c4'
              exact hD2 i (lo + m) a b c1 (by omega) (by omega) c4' e5
        · rw [if_neg hq]
          exact wpS_pure ⟨ys, rfl, rfl, rfl, by omega, by omega, by dsimp only; omega, sgy, hD2, one _⟩
      | false =>
        rw [if_neg (by simp)]
        refine wpS_bind (wpS_ltAt2 C hk (st := setArr st' ys) hu hv pu pv ?_)
        dsimp only
        cases h3 : lt u v with
        | true => exact wpS_pure ⟨ys, rfl, rfl, g3, by dsimp only; omega, g5, sgy, hD, hE⟩
        | false =>
          refine wpS_pure ⟨ys, rfl, rfl, rfl, by omega, by omega, by dsimp only; omega, sgy, hD.more C (by omega) hu hv h3, ?_⟩
          have := hE.more C (by omega) hu hv h2 h3
          dsimp only
          rw [show lo + (m + 1) - (q + 1 + 1) = lo + m - (q + 1) by omega]
          exact this
    · rintro ⟨r, m, q⟩ st2 ⟨ys, rfl, rfl, g2, g3, g4, g5, sgy, hD, hE⟩
      dsimp only at g2 g3 g4 g5 hD hE ⊢
      exact ⟨ys, rfl, rfl, by omega, by omega, g5, sgy, hD, hE⟩
    · rintro ⟨r, m, q⟩ st2 ⟨ys, rfl, rfl, g3, g4, g5, sgy, hD, hE⟩
      dsimp only at g3 g4 g5 hD hE ⊢
      have hms : lo + m ≤ ys.size := by rw [sgy.size]; omega
      by_cases hq : q > 0
      · rw [if_pos hq]
        refine wpS_bind (wpS_rev C ?_)
        have sgz := sgy.trans ((seg_mirror (xs := ys) (i := lo + m - (q + 1)) hms).wide (lo' := lo) (hi' := lo + nrem) (by omega) (by omega))
        have hDz := hD.block C hE (by omega) hms
        show wpS M A E s _ Q (setArr st' (mirror ys (lo + m - (q + 1)) (lo + m) ((lo + m - (lo + m - (q + 1))) / 2)))
        generalize mirror ys (lo + m - (q + 1)) (lo + m) ((lo + m - (lo + m - (q + 1))) / 2) = ws at sgz hDz
        have hms : lo + m ≤ ws.size := by rw [sgz.size]; omega
        refine wpS_bind (wpS_rev C ?_)
        have sg2 : Seg (arrOf st') (mirror ws lo (lo + m) ((lo + m - lo) / 2)) lo (lo + nrem) := sgz.trans ((seg_mirror hms).wide (Nat.le_refl _) (by omega))
        have hA2 := Dsc.flip C hDz hms
        show wpS M A E s _ Q (setArr st' (mirror ws lo (lo + m) ((lo + m - lo) / 2)))
        generalize mirror ws lo (lo + m) ((lo + m - lo) / 2) = zs at sg2 hA2
        refine wpS_bind (wpS_forRange (fun i (c : Option (Option Nat) × Nat) st2 => st2 = setArr st' zs ∧ c.1 = none ∧ c.2 = i ∧ 1 ≤ i ∧ i ≤ nrem ∧ Asc lt zs lo (lo + c.2)) ?_ ?_ ⟨rfl, rfl, rfl, by omega, g4, hA2⟩)
        · rintro i ⟨r, n⟩ st2 g1 g2 ⟨rfl, rfl, rfl, g3, g4, hA⟩
          dsimp only at g1 g2 hA ⊢
          obtain ⟨y, hy, py⟩ := up sg2 g2
          obtain ⟨x, hx, px⟩ := up (n := n - 1) sg2 (by omega)
          rw [show lo + (n - 1) = lo + n - 1 by omega] at hx
          refine wpS_bind (wpS_ltAt2 C hk (st := setArr st' zs) hy hx py px ?_)
          dsimp only
          cases hlt : lt y x with
          | true => exact wpS_pure (wpS_pure (h n zs g3 g4 sg2 hA))
          | false => exact wpS_pure ⟨rfl, rfl, rfl, by omega, by omega, hA.more C g3 hx hy hlt⟩
        · rintro ⟨r, n⟩ st2 ⟨rfl, rfl, rfl, g3, g4, hA⟩
          exact wpS_pure (h _ zs g3 g4 sg2 hA)
      · rw [if_neg hq]
        have hms : lo + m ≤ ys.size := by rw [sgy.size]; omega
        refine wpS_bind (wpS_rev C ?_)
        have sg2 : Seg (arrOf st') (mirror ys lo (lo + m) ((lo + m - lo) / 2)) lo (lo + nrem) := sgy.trans ((seg_mirror hms).wide (Nat.le_refl _) (by omega))
        have hA2 := Dsc.flip C hD hms
        show wpS M A E s _ Q (setArr st' (mirror ys lo (lo + m) ((lo + m - lo) / 2)))
        generalize mirror ys lo (lo + m) ((lo + m - lo) / 2) = zs at sg2 hA2
        refine wpS_bind (wpS_forRange (fun i (c : Option (Option Nat) × Nat) st2 => st2 = setArr st' zs ∧ c.1 = none ∧ c.2 = i ∧ 1 ≤ i ∧ i ≤ nrem ∧ Asc lt zs lo (lo + c.2)) ?_ ?_ ⟨rfl, rfl, rfl, by omega, g4, hA2⟩)
        · rintro i ⟨r, n⟩ st2 g1 g2 ⟨rfl, rfl, rfl, g3, g4, hA⟩
          dsimp only at g1 g2 hA ⊢
          obtain ⟨y, hy, py⟩ := up sg2 g2
          obtain ⟨x, hx, px⟩ := up (n := n - 1) sg2 (by omega)
          rw [show lo + (n - 1) = lo + n - 1 by omega] at hx
          refine wpS_bind (wpS_ltAt2 C hk (st := setArr st' zs) hy hx py px ?_)
          dsimp only
          cases hlt : lt y x with
          | true => exact wpS_pure (wpS_pure (h n zs g3 g4 sg2 hA))
          | false => exact wpS_pure ⟨rfl, rfl, rfl, by omega, by omega, hA.more C g3 hx hy hlt⟩
        · rintro ⟨r, n⟩ st2 ⟨rfl, rfl, rfl, g3, g4, hA⟩
          exact wpS_pure (h _ zs g3 g4 sg2 hA)
end
end
end Tim

set_option Elab.async false
set_option linter.all false
set_option maxRecDepth 100000
set_option maxHeartbeats 8000000
namespace Tim
open PySem PyProof.Rows
section
variable {M : Model} {A : Around} {E : Value → Shared → Prop} {s : Shared} {κ : SortKind} {P : Keyed → Prop} {lt : Keyed → Keyed → Bool}
theorem wpS_set {st st1 : SortSt} {Q : PUnit → SortSt → Prop} (h : Q ⟨⟩ st1) : wpS M A E s (set st1 : StateT SortSt Sem PUnit) Q st := by
  unfold wpS
  rw [StateT.run_set]
  exact wpAny_pure ⟨rfl, h⟩
section
variable (C : Cmp M A E s κ P lt)
include C
/-- insertion: what stands sorted grows by one at a time -/
theorem wpS_binarySort {st : SortSt} {lo n ok : Nat} {Q : Bool → SortSt → Prop} (hk : kindOf st = κ) (pp : ∀ x ∈ (arrOf st).toList, P x) (hs : lo + n ≤ (arrOf st).size) (h1 : 1 ≤ ok) (hok : ok ≤ n) (hA : Asc lt (arrOf st) lo (lo + ok))
    (h : ∀ xs, Seg (arrOf st) xs lo (lo + n) → Asc lt xs lo (lo + n) → Q true (setArr st xs)) : wpS M A E s (binarySort' lo n ok) Q st := by
  have up : ∀ {xs : Array Keyed} {m : Nat}, Seg (arrOf st) xs lo (lo + n) → m < n → ∃ y, xs[lo + m]? = some y ∧ P y := fun sg hn => get_at (by rw [sg.size]; omega) (all_perm sg.perm pp)
  rw [binarySort'_eq]
  have em : max ok 1 = ok := by omega
  rw [em]
  refine wpS_bind (wpS_mono (wpS_forRange (fun k (c : Option Bool × Unit) st' => c.1 = none ∧ ∃ xs, st' = setArr st xs ∧ Seg (arrOf st) xs lo (lo + n) ∧ Asc lt xs lo (lo + k))
    (Q := fun c st' => c.1 = none ∧ ∃ xs, st' = setArr st xs ∧ Seg (arrOf st) xs lo (lo + n) ∧ Asc lt xs lo (lo + n)) ?_ ?_ ⟨rfl, arrOf st, rfl, Seg.refl _ _ _, hA⟩) ?_)
  · rintro k ⟨r, u⟩ st' g1 g2 ⟨rfl, xs, rfl, sg, hA⟩
    dsimp only at hA ⊢
    obtain ⟨p, hp, pp1⟩ := up sg g2
    have hsz : lo + n ≤ xs.size := by rw [sg.size]; exact hs
    refine wpS_bind (wpS_mono (wpS_forRange (fun i (c : Option Bool × Nat × Nat) st2 => st2 = setArr st xs ∧ c.1 = none ∧ c.2.1 ≤ c.2.2 ∧ c.2.2 ≤ k ∧ c.2.2 - c.2.1 + i ≤ k ∧ (∀ j x, j < c.2.1 → xs[lo + j]? = some x → lt p x = false) ∧ (∀ j x, c.2.2 ≤ j → j < k → xs[lo + j]? = some x → lt p x = true))
      (Q := fun c st2 => st2 = setArr st xs ∧ c.1 = none ∧ c.2.1 ≤ k ∧ (∀ j x, j < c.2.1 → xs[lo + j]? = some x → lt p x = false) ∧ (∀ j x, c.2.1 ≤ j → j < k → xs[lo + j]? = some x → lt p x = true))
      ?_ ?_ ⟨rfl, rfl, Nat.zero_le _, Nat.le_refl _, by dsimp only; omega, fun j x a => by dsimp only at a; omega, fun j x a b => by dsimp only at a; omega⟩) ?_)
    · rintro i ⟨r, l, m⟩ st2 _ hi ⟨rfl, rfl, b1, b2, b3, b4, b5⟩
      dsimp only at b1 b2 b3 b4 b5 ⊢
      by_cases hge : l ≥ m
      · rw [if_pos hge]
        have e : l = m := by omega
        subst e
        exact wpS_pure ⟨rfl, rfl, b2, b4, b5⟩
      · rw [if_neg hge]
        obtain ⟨x, hx, px⟩ := up sg (m := (l + m) / 2) (by omega)
        refine wpS_bind (wpS_ltAt2 C hk (st := setArr st xs) hp hx pp1 px ?_)
        dsimp only
        cases hlt : lt p x with
        | true =>
          refine wpS_pure ⟨rfl, rfl, by dsimp only; omega, by dsimp only; omega, by dsimp only; omega, b4, fun j y c1 c2 c3 => ?_⟩
          dsimp only at c1
          rcases Nat.lt_or_ge ((l + m) / 2) j with c4 | c4
          · have := hA (lo + (l + m) / 2) (lo + j) x y (by omega) (by omega) (by omega) hx c3
            cases hpy : lt p y with
            | true => rfl
            | false =>
              have z := C.trans x y p this hpy
              rw [hlt] at z
              cases z
          · have : j = (l + m) / 2 := by omega
            subst this
            rw [hx] at c3
            cases c3
            exact hlt
        | false =>
          refine wpS_pure ⟨rfl, rfl, by dsimp only; omega, b2, by dsimp only; omega, fun j y c1 c3 => ?_, b5⟩
          dsimp only at c1
          rcases Nat.lt_or_ge j ((l + m) / 2) with c4 | c4
          · exact C.trans y x p (hA (lo + j) (lo + (l + m) / 2) y x (by omega) (by omega) (by omega) c3 hx) hlt
          · have : j = (l + m) / 2 := by omega
            subst this
            rw [hx] at c3
            cases c3
            exact hlt
    · rintro ⟨r, l, m⟩ st2 ⟨rfl, rfl, b1, b2, b3, b4, b5⟩
      dsimp only at b1 b2 b3 b4 b5 ⊢
      have e : l = m := by omega
      subst e
      exact ⟨rfl, rfl, b2, b4, b5⟩
    · rintro ⟨r, l, m⟩ st2 ⟨rfl, rfl, b1, b2, b3⟩
      dsimp only at b1 b2 b3 ⊢
      rw [moveDown'_eq]
      refine wpS_bind (wpS_modify (wpS_pure ⟨rfl, bubble xs (lo + k) (lo + k - (lo + l)), rfl, ?_, ?_⟩))
      · refine sg.trans ⟨bubble_perm _ _ _, fun i hi => ?_⟩
        rw [getElem?_bubble (by omega) _ (by omega), if_neg (by omega), if_neg (by omega)]
      · intro i j x y c1 c2 c3 c4 c5
        rw [getElem?_bubble (by omega) _ (by omega)] at c4 c5
        have e1 : lo + k - (lo + k - (lo + l)) = lo + l := by omega
        rw [e1] at c4 c5
        by_cases i1 : i = lo + l
        · rw [if_pos i1, hp] at c4
          cases c4
          rw [if_neg (by omega), if_pos (by omega)] at c5
          exact C.asym _ _ (b3 (j - 1 - lo) y (by omega) (by omega) (by rw [show lo + (j - 1 - lo) = j - 1 by omega]; exact c5))
        · rw [if_neg i1] at c4
          by_cases j1 : j = lo + l
          · rw [if_pos j1, hp] at c5
            cases c5
            rw [if_neg (by omega)] at c4
            exact b2 (i - lo) x (by omega) (by rw [show lo + (i - lo) = i by omega]; exact c4)
          · rw [if_neg j1] at c5
            by_cases i2 : lo + l < i ∧ i ≤ lo + k
            · rw [if_pos i2] at c4
              rw [if_pos (by omega)] at c5
              exact hA (i - 1) (j - 1) x y (by omega) (by omega) (by omega) c4 c5
            · rw [if_neg i2] at c4
              by_cases j2 : lo + l < j ∧ j ≤ lo + k
              · rw [if_pos j2] at c5
                exact hA i (j - 1) x y c1 (by omega) (by omega) c4 c5
              · rw [if_neg j2] at c5
                exact hA i j x y c1 c2 (by omega) c4 c5
  · rintro ⟨r, u⟩ st' ⟨rfl, xs, rfl, sg, hA⟩
    have e : max ok n = n := by omega
    rw [e] at hA
    exact ⟨rfl, xs, rfl, sg, hA⟩
  · rintro ⟨r, u⟩ st' ⟨rfl, xs, rfl, sg, hA⟩
    exact wpS_pure (h xs sg hA)
end
theorem write_get : ∀ (l : List Keyed) (xs : Array Keyed) (o n : Nat), o + n + l.length ≤ xs.size → ∀ i : Nat,
    ((l.zipIdx n).foldl (fun a (p : Keyed × Nat) => a.setIfInBounds (o + p.2) p.1) xs)[i]? = if o + n ≤ i ∧ i < o + n + l.length then l[i - (o + n)]? else xs[i]?
  | [], xs, o, n, _, i => by
    show xs[i]? = _
    rw [if_neg (by rw [List.length_nil]; omega)]
  | x :: l, xs, o, n, h, i => by
    rw [List.zipIdx_cons, List.foldl_cons]
    rw [List.length_cons] at h ⊢
    rw [write_get l _ o (n + 1) (by rw [Array.size_setIfInBounds]; omega) i]
    by_cases c1 : o + (n + 1) ≤ i ∧ i < o + (n + 1) + l.length
    · rw [if_pos c1, if_pos (by omega)]
      rw [show i - (o + n) = (i - (o + (n + 1))) + 1 by omega, List.getElem?_cons_succ]
    · rw [if_neg c1]
      by_cases c2 : i = o + n
      · subst c2
        rw [if_pos (by omega), Nat.sub_self, Array.getElem?_setIfInBounds, if_pos rfl, if_pos (by omega)]
        rfl
      · rw [if_neg (by omega), Array.getElem?_setIfInBounds, if_neg (by omega)]
theorem write_toList {l : List Keyed} {xs ys : Array Keyed} {o : Nat} (h : o + l.length ≤ xs.size) (hy : ∀ i : Nat, ys[i]? = if o ≤ i ∧ i < o + l.length then l[i - o]? else xs[i]?) : ys.toList = xs.toList.take o ++ l ++ xs.toList.drop (o + l.length) := by
  have hl : xs.toList.length = xs.size := by simp
  apply List.ext_getElem?
  intro i
  rw [Array.getElem?_toList, hy i]
  by_cases c1 : i < o
  · rw [if_neg (by omega), List.append_assoc, List.getElem?_append_left (by rw [List.length_take, hl]; omega), List.getElem?_take_of_lt c1, Array.getElem?_toList]
  · by_cases c2 : i < o + l.length
    · rw [if_pos (by omega), List.getElem?_append_left (by rw [List.length_append, List.length_take, hl]; omega), List.getElem?_append_right (by rw [List.length_take, hl]; omega)]
      rw [List.length_take, hl]
      congr 1
      omega
    · rw [if_neg (by omega), List.getElem?_append_right (by rw [List.length_append, List.length_take, hl]; omega), List.getElem?_drop, Array.getElem?_toList]
      rw [List.length_append, List.length_take, hl]
      congr 1
      omega
theorem srt_of_asc {xs : Array Keyed} {lo hi : Nat} (h : Asc lt xs lo hi) (hs : hi ≤ xs.size) : Srt lt (xs.extract lo hi).toList := by
  rw [Array.toList_extract, List.extract_eq_drop_take]
  refine List.pairwise_iff_getElem.mpr fun i j h1 h2 hij => ?_
  rw [List.length_take, List.length_drop, Array.length_toList] at h1 h2
  have e : ∀ n (hn : n < (List.take (hi - lo) (List.drop lo xs.toList)).length), xs[lo + n]? = some (List.take (hi - lo) (List.drop lo xs.toList))[n] := by
    intro n hn
    rw [← Array.getElem?_toList, ← List.getElem?_drop, List.getElem_take]
    exact List.getElem?_eq_getElem _
  exact h (lo + i) (lo + j) _ _ (by omega) (by omega) (by omega) (e i _) (e j _)
theorem mem_ext {xs : Array Keyed} {lo hi : Nat} {u : Keyed} (h : u ∈ (xs.extract lo hi).toList) : ∃ n, lo ≤ n ∧ n < hi ∧ n < xs.size ∧ xs[n]? = some u := by
  obtain ⟨n, hn, en⟩ := Array.mem_iff_getElem.mp (Array.mem_toList_iff.mp h)
  rw [Array.size_extract] at hn
  rw [Array.getElem_extract] at en
  exact ⟨lo + n, by omega, by omega, by omega, by rw [← en]; simp⟩
theorem ext_get {xs : Array Keyed} {lo hi n : Nat} (h : n < hi - lo) (hs : hi ≤ xs.size) : (xs.extract lo hi)[n]? = xs[lo + n]? := by
  rw [Array.getElem?_extract, if_pos (by omega)]
end
end Tim

set_option Elab.async false
set_option linter.all false
set_option maxRecDepth 100000
set_option maxHeartbeats 8000000
namespace Tim
open PySem PyProof.Rows
section
variable {M : Model} {A : Around} {E : Value → Shared → Prop} {s : Shared} {κ : SortKind} {P : Keyed → Prop} {lt : Keyed → Keyed → Bool}
section
variable (C : Cmp M A E s κ P lt)
include C
/-- two runs that stand one behind the other, the one at most the other -/
theorem Asc.join {xs : Array Keyed} {lo mid hi : Nat} (h1 : Asc lt xs lo mid) (h2 : Asc lt xs mid hi) (hc : ∀ i j x y, lo ≤ i → i < mid → mid ≤ j → j < hi → xs[i]? = some x → xs[j]? = some y → lt y x = false) : Asc lt xs lo hi := by
  intro i j x y a b c d f
  rcases Nat.lt_or_ge j mid with hj | hj
  · exact h1 i j x y a b hj d f
  · rcases Nat.lt_or_ge i mid with hi | hi
    · exact hc i j x y a hi hj c d f
    · exact h2 i j x y hi b c d f
theorem Asc.sub {xs : Array Keyed} {lo hi lo' hi' : Nat} (h : Asc lt xs lo hi) (h1 : lo ≤ lo') (h2 : hi' ≤ hi) : Asc lt xs lo' hi' := fun i j x y a b c d f => h i j x y (by omega) b (by omega) d f
theorem Asc.le {xs : Array Keyed} {lo hi i j : Nat} {x y : Keyed} (h : Asc lt xs lo hi) (a : lo ≤ i) (b : i ≤ j) (c : j < hi) (d : xs[i]? = some x) (f : xs[j]? = some y) : lt y x = false := by
  rcases Nat.lt_or_ge i j with hij | hij
  · exact h i j x y a hij c d f
  · have : i = j := by omega
    subst this
    rw [d] at f
    cases f
    exact C.irrefl x
theorem wpS_mergeAt {st : SortSt} {i sa na pw sb nb pw2 : Nat} {Q : Bool → SortSt → Prop} (hk : kindOf st = κ) (pp : ∀ x ∈ (arrOf st).toList, P x) (hf : failedOf st = none)
    (hpi : (pendingOf st)[i]? = some (sa, na, pw)) (hpj : (pendingOf st)[i + 1]? = some (sb, nb, pw2)) (hsb : sb = sa + na) (h1 : 1 ≤ na) (h2 : 1 ≤ nb) (hs : sb + nb ≤ (arrOf st).size)
    (hA : Asc lt (arrOf st) sa sb) (hB : Asc lt (arrOf st) sb (sb + nb))
    (h : ∀ st', kindOf st' = κ → failedOf st' = none → pendingOf st' = ((pendingOf st).setIfInBounds i (sa, na + nb, pw)).eraseIdxIfInBounds (i + 1) → Seg (arrOf st) (arrOf st') sa (sb + nb) → Asc lt (arrOf st') sa (sb + nb) → Q true st') :
    wpS M A E s (mergeAt' i) Q st := by
  have ga : ∀ n, n < (arrOf st).size → ∃ x, (arrOf st)[n]? = some x ∧ P x := fun n hn => get_at hn pp
  unfold mergeAt'
  refine wpS_bind (wpS_get ?_)
  rw [hpi, hpj]
  refine wpS_bind (wpS_set ?_)
  obtain ⟨b0, hb0, pb0⟩ := ga sb (by omega)
  refine wpS_bind (wpS_elem hb0 ?_)
  refine wpS_bind (wpS_gallop C (st := setPending st (((pendingOf st).setIfInBounds i (sa, na + nb, pw)).eraseIdxIfInBounds (i + 1))) (B := fun n => !lt b0 (((arrOf st)[sa + n]?).getD b0)) hk pb0 ?_ ?_ h1 fun k p1 p2 p3 => ?_)
  · intro n hn
    obtain ⟨z, hz, pz⟩ := ga (sa + n) (by omega)
    exact ⟨z, hz, pz, by rw [hz]; rfl⟩
  · intro n m hnm hm hb
    obtain ⟨u, hu, pu⟩ := ga (sa + n) (by omega)
    obtain ⟨v, hv, pv⟩ := ga (sa + m) (by omega)
    rw [hv] at hb
    rw [hu]
    replace hb : (!lt b0 v) = true := hb
    show (!lt b0 u) = true
    have z : lt b0 v = false := by simpa using hb
    rw [C.trans u v b0 (hA.le C (by omega) (by omega) (by omega) hu hv) z]
    rfl
  dsimp only
  have lowA : ∀ n u, sa ≤ n → n < sa + k → (arrOf st)[n]? = some u → lt b0 u = false := fun n u c1 c2 c3 => by
    have q := p2 (n - sa) (by omega)
    rw [show sa + (n - sa) = n by omega, c3] at q
    simpa using q
  have highA : ∀ n u, sa + k ≤ n → n < sb → (arrOf st)[n]? = some u → lt b0 u = true := fun n u c1 c2 c3 => by
    have q := p3 (n - sa) (by omega) (by omega)
    rw [show sa + (n - sa) = n by omega, c3] at q
    simpa using q
  by_cases e0 : na - k = 0
  · rw [if_pos (by simpa using e0)]
    refine wpS_pure (h _ hk hf rfl (Seg.refl _ _ _) ?_)
    refine Asc.join C hA hB fun n m u v c1 c2 c3 c4 c5 c6 => ?_
    exact C.trans u b0 v (lowA n u c1 (by omega) c5) (hB.le C (Nat.le_refl _) c3 c4 hb0 c6)
  rw [if_neg (by simpa using e0)]
  have hkn : k < na := by omega
  obtain ⟨al, hal, pal⟩ := ga (sa + k + (na - k) - 1) (by omega)
  have ela : sa + k + (na - k) - 1 = sb - 1 := by omega
  refine wpS_bind (wpS_elem hal ?_)
  refine wpS_bind (wpS_gallop C (st := setPending st (((pendingOf st).setIfInBounds i (sa, na + nb, pw)).eraseIdxIfInBounds (i + 1))) (B := fun n => lt (((arrOf st)[sb + n]?).getD al) al) hk pal ?_ ?_ (Nat.sub_lt h2 (by decide)) fun m q1 q2 q3 => ?_)
  · intro n hn
    obtain ⟨z, hz, pz⟩ := ga (sb + n) (by omega)
    exact ⟨z, hz, pz, by rw [hz]; rfl⟩
  · intro n j hnj hj hb
    obtain ⟨u, hu, pu⟩ := ga (sb + n) (by omega)
    obtain ⟨v, hv, pv⟩ := ga (sb + j) (by omega)
    rw [hv] at hb
    rw [hu]
    replace hb : lt v al = true := hb
    show lt u al = true
    cases hu2 : lt u al with
    | true => rfl
    | false =>
      have z := C.trans al u v hu2 (hB.le C (by omega) (by omega) (by omega) hu hv)
      rw [hb] at z
      cases z
  rw [ela] at hal
  dsimp only
  have lowB : ∀ n u, sb ≤ n → n < sb + m → (arrOf st)[n]? = some u → lt u al = true := fun n u c1 c2 c3 => by
    have q := q2 (n - sb) (by omega)
    rw [show sb + (n - sb) = n by omega, c3] at q
    exact q
  have highB : ∀ n u, sb + m ≤ n → n < sb + nb → (arrOf st)[n]? = some u → lt u al = false := fun n u c1 c2 c3 => by
    have q := q3 (n - sb) (by omega) (by omega)
    rw [show sb + (n - sb) = n by omega, c3] at q
    exact q
  have hm : 1 ≤ m := by
    rcases Nat.eq_zero_or_pos m with e | e
    · have z := highB sb b0 (by omega) (by omega) hb0
      rw [highA (sb - 1) al (by omega) (by omega) hal] at z
      cases z
    · exact e
  rw [if_neg (by simp; omega)]
  -- the merge
  have hx := srt_of_asc (hA.sub C (lo' := sa + k) (hi' := sb) (by omega) (Nat.le_refl _)) (by omega)
  have hy := srt_of_asc (hB.sub C (lo' := sb) (hi' := sb + m) (Nat.le_refl _) (by omega)) (by omega)
  have px : ∀ u ∈ ((arrOf st).extract (sa + k) sb).toList, P u := fun u hu => by
    obtain ⟨n, _, _, _, e⟩ := mem_ext hu
    exact pp u (by rw [← Array.getElem?_toList] at e; exact List.mem_of_getElem? e)
  have py : ∀ u ∈ ((arrOf st).extract sb (sb + m)).toList, P u := fun u hu => by
    obtain ⟨n, _, _, _, e⟩ := mem_ext hu
    exact pp u (by rw [← Array.getElem?_toList] at e; exact List.mem_of_getElem? e)
  have sx : ((arrOf st).extract (sa + k) sb).size = na - k := by rw [Array.size_extract]; omega
  have sy : ((arrOf st).extract sb (sb + m)).size = m := by rw [Array.size_extract]; omega
  have f0 : ∀ u ∈ ((arrOf st).extract (sa + k) sb).toList, ∀ v, ((arrOf st).extract sb (sb + m))[0]? = some v → lt v u = true := fun u hu v hv => by
    obtain ⟨n, c1, c2, _, e⟩ := mem_ext hu
    rw [ext_get (by omega) (by omega), Nat.add_zero, hb0] at hv
    cases hv
    exact highA n u c1 c2 e
  have fl : ∀ u ∈ ((arrOf st).extract sb (sb + m)).toList, ∀ v, ((arrOf st).extract (sa + k) sb)[((arrOf st).extract (sa + k) sb).size - 1]? = some v → lt u v = true := fun u hu v hv => by
    obtain ⟨n, c1, c2, _, e⟩ := mem_ext hu
    rw [sx, ext_get (by omega) (by omega), show sa + k + (na - k - 1) = sb - 1 by omega, hal] at hv
    cases hv
    exact lowB n u c1 c2 e
  have fin : ∀ (r : Array Keyed) (st2 : SortSt), Alike (setPending st (((pendingOf st).setIfInBounds i (sa, na + nb, pw)).eraseIdxIfInBounds (i + 1))) st2 → Res lt ((arrOf st).extract (sa + k) sb).toList ((arrOf st).extract sb (sb + m)).toList r.toList →
      wpS M A E s (do
        modify fun s => setArr s (r.toList.zipIdx.foldl (fun a (p : Keyed × Nat) => a.setIfInBounds (sa + k + p.2) p.1) (arrOf s))
        return (failedOf (← get)).isNone) Q st2 := by
    intro r st2 al2 res
    refine wpS_bind (wpS_modify (wpS_bind (wpS_get (wpS_pure ?_))))
    have er : r.toList.length = (na - k) + m := by
      have := res.1.length_eq
      rw [List.length_append, Array.length_toList (xs := (arrOf st).extract (sa + k) sb), Array.length_toList (xs := (arrOf st).extract sb (sb + m)), sx, sy] at this
      exact this
    have ea : arrOf st2 = arrOf st := al2.a
    have wr := write_get r.toList (arrOf st) (sa + k) 0 (by omega)
    rw [Nat.add_zero, er] at wr
    have wl := write_toList (l := r.toList) (xs := arrOf st) (ys := r.toList.zipIdx.foldl (fun a (p : Keyed × Nat) => a.setIfInBounds (sa + k + p.2) p.1) (arrOf st)) (o := sa + k) (by omega) (by rw [er]; exact wr)
    have hsplit : (arrOf st).toList = (arrOf st).toList.take (sa + k) ++ (((arrOf st).extract (sa + k) sb).toList ++ ((arrOf st).extract sb (sb + m)).toList) ++ (arrOf st).toList.drop (sa + k + r.toList.length) := by
      rw [er, Array.toList_extract, Array.toList_extract, List.extract_eq_drop_take, List.extract_eq_drop_take]
      have t1 : (arrOf st).toList = (arrOf st).toList.take (sa + k) ++ (arrOf st).toList.drop (sa + k) := (List.take_append_drop _ _).symm
      have t2 : (arrOf st).toList.drop (sa + k) = ((arrOf st).toList.drop (sa + k)).take (sb - (sa + k)) ++ (arrOf st).toList.drop sb := by
        have := (List.take_append_drop (sb - (sa + k)) ((arrOf st).toList.drop (sa + k))).symm
        rw [List.drop_drop, show sa + k + (sb - (sa + k)) = sb by omega] at this
        exact this
      have t3 : (arrOf st).toList.drop sb = ((arrOf st).toList.drop sb).take (sb + m - sb) ++ (arrOf st).toList.drop (sb + m) := by
        have := (List.take_append_drop (sb + m - sb) ((arrOf st).toList.drop sb)).symm
        rw [List.drop_drop, show sb + (sb + m - sb) = sb + m by omega] at this
        exact this
      rw [show sa + k + (na - k + m) = sb + m by omega]
      rw [List.append_assoc, List.append_assoc, ← t3, ← t2]
      exact t1
    rw [show failedOf (setArr st2 (r.toList.zipIdx.foldl (fun a (p : Keyed × Nat) => a.setIfInBounds (sa + k + p.2) p.1) (arrOf st2))) = none from al2.f.trans hf]
    refine h _ (al2.k.trans hk) (al2.f.trans hf) al2.p ?_ ?_
    · show Seg (arrOf st) (r.toList.zipIdx.foldl (fun a (p : Keyed × Nat) => a.setIfInBounds (sa + k + p.2) p.1) (arrOf st2)) sa (sb + nb)
      rw [ea]
      refine ⟨Array.perm_iff_toList_perm.mpr ?_, fun n hn => ?_⟩
      · rw [wl]
        refine List.Perm.trans ?_ (List.Perm.of_eq hsplit.symm)
        exact List.Perm.append_right _ (List.Perm.append_left _ res.1)
      · rw [wr n, if_neg (by omega)]
    · show Asc lt (r.toList.zipIdx.foldl (fun a (p : Keyed × Nat) => a.setIfInBounds (sa + k + p.2) p.1) (arrOf st2)) sa (sb + nb)
      rw [ea]
      -- what stands in the middle is of both
      have mid : ∀ n u, sa + k ≤ n → n < sb + m → r.toList[n - (sa + k)]? = some u → (∃ j, sa + k ≤ j ∧ j < sb ∧ (arrOf st)[j]? = some u) ∨ (∃ j, sb ≤ j ∧ j < sb + m ∧ (arrOf st)[j]? = some u) := fun n u c1 c2 c3 => by
        have mu := res.1.mem_iff.mp (List.mem_of_getElem? c3)
        rcases List.mem_append.mp mu with z | z
        · obtain ⟨j, d1, d2, _, d3⟩ := mem_ext z
          exact .inl ⟨j, d1, d2, d3⟩
        · obtain ⟨j, d1, d2, _, d3⟩ := mem_ext z
          exact .inr ⟨j, d1, d2, d3⟩
      intro n j u v c1 c2 c3 c4 c5
      rw [wr n] at c4
      rw [wr j] at c5
      have b0le : ∀ j v, sb ≤ j → j < sb + nb → (arrOf st)[j]? = some v → lt v b0 = false := fun j v d1 d2 d3 => hB.le C (Nat.le_refl _) d1 d2 hb0 d3
      have alge : ∀ j v, sa ≤ j → j < sb → (arrOf st)[j]? = some v → lt al v = false := fun j v d1 d2 d3 => hA.le C d1 (by omega) (by omega) d3 hal
      by_cases n1 : n < sa + k
      · rw [if_neg (by omega)] at c4
        have un := lowA n u c1 n1 c4
        by_cases j1 : j < sa + k
        · rw [if_neg (by omega)] at c5
          exact hA n j u v c1 c2 (by omega) c4 c5
        · by_cases j2 : j < sb + m
          · rw [if_pos (by omega)] at c5
            rcases mid j v (by omega) j2 c5 with ⟨j', d1, d2, d3⟩ | ⟨j', d1, d2, d3⟩
            · exact hA n j' u v c1 (by omega) d2 c4 d3
            · exact C.trans u b0 v un (b0le j' v d1 (by omega) d3)
          · rw [if_neg (by omega)] at c5
            exact C.trans u b0 v un (b0le j v (by omega) (by omega) c5)
      · by_cases n2 : n < sb + m
        · rw [if_pos (by omega)] at c4
          by_cases j2 : j < sb + m
          · rw [if_pos (by omega)] at c5
            obtain ⟨hn', en⟩ := List.getElem?_eq_some_iff.mp c4
            obtain ⟨hj', ej⟩ := List.getElem?_eq_some_iff.mp c5
            rw [← en, ← ej]
            exact List.pairwise_iff_getElem.mp res.2 _ _ hn' hj' (by omega)
          · rw [if_neg (by omega)] at c5
            rcases mid n u (by omega) n2 c4 with ⟨n', d1, d2, d3⟩ | ⟨n', d1, d2, d3⟩
            · exact C.trans u al v (alge n' u (by omega) d2 d3) (highB j v (by omega) (by omega) c5)
            · exact hB n' j u v d1 (by omega) (by omega) d3 c5
        · rw [if_neg (by omega)] at c4 c5
          exact hB n j u v (by omega) c2 c3 c4 c5
  by_cases hle : na - k ≤ m
  · rw [if_pos hle]
    exact wpS_bind (wpS_mergeLo C hx hy px py (st := setPending st (((pendingOf st).setIfInBounds i (sa, na + nb, pw)).eraseIdxIfInBounds (i + 1))) hk (by omega) (by omega) f0 fl fin)
  · rw [if_neg hle]
    exact wpS_bind (wpS_mergeHi C hx hy px py (st := setPending st (((pendingOf st).setIfInBounds i (sa, na + nb, pw)).eraseIdxIfInBounds (i + 1))) hk (by omega) (by omega) f0 fl fin)
end
end
end Tim

set_option Elab.async false
set_option linter.all false
set_option maxRecDepth 100000
set_option maxHeartbeats 8000000
namespace Tim
open PySem PyProof.Rows
/-- runs, one behind the other, from lo to hi -/
def Runs (lt : Keyed → Keyed → Bool) (xs : Array Keyed) : List (Nat × Nat × Nat) → Nat → Nat → Prop
  | [], lo, hi => lo = hi
  | r :: l, lo, hi => r.1 = lo ∧ 1 ≤ r.2.1 ∧ Asc lt xs lo (lo + r.2.1) ∧ Runs lt xs l (lo + r.2.1) hi
section
variable {lt : Keyed → Keyed → Bool} {xs ys : Array Keyed}
theorem Runs.le : ∀ {l : List (Nat × Nat × Nat)} {lo hi : Nat}, Runs lt xs l lo hi → lo + l.length ≤ hi
  | [], lo, hi, h => by
    have : lo = hi := h
    simp; omega
  | r :: l, lo, hi, h => by
    obtain ⟨_, h1, _, h2⟩ := h
    have := Runs.le h2
    rw [List.length_cons]
    omega
theorem Runs.append : ∀ {l1 l2 : List (Nat × Nat × Nat)} {lo hi : Nat}, Runs lt xs (l1 ++ l2) lo hi ↔ ∃ mid, Runs lt xs l1 lo mid ∧ Runs lt xs l2 mid hi
  | [], l2, lo, hi => ⟨fun h => ⟨lo, rfl, h⟩, fun ⟨mid, h1, h2⟩ => by
      have : lo = mid := h1
      subst this
      exact h2⟩
  | r :: l1, l2, lo, hi => by
    constructor
    · rintro ⟨a, b, c, d⟩
      obtain ⟨mid, h1, h2⟩ := Runs.append.mp d
      exact ⟨mid, ⟨a, b, c, h1⟩, h2⟩
    · rintro ⟨mid, ⟨a, b, c, h1⟩, h2⟩
      exact ⟨a, b, c, Runs.append.mpr ⟨mid, h1, h2⟩⟩
theorem Runs.congr : ∀ {l : List (Nat × Nat × Nat)} {lo hi : Nat}, Runs lt xs l lo hi → (∀ i : Nat, lo ≤ i → i < hi → ys[i]? = xs[i]?) → Runs lt ys l lo hi
  | [], _, _, h, _ => h
  | r :: l, lo, hi, ⟨a, b, c, d⟩, e => by
    have hl := Runs.le d
    exact ⟨a, b, c.congr fun i h1 h2 => e i h1 (by omega), Runs.congr d fun i h1 h2 => e i (by omega) h2⟩
end
theorem split2 {p : Array (Nat × Nat × Nat)} {i : Nat} (h : i + 1 < p.size) : ∃ l1 x y l2, p.toList = l1 ++ x :: y :: l2 ∧ l1.length = i ∧ p[i]? = some x ∧ p[i + 1]? = some y := by
  have hl : p.toList.length = p.size := by simp
  refine ⟨p.toList.take i, p.toList[i]'(by omega), p.toList[i + 1]'(by omega), p.toList.drop (i + 2), ?_, by rw [List.length_take]; omega, by simp, by simp⟩
  rw [← List.drop_eq_getElem_cons (by omega : i + 1 < p.toList.length), ← List.drop_eq_getElem_cons (by omega : i < p.toList.length), List.take_append_drop]
theorem merged2 {p : Array (Nat × Nat × Nat)} {l1 l2 : List (Nat × Nat × Nat)} {x y v : Nat × Nat × Nat} (e : p.toList = l1 ++ x :: y :: l2) : ((p.setIfInBounds l1.length v).eraseIdxIfInBounds (l1.length + 1)).toList = l1 ++ v :: l2 := by
  have hl : p.toList.length = p.size := by simp
  have hlen : l1.length + 1 < p.size := by rw [← hl, e, List.length_append, List.length_cons, List.length_cons]; omega
  unfold Array.eraseIdxIfInBounds
  rw [dif_pos (by rw [Array.size_setIfInBounds]; exact hlen), Array.toList_eraseIdx, Array.toList_setIfInBounds, e]
  rw [List.set_append_right _ _ (Nat.le_refl _), Nat.sub_self, List.set_cons_zero]
  rw [List.eraseIdx_append_of_length_le (Nat.le_succ _), show l1.length + 1 - l1.length = 1 by omega]
  rfl
section
variable {M : Model} {A : Around} {E : Value → Shared → Prop} {s : Shared} {κ : SortKind} {P : Keyed → Prop} {lt : Keyed → Keyed → Bool}
section
variable (C : Cmp M A E s κ P lt)
include C
theorem wpS_mergeAtR {st : SortSt} {i hi : Nat} {Q : Bool → SortSt → Prop} (hk : kindOf st = κ) (pp : ∀ x ∈ (arrOf st).toList, P x) (hf : failedOf st = none) (hi' : i + 1 < (pendingOf st).size) (hs : hi ≤ (arrOf st).size)
    (R : Runs lt (arrOf st) (pendingOf st).toList 0 hi)
    (h : ∀ st', kindOf st' = κ → failedOf st' = none → (arrOf st').Perm (arrOf st) → (∀ j : Nat, hi ≤ j → (arrOf st')[j]? = (arrOf st)[j]?) → Runs lt (arrOf st') (pendingOf st').toList 0 hi → (pendingOf st').size + 1 = (pendingOf st).size → Q true st') :
    wpS M A E s (mergeAt' i) Q st := by
  obtain ⟨l1, ⟨sa, na, pa⟩, ⟨sb, nb, pb⟩, l2, e, el, hx, hy⟩ := split2 hi'
  subst el
  rw [e] at R
  obtain ⟨mid, R1, a1, a2, a3, b1, b2, b3, R2⟩ := Runs.append.mp R
  dsimp only at a1 a2 a3 b1 b2 b3 R2
  subst a1 b1
  have hl := Runs.le R2
  refine wpS_mergeAt C hk pp hf hx hy rfl a2 b2 (by omega) a3 b3 fun st' k1 f1 p1 sg hA => h st' k1 f1 sg.perm (fun j hj => sg.out j (.inr (by omega))) ?_ ?_
  · rw [p1, merged2 e]
    refine Runs.append.mpr ⟨sa, R1.congr fun j c1 c2 => sg.out j (.inl c2), ⟨rfl, by dsimp only; omega, ?_, ?_⟩⟩
    · dsimp only
      rw [← Nat.add_assoc]
      exact hA
    · dsimp only
      rw [← Nat.add_assoc]
      exact R2.congr fun j c1 c2 => sg.out j (.inr c1)
  · have h1 : (pendingOf st').toList.length = (pendingOf st').size := by simp
    have h2 : (pendingOf st).toList.length = (pendingOf st).size := by simp
    rw [p1] at h1 ⊢
    rw [merged2 e] at h1
    rw [e] at h2
    rw [← h1, ← h2]
    simp
    omega
/-- the whole: of any length -/
theorem wpS_sortRuns {st : SortSt} {Q : Unit → SortSt → Prop} (hk : kindOf st = κ) (pp : ∀ x ∈ (arrOf st).toList, P x) (hf : failedOf st = none) (hp : pendingOf st = #[])
    (h : ∀ st', kindOf st' = κ → failedOf st' = none → (arrOf st').Perm (arrOf st) → Asc lt (arrOf st') 0 (arrOf st).size → Q () st') : wpS M A E s sortRuns' Q st := by
  rw [sortRuns'_eq]
  refine wpS_bind (wpS_get ?_)
  dsimp only
  generalize hsz : (arrOf st).size = size
  generalize minRun' size size 0 = mr
  refine wpS_bind (wpS_mono (wpS_forRange (fun k (c : Option Unit × Nat) st' => c.1 = none ∧ k ≤ c.2 ∧ c.2 ≤ size ∧ kindOf st' = κ ∧ failedOf st' = none ∧ (arrOf st').Perm (arrOf st) ∧ Runs lt (arrOf st') (pendingOf st').toList 0 c.2)
    (Q := fun c st' => c.1 = none ∧ c.2 = size ∧ kindOf st' = κ ∧ failedOf st' = none ∧ (arrOf st').Perm (arrOf st) ∧ Runs lt (arrOf st') (pendingOf st').toList 0 size) ?_ ?_
    ⟨rfl, Nat.le_refl _, Nat.zero_le _, hk, hf, Array.Perm.refl _, by rw [hp]; rfl⟩) ?_)
  · rintro k ⟨r, lo⟩ st' _ hk' ⟨rfl, a1, a2, k1, f1, p1, R⟩
    dsimp only at a1 a2 R ⊢
    have s1 : (arrOf st').size = size := by rw [p1.size_eq, hsz]
    by_cases hge : lo ≥ size
    · rw [if_pos hge]
      have e : lo = size := by omega
      subst e
      exact wpS_pure ⟨rfl, rfl, k1, f1, p1, R⟩
    rw [if_neg hge]
    refine wpS_bind (wpS_countRun C k1 (all_perm p1 pp) (by omega) (by omega) fun n xs n1 n2 sg hA => ?_)
    dsimp only
    have sxs : xs.size = size := by rw [sg.size, s1]
    have R1 : Runs lt xs (pendingOf st').toList 0 lo := R.congr fun j _ c2 => sg.out j (.inl c2)
    -- from here on: the run [lo, lo + n) stands in the array ys
    have push : ∀ (n : Nat) (st2 : SortSt), 1 ≤ n → Asc lt (arrOf st2) lo (lo + n) → Runs lt (arrOf st2) (pendingOf st2).toList 0 lo → Runs lt (arrOf st2) ((pendingOf st2).push (lo, n, 0)).toList 0 (lo + n) := by
      intro n st2 h1 hA2 R2
      rw [Array.toList_push]
      exact Runs.append.mpr ⟨lo, R2, rfl, h1, hA2, rfl⟩
    have turn : ∀ (f : Nat × Nat × Nat → Nat × Nat × Nat), (∀ x, (f x).1 = x.1 ∧ (f x).2.1 = x.2.1) → ∀ st2 : SortSt, Runs lt (arrOf st2) (pendingOf st2).toList 0 lo → Runs lt (arrOf st2) ((pendingOf st2).modify ((pendingOf st2).size - 1) f).toList 0 lo := by
      intro f hf st2 R2
      rw [Array.toList_modify]
      have modR : ∀ (l : List (Nat × Nat × Nat)) (m a b : Nat), Runs lt (arrOf st2) l a b → Runs lt (arrOf st2) (l.modify m f) a b := by
        intro l
        induction l with
        | nil => intro m a b hR; simpa using hR
        | cons r l ih =>
          intro m a b hR
          obtain ⟨c1, c2, c3, c4⟩ := hR
          cases m with
          | zero =>
            rw [List.modify_zero_cons]
            obtain ⟨e1, e2⟩ := hf r
            exact ⟨by rw [e1]; exact c1, by rw [e2]; exact c2, by rw [e2]; exact c3, by rw [e2]; exact c4⟩
          | succ m =>
            rw [List.modify_succ_cons]
            exact ⟨c1, c2, c3, ih m _ _ c4⟩
      exact modR _ _ _ _ R2
    by_cases hmr : n < mr
    · rw [if_pos hmr]
      refine wpS_bind (wpS_rule ?_)
      refine wpS_bind (wpS_binarySort C (st := setArr st' xs) k1 (all_perm (sg.perm.trans p1) pp) (n := min (size - lo) mr) (by rw [show arrOf (setArr st' xs) = xs from rfl, sxs]; omega) n1 (by omega) hA fun ys sg2 hA2 => ?_)
      rw [if_neg (by simp)]
      have pz : ys.Perm (arrOf st) := sg2.perm.trans (sg.perm.trans p1)
      have szz : ys.size = size := by rw [pz.size_eq, hsz]
      have Rz : Runs lt ys (pendingOf st').toList 0 lo := R1.congr fun j _ c2 => sg2.out j (.inl c2)
      have hnN : 1 ≤ (min (size - lo) mr) ∧ lo + (min (size - lo) mr) ≤ size := by omega
      refine wpS_bind (wpS_get ?_)
      cases hbk : (pendingOf st').back? with
      | none =>
        dsimp only
        exact wpS_bind (wpS_modify (wpS_pure ⟨rfl, by dsimp only; omega, by dsimp only; omega, k1, f1, pz, push (min (size - lo) mr) (setArr st' ys) hnN.1 hA2 Rz⟩))
      | some z =>
        obtain ⟨q1, q2, q3⟩ := z
        dsimp only
        refine wpS_bind (wpS_mono (wpS_forRange (fun _ (c : Option Unit × Unit) st2 => c.1 = none ∧ kindOf st2 = κ ∧ failedOf st2 = none ∧ (arrOf st2).Perm (arrOf st) ∧ Runs lt (arrOf st2) (pendingOf st2).toList 0 lo ∧ (∀ j : Nat, lo ≤ j → (arrOf st2)[j]? = ys[j]?))
          (Q := fun c st2 => c.1 = none ∧ kindOf st2 = κ ∧ failedOf st2 = none ∧ (arrOf st2).Perm (arrOf st) ∧ Runs lt (arrOf st2) (pendingOf st2).toList 0 lo ∧ (∀ j : Nat, lo ≤ j → (arrOf st2)[j]? = ys[j]?)) ?_ (fun c st2 h => h) ⟨rfl, k1, f1, pz, Rz, fun _ _ => rfl⟩) ?_)
        · rintro i ⟨r, u⟩ st2 _ _ ⟨rfl, b1, b2, b3, b4, b5⟩
          refine wpS_bind (wpS_get ?_)
          by_cases hs1 : (pendingOf st2).size > 1
          · rw [if_pos hs1]
            obtain ⟨z, hz⟩ : ∃ z, (pendingOf st2)[(pendingOf st2).size - 2]? = some z := ⟨(pendingOf st2)[(pendingOf st2).size - 2]'(by omega), by simp⟩
            rw [hz]
            obtain ⟨z1, z2, older⟩ := z
            dsimp only
            refine iteBoth (wpS_pure ⟨rfl, b1, b2, b3, b4, b5⟩) ?_
            refine wpS_bind (wpS_mergeAtR C b1 (all_perm b3 pp) b2 (by omega) (by rw [b3.size_eq, hsz]; omega) b4 fun st3 c1 c2 c3 c4 c5 c6 => ?_)
            rw [if_neg (by simp)]
            exact wpS_pure ⟨rfl, c1, c2, c3.trans b3, c5, fun j hj => (c4 j hj).trans (b5 j hj)⟩
          · rw [if_neg hs1]
            exact wpS_pure ⟨rfl, b1, b2, b3, b4, b5⟩
        · rintro ⟨r, u⟩ st2 ⟨rfl, b1, b2, b3, b4, b5⟩
          dsimp only
          refine wpS_bind (wpS_modify (wpS_bind (wpS_modify (wpS_pure ⟨rfl, by dsimp only; omega, by dsimp only; omega, b1, b2, b3, ?_⟩))))
          refine push (min (size - lo) mr) (setPending st2 ((pendingOf st2).modify ((pendingOf st2).size - 1) fun (x : Nat × Nat × Nat) => (x.1, x.2.1, power' size (2 * q1 + q2) (2 * q1 + q2 + q2 + (min (size - lo) mr)) size))) hnN.1 ?_ (turn (fun (x : Nat × Nat × Nat) => (x.1, x.2.1, power' size (2 * q1 + q2) (2 * q1 + q2 + q2 + (min (size - lo) mr)) size)) (fun x => ⟨rfl, rfl⟩) st2 b4)
          exact Asc.congr hA2 fun j c1 c2 => b5 j c1
    · rw [if_neg hmr]
      have pz : xs.Perm (arrOf st) := sg.perm.trans p1
      have szz : xs.size = size := by rw [pz.size_eq, hsz]
      have Rz : Runs lt xs (pendingOf st').toList 0 lo := R1
      have hnN : 1 ≤ n ∧ lo + n ≤ size := by omega
      refine wpS_bind (wpS_get ?_)
      cases hbk : (pendingOf st').back? with
      | none =>
        dsimp only
        exact wpS_bind (wpS_modify (wpS_pure ⟨rfl, by dsimp only; omega, by dsimp only; omega, k1, f1, pz, push n (setArr st' xs) hnN.1 hA Rz⟩))
      | some z =>
        obtain ⟨q1, q2, q3⟩ := z
        dsimp only
        refine wpS_bind (wpS_mono (wpS_forRange (fun _ (c : Option Unit × Unit) st2 => c.1 = none ∧ kindOf st2 = κ ∧ failedOf st2 = none ∧ (arrOf st2).Perm (arrOf st) ∧ Runs lt (arrOf st2) (pendingOf st2).toList 0 lo ∧ (∀ j : Nat, lo ≤ j → (arrOf st2)[j]? = xs[j]?))
          (Q := fun c st2 => c.1 = none ∧ kindOf st2 = κ ∧ failedOf st2 = none ∧ (arrOf st2).Perm (arrOf st) ∧ Runs lt (arrOf st2) (pendingOf st2).toList 0 lo ∧ (∀ j : Nat, lo ≤ j → (arrOf st2)[j]? = xs[j]?)) ?_ (fun c st2 h => h) ⟨rfl, k1, f1, pz, Rz, fun _ _ => rfl⟩) ?_)
        · rintro i ⟨r, u⟩ st2 _ _ ⟨rfl, b1, b2, b3, b4, b5⟩
          refine wpS_bind (wpS_get ?_)
          by_cases hs1 : (pendingOf st2).size > 1
          · rw [if_pos hs1]
            obtain ⟨z, hz⟩ : ∃ z, (pendingOf st2)[(pendingOf st2).size - 2]? = some z := ⟨(pendingOf st2)[(pendingOf st2).size - 2]'(by omega), by simp⟩
            rw [hz]
            obtain ⟨z1, z2, older⟩ := z
            dsimp only
            refine iteBoth (wpS_pure ⟨rfl, b1, b2, b3, b4, b5⟩) ?_
            refine wpS_bind (wpS_mergeAtR C b1 (all_perm b3 pp) b2 (by omega) (by rw [b3.size_eq, hsz]; omega) b4 fun st3 c1 c2 c3 c4 c5 c6 => ?_)
            rw [if_neg (by simp)]
            exact wpS_pure ⟨rfl, c1, c2, c3.trans b3, c5, fun j hj => (c4 j hj).trans (b5 j hj)⟩
          · rw [if_neg hs1]
            exact wpS_pure ⟨rfl, b1, b2, b3, b4, b5⟩
        · rintro ⟨r, u⟩ st2 ⟨rfl, b1, b2, b3, b4, b5⟩
          dsimp only
          refine wpS_bind (wpS_modify (wpS_bind (wpS_modify (wpS_pure ⟨rfl, by dsimp only; omega, by dsimp only; omega, b1, b2, b3, ?_⟩))))
          refine push n (setPending st2 ((pendingOf st2).modify ((pendingOf st2).size - 1) fun (x : Nat × Nat × Nat) => (x.1, x.2.1, power' size (2 * q1 + q2) (2 * q1 + q2 + q2 + n) size))) hnN.1 ?_ (turn (fun (x : Nat × Nat × Nat) => (x.1, x.2.1, power' size (2 * q1 + q2) (2 * q1 + q2 + q2 + n) size)) (fun x => ⟨rfl, rfl⟩) st2 b4)
          exact Asc.congr hA fun j c1 c2 => b5 j c1
  · rintro ⟨r, lo⟩ st' ⟨rfl, a1, a2, k1, f1, p1, R⟩
    dsimp only at a1 a2 R ⊢
    have e : lo = size := by omega
    rw [e] at R
    exact ⟨rfl, e, k1, f1, p1, R⟩
  · rintro ⟨r, lo⟩ st' ⟨rfl, e, k1, f1, p1, R⟩
    dsimp only at e
    have s1 : (arrOf st').size = size := by rw [p1.size_eq, hsz]
    dsimp only
    have hlen : (pendingOf st').toList.length = (pendingOf st').size := by simp
    have hle := R.le
    refine wpS_bind (wpS_mono (wpS_forRange (fun k (c : Option Unit × Unit) st2 => c.1 = none ∧ (pendingOf st2).size ≤ max 1 (size - k) ∧ kindOf st2 = κ ∧ failedOf st2 = none ∧ (arrOf st2).Perm (arrOf st) ∧ Runs lt (arrOf st2) (pendingOf st2).toList 0 size)
      (Q := fun c st2 => c.1 = none ∧ (pendingOf st2).size ≤ 1 ∧ kindOf st2 = κ ∧ failedOf st2 = none ∧ (arrOf st2).Perm (arrOf st) ∧ Runs lt (arrOf st2) (pendingOf st2).toList 0 size) ?_ ?_ ⟨rfl, by omega, k1, f1, p1, R⟩) ?_)
    · rintro i ⟨r, u⟩ st2 _ hi ⟨rfl, b1, b2, b3, b4, b5⟩
      refine wpS_bind (wpS_get ?_)
      by_cases hs1 : (pendingOf st2).size ≤ 1
      · rw [if_pos hs1]
        exact wpS_pure ⟨rfl, hs1, b2, b3, b4, b5⟩
      rw [if_neg hs1]
      have go : ∀ m, m + 1 < (pendingOf st2).size → wpS M A E s (mergeAt' m) (fun b st3 => b = true ∧ (pendingOf st3).size ≤ max 1 (size - (i + 1)) ∧ kindOf st3 = κ ∧ failedOf st3 = none ∧ (arrOf st3).Perm (arrOf st) ∧ Runs lt (arrOf st3) (pendingOf st3).toList 0 size) st2 := fun m hm =>
        wpS_mergeAtR C b2 (all_perm b4 pp) b3 hm (by rw [b4.size_eq, hsz]; exact Nat.le_refl _) b5 fun st3 c1 c2 c3 c4 c5 c6 => ⟨rfl, by omega, c1, c2, c3.trans b4, c5⟩
      refine wpS_bind (wpS_mono (go _ ?_) fun b st3 hb => ?_)
      · (repeat' split) <;> omega
      · obtain ⟨rfl, d1, d2, d3, d4, d5⟩ := hb
        rw [if_neg (by simp)]
        exact wpS_pure ⟨rfl, d1, d2, d3, d4, d5⟩
    · rintro ⟨r, u⟩ st2 ⟨rfl, b1, b2, b3, b4, b5⟩
      exact ⟨rfl, by omega, b2, b3, b4, b5⟩
    · rintro ⟨r, u⟩ st2 ⟨rfl, b1, b2, b3, b4, b5⟩
      refine wpS_pure (h st2 b2 b3 b4 ?_)
      rw [hsz]
      cases hpl : (pendingOf st2).toList with
      | nil =>
        rw [hpl] at b5
        have e0 : 0 = size := b5
        intro i j x y c1 c2 c3
        omega
      | cons r l =>
        have hl2 : (pendingOf st2).toList.length = (pendingOf st2).size := by simp
        rw [hpl, List.length_cons] at hl2
        have el : l = [] := List.length_eq_zero_iff.mp (by omega)
        subst el
        rw [hpl] at b5
        obtain ⟨d1, d2, d3, d4⟩ := b5
        have e0 : 0 + r.2.1 = size := d4
        rw [e0] at d3
        exact d3
end
end
end Tim

set_option Elab.async false
set_option linter.all false
set_option maxRecDepth 100000
set_option maxHeartbeats 4000000
namespace L2
open PySem PySem.Spec PyProof.Rows
/-- the order of tuples of ints -/
def lexB : List Int → List Int → Bool
  | [], [] => false
  | [], _ :: _ => true
  | _ :: _, [] => false
  | a :: r, b :: t => if a = b then lexB r t else decide (a < b)
theorem lexB_asym : ∀ a b : List Int, lexB a b = true → lexB b a = false
  | [], [], h => by simp [lexB] at h
  | [], _ :: _, _ => rfl
  | _ :: _, [], h => by simp [lexB] at h
  | a :: r, b :: t, h => by
    unfold lexB at h ⊢
    by_cases e : a = b
    · rw [if_pos e] at h
      rw [if_pos e.symm]
      exact lexB_asym r t h
    · rw [if_neg e] at h
      rw [if_neg (Ne.symm e)]
      have := of_decide_eq_true h
      exact decide_eq_false (by omega)
theorem lexB_trans : ∀ a b c : List Int, lexB b a = false → lexB c b = false → lexB c a = false
  | [], b, [], _, _ => rfl
  | _ :: _, [], c, h, _ => by simp [lexB] at h
  | [], [], _ :: _, _, _ => rfl
  | [], _ :: _, _ :: _, _, _ => rfl
  | _ :: _, _ :: _, [], _, k => by simp [lexB] at k
  | a :: r, b :: t, c :: v, h, k => by
    unfold lexB at h k ⊢
    by_cases e1 : b = a
    · rw [if_pos e1] at h
      by_cases e2 : c = b
      · rw [if_pos e2] at k
        rw [if_pos (e2.trans e1)]
        exact lexB_trans r t v h k
      · rw [if_neg e2] at k
        rw [if_neg (by omega)]
        have := of_decide_eq_false k
        exact decide_eq_false (by omega)
    · rw [if_neg e1] at h
      have h' := of_decide_eq_false h
      by_cases e2 : c = b
      · rw [if_pos e2] at k
        rw [if_neg (by omega)]
        exact decide_eq_false (by omega)
      · rw [if_neg e2] at k
        have k' := of_decide_eq_false k
        rw [if_neg (by omega)]
        exact decide_eq_false (by omega)
theorem lexB_eq : ∀ a b : List Int, lexB a b = false → lexB b a = false → a = b
  | [], [], _, _ => rfl
  | [], _ :: _, h, _ => by simp [lexB] at h
  | _ :: _, [], _, h => by simp [lexB] at h
  | a :: r, b :: t, h, k => by
    unfold lexB at h k
    by_cases e : a = b
    · rw [if_pos e] at h
      rw [if_pos e.symm] at k
      rw [e, lexB_eq r t h k]
    · rw [if_neg e] at h
      rw [if_neg (Ne.symm e)] at k
      have := of_decide_eq_false h
      have := of_decide_eq_false k
      omega
/-- sorted -/
abbrev LSrt (l : List (List Int)) : Prop := l.Pairwise fun x y => lexB y x = false
theorem LSrt.ext : ∀ {l m : List (List Int)}, LSrt l → LSrt m → l.Perm m → l = m := by
  intro l m hl hm hp
  exact List.Perm.eq_of_pairwise (le := fun x y => lexB y x = false) (fun a b _ _ h1 h2 => lexB_eq a b h2 h1) hl hm hp
def lexZ (fin : Bool) : List Int → List Int → Bool
  | a :: r, b :: t => if a = b then lexZ fin r t else decide (a < b)
  | _, _ => fin
theorem lexZ_eq : ∀ a b : List Int, lexZ (decide (a.length < b.length)) a b = lexB a b
  | [], [] => by simp [lexZ, lexB]
  | [], _ :: _ => by simp [lexZ, lexB]
  | _ :: _, [] => by simp [lexZ, lexB]
  | a :: r, b :: t => by
    unfold lexZ lexB
    have h := lexZ_eq r t
    simp only [List.length_cons, Nat.add_lt_add_iff_right]
    rw [h]
section
variable {prog : Program} {w : World} {A : Around} {E : Value → Shared → Prop} {s : Shared}
theorem lex_ints {fin : Bool} {Q : Bool → Shared → Prop} : ∀ {us vs : List Value} {ns ms : List Int} (i : Nat), IntsAre us ns → IntsAre vs ms → Q (lexZ fin ns ms) s → PySem.W.KatLex prog w A true fin Q (us.zip vs) i s
  | [], _, _, _, i, h1, _, q => by
    cases h1
    rw [List.zip_nil_left]
    exact PySem.W.kat_nil (by simpa [lexZ] using q)
  | _ :: _, [], _, _, i, _, h2, q => by
    cases h2
    rw [List.zip_nil_right]
    refine PySem.W.kat_nil ?_
    revert q
    cases h : (‹List Int›) <;> simp [lexZ]
  | u :: us, v :: vs, _, _, i, h1, h2, q => by
    cases h1 with
    | @cons a t _ r h1 =>
      cases h2 with
      | @cons b t' _ r' h2 =>
        rw [List.zip_cons_cons]
        refine PySem.W.kat_cons (wpAny_eqBool_int ?_)
        unfold lexZ at q
        by_cases e : a = b
        · rw [if_pos e] at q
          rw [show (a == b) = true by simp [e]]
          exact PySem.W.kat_yes (lex_ints (i + 1) h1 h2 q)
        · rw [if_neg e] at q
          rw [show (a == b) = false by simp [e]]
          refine PySem.W.kat_no ?_
          cases hb : (true && i == 0) with
          | true => exact oneLt_int q
          | false => exact PySem.W.kat_one _ _ (lt_int q)
end
/-- the key of a value: the ints of a tuple -/
def keyV (h : Heap) (v : Value) : List Int := match v with
  | .ref a => match h.get? a with
    | some o => match o.data with
      | .seq xs _ => xs.toList.map fun u => match u with | .int i _ => i | _ => 0
      | _ => []
    | none => []
  | _ => []
def TupV (h : Heap) (v : Value) : Prop := ∃ a o xs n ns, v = .ref a ∧ h.get? a = some o ∧ o.cls = .type "tuple" ∧ o.data = .seq xs n ∧ IntsAre xs.toList ns ∧ ns ≠ []
theorem ints_map : ∀ {us : List Value} {ns : List Int}, IntsAre us ns → (us.map fun u => match u with | .int i _ => i | _ => 0) = ns
  | _, _, .nil => rfl
  | _, _, .cons _ _ h => by rw [List.map_cons, ints_map h]
theorem keyV_of {h : Heap} {a : Addr} {o : Obj} {xs : Array Value} {n : Nat} {ns : List Int} (ho : h.get? a = some o) (hd : o.data = .seq xs n) (hi : IntsAre xs.toList ns) : keyV h (.ref a) = ns := by
  unfold keyV
  simp only [ho, hd]
  exact ints_map hi
theorem TupV.keep {h h' : Heap} {v : Value} (t : TupV h v) (k : ∀ b o, h.get? b = some o → o.cls = .type "tuple" → h'.get? b = some o) : TupV h' v := by
  obtain ⟨a, o, xs, n, ns, e, ho, hc, r⟩ := t
  exact ⟨a, o, xs, n, ns, e, k a o ho hc, hc, r⟩
theorem keyV_keep {h h' : Heap} {v : Value} (t : TupV h v) (k : ∀ b o, h.get? b = some o → o.cls = .type "tuple" → h'.get? b = some o) : keyV h' v = keyV h v := by
  obtain ⟨a, o, xs, n, ns, rfl, ho, hc, hd, hi, _⟩ := t
  rw [keyV_of (k a o ho hc) hd hi, keyV_of ho hd hi]
section
variable {prog : Program} {w : World} {A : Around} {E : Value → Shared → Prop} {s : Shared}
theorem cmp_tups : Tim.Cmp (model prog w) A E s (tuples' true) (fun x => TupV s.heap x.1) (fun x y => lexB (keyV s.heap x.1) (keyV s.heap y.1)) where
  asym := fun x y h => lexB_asym _ _ h
  trans := fun x y z h k => lexB_trans _ _ _ h k
  run := fun x y st Q hx hy hk q => by
    obtain ⟨x, x2⟩ := x
    obtain ⟨y, y2⟩ := y
    obtain ⟨a, o, xs, n, ns, rfl, ho, hc, hd, hi, _⟩ := hx
    obtain ⟨b, o', ys, m, ms, rfl, ho', hc', hd', hi', _⟩ := hy
    dsimp only at q
    rw [keyV_of ho hd hi, keyV_of ho' hd' hi'] at q
    rw [lt'_eq]
    refine wpS_bind (wpS_get ?_)
    rw [hk]
    refine wpS_bind (wpS_lift (wpAny_attempt (PySem.W.kat_lt ho hd ho' hd' (lex_ints 0 hi hi' ⟨rfl, ?_⟩))))
    have e1 : xs.size = ns.length := by rw [← Array.length_toList]; exact hi.length
    have e2 : ys.size = ms.length := by rw [← Array.length_toList]; exact hi'.length
    rw [e1, e2, lexZ_eq]
    exact wpS_pure q
theorem katTups : ∀ {vs : List Value}, (∀ v ∈ vs, TupV s.heap v) → ∃ fs, PySem.W.KatTups s.heap vs fs ∧ fs.length = vs.length ∧ ∀ v ∈ fs, ∃ i t, v = Value.int i t
  | [], _ => ⟨[], trivial, rfl, fun v h => nomatch h⟩
  | v :: vs, h => by
    obtain ⟨fs, k, hl, hi⟩ := katTups fun u hu => h u (List.mem_cons_of_mem _ hu)
    obtain ⟨a, o, xs, n, ns, rfl, ho, hc, hd, his, hne⟩ := h v List.mem_cons_self
    obtain ⟨i, t, r, e⟩ : ∃ i t r, xs.toList = Value.int i t :: r := by
      cases his' : xs.toList with
      | nil => rw [his'] at his; cases his; exact absurd rfl hne
      | cons u r => rw [his'] at his; cases his with | @cons i t _ _ _ => exact ⟨i, t, r, rfl⟩
    refine ⟨.int i t :: fs, PySem.W.KatTups.cons ho hc hd ?_ k, by simp [hl], fun u hu => ?_⟩
    · rw [← Array.getElem?_toList, e]; rfl
    · rcases List.mem_cons.mp hu with rfl | hu
      · exact ⟨i, t, rfl⟩
      · exact hi u hu
theorem kind_tups {vs : List Value} {Q : SortKind → Shared → Prop} (hT : ∀ v ∈ vs, TupV s.heap v) (h0 : 0 < vs.length) (h : Q (tuples' true) s) : wpAny (model prog w) A (keyKind' vs.toArray) Q E s := by
  obtain ⟨fs, k, hl, hi⟩ := katTups hT
  refine PySem.W.kat_kind (T := .type "int") k (by omega) (fun v hv => ?_) (by rfl) h
  obtain ⟨i, t, rfl⟩ := hi v hv
  exact PySem.W.Looks.now
theorem zip_self : ∀ vs : List Value, vs.zip vs = vs.map fun v => (v, v)
  | [] => rfl
  | v :: vs => by rw [List.zip_cons_cons, List.map_cons, zip_self vs]
/-- what is told of the sorted values -/
def SortOut (h : Heap) (vs : List Value) (out : Array Value) : Prop := out.toList.Perm vs ∧ out.toList.Pairwise fun x y => lexB (keyV h y) (keyV h x) = false
theorem list_sort_tups {a : Addr} {vs : List Value} {n : Nat} {P : PySem.Fin → Shared → Prop} (ho : s.heap.get? a = some (seqObj "list" vs.toArray n))
    (hT : ∀ v ∈ vs, TupV s.heap v) (hz : vs.length ≤ sizeLine)
    (h : ∀ (out : Array Value), SortOut s.heap vs out → P (.done (.ret .none)) { s with heap := sortedHeap s.heap a vs out }) :
    wpAny (model prog w) A (Builtin.«list.sort» ⟨[.ref a], []⟩) P E s := by
  rw [list_sort_plain]
  have ha : a < s.heap.objs.size := Heap.lt_size ho
  refine wpAny_bind (listItems_at ho rfl ?_)
  refine wpAny_bind (listUpdate_at ho rfl ?_ (by simpa using hz) (Nat.zero_le _))
  obtain ⟨e1, ho1⟩ : ∃ e1, (s.heap.update a (Obj.mapSeq fun _ => #[])).get? a = some (seqObj "list" #[] e1) := ⟨_, get?_update_seq ho (fun _ => #[])⟩
  refine wpAny_bind (seqEpoch_at ho1 rfl ?_)
  refine wpAny_bind (wpAny_newTuple ?_ (by show vs.length ≤ _; exact hz))
  refine wpAny_bind (wpAny_newList ?_ (Nat.zero_le _))
  refine wpAny_holding ?_
  have ho6 : (((s.heap.update a (Obj.mapSeq fun _ => #[])).push (seqObj "tuple" vs.toArray 0)).push (seqObj "list" #[] 0)).get? a = some (seqObj "list" #[] e1) := by
    rw [Heap.get?_push_ne _ _ _ (by rw [size_push', Heap.size_update]; exact Nat.ne_of_lt (Nat.lt_succ_of_lt ha)), Heap.get?_push_ne _ _ _ (by rw [Heap.size_update]; exact Nat.ne_of_lt ha)]
    exact ho1
  show wpAny (model prog w) A _ P E { s with heap := ((s.heap.update a (Obj.mapSeq fun _ => #[])).push (seqObj "tuple" vs.toArray 0)).push (seqObj "list" #[] 0) }
  dsimp only
  have hsz : vs.toArray.size = vs.length := by simp
  have keep : ∀ b o, s.heap.get? b = some o → o.cls = .type "tuple" → (((s.heap.update a (Obj.mapSeq fun _ => #[])).push (seqObj "tuple" vs.toArray 0)).push (seqObj "list" #[] 0)).get? b = some o := fun b o q hc => by
    have hb : b ≠ a := by
      intro e
      rw [e, ho] at q
      cases q
      revert hc
      show ¬ Value.type "list" = Value.type "tuple"
      intro z
      injection z with z
      exact absurd z (by decide)
    refine Heap.get?_push_of_some _ (Heap.get?_push_of_some _ ?_)
    rw [Heap.get?_update_ne _ _ _ _ hb]
    exact q
  have fin : ∀ st' : SortSt, (arrOf st').Perm (pairsOf vs) → Tim.Srt (fun x y => lexB (keyV s.heap x.1) (keyV s.heap y.1)) (arrOf st').toList →
      P (.done (.ret .none)) { s with heap := sortedHeap s.heap a vs ((arrOf st').map (·.2)) } := by
    intro st' hp hs
    have same : ∀ x ∈ (arrOf st').toList, x.1 = x.2 := by
      intro x hx
      have hx' : x ∈ (pairsOf vs).toList := (hp.toList.mem_iff).mp hx
      have e : (pairsOf vs).toList = vs.map fun v => (v, v) := by
        unfold pairsOf
        rw [Array.toList_zip]
        exact zip_self vs
      rw [e] at hx'
      obtain ⟨v, _, rfl⟩ := List.mem_map.mp hx'
      rfl
    refine h _ ⟨?_, ?_⟩
    · rw [Array.toList_map]
      have := hp.toList.map (·.2)
      refine this.trans ?_
      have e : (pairsOf vs).toList.map (·.2) = vs := by
        unfold pairsOf
        rw [Array.toList_zip]
        show (vs.zip vs).map _ = vs
        rw [zip_self, List.map_map]
        exact List.map_id vs
      rw [e]
    · rw [Array.toList_map, List.pairwise_map]
      refine hs.imp_of_mem ?_
      intro x y hx hy hxy
      rw [← same x hx, ← same y hy]
      exact hxy
  by_cases h2 : vs.toArray.size < 2
  · rw [if_pos h2, if_pos h2]
    refine wpAny_bind (wpAny_pure ?_)
    rw [StateT.run_pure]
    refine wpAny_bind (wpAny_pure ?_)
    dsimp only
    refine wpAny_bind (seqEpoch_at ho6 rfl ?_)
    refine wpAny_bind (listUpdate_at ho6 rfl ?_ (Nat.zero_le _) (hsz2 := by rw [Array.size_map]; show (pairsOf vs).size ≤ _; rw [pairsOf_size]; omega))
    simp only [bne_self_eq_false, Bool.false_eq_true, if_false]
    refine wpAny_pure (fin (SortSt.mk' general' (vs.toArray.zip vs.toArray) #[] 7 none) (Array.Perm.refl _) ?_)
    show Tim.Srt _ (vs.toArray.zip vs.toArray).toList
    rw [Array.toList_zip]
    match vs, hsz, h2 with
    | [], _, _ => simp
    | [_], _, _ => simp
    | _ :: _ :: _, _, h2 => simp at h2; omega
  · rw [if_neg h2, if_neg h2]
    have hT' : ∀ v ∈ vs, TupV (((s.heap.update a (Obj.mapSeq fun _ => #[])).push (seqObj "tuple" vs.toArray 0)).push (seqObj "list" #[] 0)) v := fun v hv => (hT v hv).keep keep
    refine wpAny_bind (kind_tups (s := { s with heap := ((s.heap.update a (Obj.mapSeq fun _ => #[])).push (seqObj "tuple" vs.toArray 0)).push (seqObj "list" #[] 0) }) hT' (by omega) ?_)
    have epz : (pairsOf vs).toList = vs.map fun v => (v, v) := by
      unfold pairsOf
      rw [Array.toList_zip]
      exact zip_self vs
    refine wpAny_bind (wpAny_mono (Tim.wpS_sortRuns cmp_tups (st := SortSt.mk' (tuples' true) (vs.toArray.zip vs.toArray) #[] 7 none)
      (Q := fun _ st' => (arrOf st').Perm (pairsOf vs) ∧ failedOf st' = none ∧ Tim.Asc (fun x y => lexB (keyV (((s.heap.update a (Obj.mapSeq fun _ => #[])).push (seqObj "tuple" vs.toArray 0)).push (seqObj "list" #[] 0)) x.1) (keyV (((s.heap.update a (Obj.mapSeq fun _ => #[])).push (seqObj "tuple" vs.toArray 0)).push (seqObj "list" #[] 0)) y.1)) (arrOf st') 0 (pairsOf vs).size)
      rfl (fun x hx => by
        have hx' : x ∈ (pairsOf vs).toList := hx
        rw [epz] at hx'
        obtain ⟨v, hv, rfl⟩ := List.mem_map.mp hx'
        exact hT' v hv) rfl rfl fun st' _ a2 a1 a3 => ⟨a1, a2, a3⟩) ?_ fun _ _ e => e)
    rintro ⟨⟨⟩, st'⟩ s' ⟨rfl, hp, hf, hs⟩
    dsimp only
    refine wpAny_bind (seqEpoch_at ho6 rfl ?_)
    refine wpAny_bind (listUpdate_at ho6 rfl ?_ (Nat.zero_le _) (hsz2 := by refine Nat.le_trans (Nat.le_of_eq ((Array.size_map ..).trans (hp.size_eq.trans (pairsOf_size _)))) ?_; omega))
    rw [hf]
    simp only [bne_self_eq_false, Bool.false_eq_true, if_false]
    refine wpAny_pure (fin st' hp ?_)
    have mem : ∀ x ∈ (arrOf st').toList, ∃ v ∈ vs, x = (v, v) := by
      intro x hx
      have hx' : x ∈ (pairsOf vs).toList := (hp.toList.mem_iff).mp hx
      rw [epz] at hx'
      obtain ⟨v, hv, rfl⟩ := List.mem_map.mp hx'
      exact ⟨v, hv, rfl⟩
    show List.Pairwise _ _
    rw [List.pairwise_iff_getElem]
    intro i j hi hj hij
    have q := hs i j (arrOf st').toList[i] (arrOf st').toList[j] (Nat.zero_le _) hij (by rw [← hp.size_eq, ← Array.length_toList]; exact hj) (by rw [← Array.getElem?_toList]; simp [hi]) (by rw [← Array.getElem?_toList]; simp [hj])
    obtain ⟨v, hv, ev⟩ := mem _ (List.getElem_mem hi)
    obtain ⟨u, hu, eu⟩ := mem _ (List.getElem_mem hj)
    rw [ev, eu] at q ⊢
    dsimp only at q ⊢
    rw [keyV_keep (hT v hv) keep, keyV_keep (hT u hu) keep] at q
    exact q
theorem sorted_tups {l : Addr} {vs : List Value} {Q : Value → Shared → Prop} (hl : s.heap.IsList l vs.toArray) (hT : ∀ v ∈ vs, TupV s.heap v) (hz : vs.length ≤ sizeLine)
    (h : ∀ (out : Array Value), SortOut s.heap vs out → Q (.ref (s.heap.objs.size + 1)) { s with heap := sortedAll s.heap vs out }) :
    wpAny (model prog w) A (call (.builtin "sorted") [.ref l]) Q E s := by
  refine Calls.call_function_entry kind_sorted plain_sorted entry_sorted (args_sorted1 _) ?_
  unfold Builtin.«sorted»
  refine wpAny_bind (m := checkCount "sorted" 1 1 _) (wpAny_pure ?_)
  refine wpAny_bind (collect_list hl ?_ hz)
  refine wpAny_bind (wpAny_newList ?_ (by show vs.length ≤ _; exact hz))
  have hsz : ((s.heap.push (seqObj "list" #[] 0)).update s.heap.objs.size (Obj.mapSeq (· ++ vs.toArray))).objs.size = s.heap.objs.size + 1 := by
    rw [Heap.size_update, size_push']
  have hoL : (((s.heap.push (seqObj "list" #[] 0)).update s.heap.objs.size (Obj.mapSeq (· ++ vs.toArray))).push (seqObj "list" vs.toArray 0)).get? (s.heap.objs.size + 1) = some (seqObj "list" vs.toArray 0) := by
    rw [← hsz]; exact Heap.get?_push_size _ rfl
  have keep : ∀ b o, s.heap.get? b = some o → o.cls = .type "tuple" → (((s.heap.push (seqObj "list" #[] 0)).update s.heap.objs.size (Obj.mapSeq (· ++ vs.toArray))).push (seqObj "list" vs.toArray 0)).get? b = some o := fun b o q _ => by
    have hb : b ≠ s.heap.objs.size := Nat.ne_of_lt (Heap.lt_size q)
    refine Heap.get?_push_of_some _ ?_
    rw [Heap.get?_update_ne _ _ _ _ hb]
    exact Heap.get?_push_of_some _ q
  show wpAny _ _ _ _ _ { s with heap := ((s.heap.push (seqObj "list" #[] 0)).update s.heap.objs.size (Obj.mapSeq (· ++ vs.toArray))).push (seqObj "list" vs.toArray 0) }
  rw [hsz]
  refine wpAny_bind (wpAny_holding (wpAny_call_entry slot_list_sort ⟨_, hoL, rfl⟩ entry_list_sort (list_sort_tups (s := { s with heap := ((s.heap.push (seqObj "list" #[] 0)).update s.heap.objs.size (Obj.mapSeq (· ++ vs.toArray))).push (seqObj "list" vs.toArray 0) }) hoL (fun v hv => (hT v hv).keep keep) hz fun out ⟨o1, o2⟩ => ⟨_, rfl, ?_⟩) (args_list_sort _)))
  refine wpAny_pure ⟨_, rfl, h out ⟨o1, o2.imp_of_mem fun {x y} hx hy hxy => ?_⟩⟩
  dsimp only at hxy
  rw [keyV_keep (hT x (o1.mem_iff.mp hx)) keep, keyV_keep (hT y (o1.mem_iff.mp hy)) keep] at hxy
  exact hxy
theorem sortedAll_keep {vs : List Value} {out : Array Value} {b : Addr} {o : Obj} (q : s.heap.get? b = some o) : (sortedAll s.heap vs out).get? b = some o := by
  have hb := Heap.lt_size q
  unfold sortedAll sortedHeap
  rw [Heap.get?_update_ne _ _ _ _ (Nat.ne_of_lt (Nat.lt_succ_of_lt hb))]
  refine Heap.get?_push_of_some _ (Heap.get?_push_of_some _ ?_)
  rw [Heap.get?_update_ne _ _ _ _ (Nat.ne_of_lt (Nat.lt_succ_of_lt hb))]
  refine Heap.get?_push_of_some _ ?_
  rw [Heap.get?_update_ne _ _ _ _ (Nat.ne_of_lt hb)]
  exact Heap.get?_push_of_some _ q
theorem sortedAll_list {vs : List Value} {out : Array Value} : ∃ c, (sortedAll s.heap vs out).get? (s.heap.objs.size + 1) = some (seqObj "list" out c) := by
  have hsz : ((s.heap.push (seqObj "list" #[] 0)).update s.heap.objs.size (Obj.mapSeq (· ++ vs.toArray))).objs.size = s.heap.objs.size + 1 := by
    rw [Heap.size_update, size_push']
  have hoL : (((s.heap.push (seqObj "list" #[] 0)).update s.heap.objs.size (Obj.mapSeq (· ++ vs.toArray))).push (seqObj "list" vs.toArray 0)).get? (s.heap.objs.size + 1) = some (seqObj "list" vs.toArray 0) := by
    rw [← hsz]; exact Heap.get?_push_size _ rfl
  unfold sortedAll sortedHeap
  have h1 := get?_update_seq hoL (fun _ => #[])
  have h2 := Heap.get?_push_of_some (seqObj "list" #[] 0) (Heap.get?_push_of_some (seqObj "tuple" vs.toArray 0) h1)
  exact ⟨_, get?_update_seq h2 (fun _ => out)⟩
end
theorem vals_perm : ∀ {us us' : List Value}, us'.Perm us → ∀ {vs : List V}, Vals vs us → ∃ vs', vs'.Perm vs ∧ Vals vs' us' := by
  intro us us' p
  induction p with
  | nil => intro vs h; exact ⟨vs, .refl _, h⟩
  | @cons x l1 l2 _ ih =>
    intro vs h
    cases h with
    | cons r t =>
      obtain ⟨vs', p', h'⟩ := ih t
      exact ⟨_ :: vs', p'.cons _, .cons r h'⟩
  | swap x y l =>
    intro vs h
    cases h with
    | cons r t =>
      cases t with
      | cons r' t' => exact ⟨_, .swap _ _ _, .cons r' (.cons r t')⟩
  | trans _ _ ih1 ih2 =>
    intro vs h
    obtain ⟨v1, p1, h1⟩ := ih2 h
    obtain ⟨v2, p2, h2⟩ := ih1 h1
    exact ⟨v2, p2.trans p1, h2⟩
theorem paired_perm {α β : Type} {R : α → β → Prop} : ∀ {vs vs' : List α}, vs'.Perm vs → ∀ {ns : List β}, Paired R vs ns → ∃ ns', ns'.Perm ns ∧ Paired R vs' ns' := by
  intro vs vs' p
  induction p with
  | nil => intro ns h; exact ⟨ns, .refl _, h⟩
  | @cons x l1 l2 _ ih =>
    intro ns h
    cases h with
    | cons r t =>
      obtain ⟨ns', p', h'⟩ := ih t
      exact ⟨_ :: ns', p'.cons _, .cons r h'⟩
  | swap x y l =>
    intro ns h
    cases h with
    | cons r t =>
      cases t with
      | cons r' t' => exact ⟨_, .swap _ _ _, .cons r' (.cons r t')⟩
  | trans _ _ ih1 ih2 =>
    intro ns h
    obtain ⟨n1, p1, h1⟩ := ih2 h
    obtain ⟨n2, p2, h2⟩ := ih1 h1
    exact ⟨n2, p2.trans p1, h2⟩
section
variable {X : Cx} {pins : List (Addr × Obj)} {σ : St} {H : Hp} {s : Shared}
theorem ints_of_vals : ∀ {ns : List Int} {us : List Value}, Vals (ns.map V.int) us → IntsAre us ns
  | [], _, h => by cases h; exact .nil
  | n :: ns, _, h => by
    cases h with
    | cons r t =>
      obtain ⟨t', rfl⟩ := (show ∃ t, _ = Value.int n t from r)
      exact .cons _ _ (ints_of_vals t)
theorem tupV_of (I : Inv X pins σ H s) {v : V} {u : Value} {ns : List Int} (t : Tp H v ns) (hn : ns ≠ []) (r : RelV v u) : TupV s.heap u ∧ keyV s.heap u = ns := by
  obtain ⟨p, rfl, hp⟩ := t
  cases (show u = Value.ref p from r)
  obtain ⟨its, rv, ⟨o, ho, hc, n, hd⟩, _⟩ := I.tuple (SqT.of (K := X.K) hp)
  have hi : IntsAre its.toArray.toList ns := by simpa using ints_of_vals rv
  exact ⟨⟨p, o, _, n, ns, rfl, ho, hc, hd, hi, hn⟩, keyV_of ho hd hi⟩
theorem tups_all (I : Inv X pins σ H s) : ∀ {vs : List V} {us : List Value} {nss : List (List Int)}, Vals vs us → Tps H vs nss → (∀ ns ∈ nss, ns ≠ []) → (∀ u ∈ us, TupV s.heap u) ∧ us.map (keyV s.heap) = nss
  | _, _, _, .nil, .nil, _ => ⟨fun _ h => (nomatch h), rfl⟩
  | _, _, _, .cons r t, .cons q z, hn => by
    obtain ⟨h1, h2⟩ := tups_all I t z fun ns h => hn ns (List.mem_cons_of_mem _ h)
    obtain ⟨k1, k2⟩ := tupV_of I q (hn _ List.mem_cons_self) r
    refine ⟨fun u hu => ?_, by rw [List.map_cons, h2, k2]⟩
    rcases List.mem_cons.mp hu with rfl | hu
    · exact k1
    · exact h1 u hu
/-- sorted(list of tuples of ints) -/
theorem call_sortedT : CallR X (.builtin "sorted") (fun xs H Q => ∃ p vs nss, xs = [.ref p] ∧ SqL X.K H p vs ∧ Tps H vs nss ∧ (∀ ns ∈ nss, ns ≠ []) ∧
    ∀ l vs' nss', H l = none → Tps (upd H l (.lst vs')) vs' nss' → nss'.Perm nss → LSrt nss' → Q (.ref l) (upd H l (.lst vs'))) := by
  intro pins s σ H xs us Q I r h
  obtain ⟨p, vs, nss, rfl, hq, ht, hn, q⟩ := h
  obtain ⟨u, rfl, rx⟩ := vals1 r
  cases rx
  obtain ⟨its, r', pl, hz⟩ := I.list hq
  have hlen := r'.length
  obtain ⟨hT, hk⟩ := tups_all I r' ht hn
  refine sorted_tups pl.isList hT (by omega) fun out ⟨o1, o2⟩ => ?_
  obtain ⟨vs', pv, rv⟩ := vals_perm o1 r'
  obtain ⟨nss', pn, rn⟩ := paired_perm pv ht
  obtain ⟨_, hk'⟩ := tups_all I rv rn fun ns h => hn ns (pn.mem_iff.mp h)
  have hnew : H (s.heap.objs.size + 1) = none := I.hok.fresh (Nat.le_succ _)
  obtain ⟨c, hc⟩ := sortedAll_list (s := s) (vs := its) (out := out)
  refine ⟨.ref (s.heap.objs.size + 1), _, I.laid (t' := s.toks) (o := .lst vs') (fun b o e => sortedAll_keep e) (Nat.le_succ _) ⟨by rw [pv.length_eq]; exact hz, out.toList, c, rv, by simpa using hc⟩, rfl, ?_⟩
  refine q _ vs' nss' hnew (Tps.mono (Same.new hnew _) rn) pn ?_
  rw [← hk', LSrt, List.pairwise_map]
  exact o2
end
end L2

set_option Elab.async false
set_option linter.all false
set_option maxRecDepth 100000
set_option maxHeartbeats 4000000
namespace L2
open PySem PySem.Spec PyProof.Rows
section
variable {prog : Program} {w : World} {K : Type} [DecidableEq K] {knd : HeapKind prog w K} {A : Around} {E : Value → Shared → Prop} {s : Shared} {d a : Addr} {xs : List (K × Addr × Value)} {k : K}
end
section
variable {prog : Program} {w : World} {A : Around} {E : Value → Shared → Prop} {s : Shared} {d it : Addr} {es : Array DictEntry} {ep i : Nat}
end
section
variable {X : Cx} {pins : List (Addr × Obj)} {σ : St} {H : Hp} {s : Shared} {a b : Addr} {kvs : List (List Key × V)} {k : List Key} {A : Around} {E : Value → Shared → Prop}
end
section
variable {X : Cx} {o e : Expr} {apos cpos : Pos} {td ty : TE}
end
section
variable {X : Cx}
theorem op_mulB : OpR X (binaryOp .Mult) (rI IntMulOk fun i j => .int (i * j)) := opI fun _ _ _ _ _ _ _ hc q => mul_int q hc
end
end L2

set_option Elab.async false
set_option linter.all false
set_option maxRecDepth 100000
set_option maxHeartbeats 4000000
namespace L2
open PySem PySem.Spec PyProof.Rows
section
variable {prog : Program} {w : World} {A : Around} {R : Result → Shared → Prop} {s : Shared}
theorem compLoop_gen {elt target iter : Expr} {ifs : List Expr} {scope : Scope} {pos : Pos} {it acc : Value} {env : Env} (I : Nat → Shared → Prop)
    (turn : ∀ n s, I n s → wpAny (model prog w) A (pyNext it) (fun r s₁ => match r with
      | none => R (.ok .next) s₁
      | some v => wpAny (model prog w) A (letOwnedTupleGo target it v) (fun _ s₁' => wpAny (model prog w) A (assign target env v) (fun _ s₂ =>
          wpAny (model prog w) A (forIn ifs true fun c r => if r = true then do let ok ← isTrue c env (eval c env); pure (ForInStep.yield ok) else pure (ForInStep.yield r)) (fun ok s₃ =>
            if ok = true then wpAny (model prog w) A (eval elt env) (fun x s₄ =>
              wpAny (model prog w) A (call (.builtin "list.append") [acc, x]) (fun _ s₅ => ∃ m, m < n ∧ I m s₅) (fun _ _ => False) s₄) (fun _ _ => False) s₃
            else ∃ m, m < n ∧ I m s₃) (fun _ _ => False) s₂) (fun _ _ => False) s₁') (fun _ _ => False) s₁) (fun _ _ => False) s)
    (n : Nat) (h : I n s) :
    codeAny (model prog w) A (.compLoop (.ListComp elt [⟨target, iter, ifs, 0⟩] scope pos) 0 it acc env) R s := by
  refine codeAny_loop rfl I (fun n s hI => ?_) n h
  show wpAny _ A ((compTurn (.ListComp elt [⟨target, iter, ifs, 0⟩] scope pos) 0 it acc env).onRaise (fun x => do noteFrame x env; theTreesLotGoes x)) _ _ s
  refine wpAny_noted ?_
  rw [compTurn_list]
  have F : ∀ {Q : Value → Shared → Prop} (x : Value) (s : Shared), False → Q x s := fun _ _ z => z.elim
  refine wpAny_bind (wpAny_standAt (wpAny_bind (wpAny_mono (turn n s hI) (fun r s₁ h₁ => ?_) F)))
  cases r with
  | none => exact wpAny_pure h₁
  | some v =>
    refine wpAny_bind (wpAny_mono h₁ (fun _ s₁' h₁ => ?_) F)
    refine wpAny_bind (wpAny_mono h₁ (fun _ s₂ h₂ => wpAny_bind (wpAny_mono h₂ (fun ok s₃ h₃ => ?_) F)) F)
    cases ok with
    | false => exact wpAny_pure ⟨rfl, h₃⟩
    | true => exact wpAny_bind (wpAny_bind (wpAny_mono h₃ (fun x s₄ h₄ => wpAny_bind (wpAny_mono h₄ (fun _ s₅ h₅ => wpAny_pure (wpAny_pure ⟨rfl, h₅⟩)) F)) F))
end
/-- the context of a comprehension's block -/
structure CA where
  cl : List (Str × Addr)
  C : Addr
  s₀ : Shared
  H₀ : Hp
  ex : List Addr
  pn : List (Addr × Obj)
def cxC (X : Cx) (scope : Scope) (N' : List Str) (k : CA) : Cx :=
  { X with N := N', s₀ := k.s₀, H₀ := k.H₀, env := compEnvC scope k.cl k.C X.env, outer := X.stack, stack := X.stack, ex := k.ex, fn := fun _ => false, pn := k.pn, xe := fun _ _ => False }
/-- what must be seen of the block's scope: caps the places of the names from around, in the order in which they follow the block's own -/
structure CScope (X : Cx) (scope : Scope) (own : List Str) (caps : List Nat) (cns : List Str) : Prop where
  cell : ∀ y ∈ scope.names, y.2 ≠ .cell
  kind : scope.kind = .function
  names : ∀ y ∈ scope.names, y.2 = .local → scope.names.lookup y.1 = some .local
  free : ∀ y ∈ scope.names, y.2 = .free → X.env.kindOf y.1 = some .cell
  nd : (own ++ cns).Nodup
  cap : cns = caps.filterMap fun j => X.N[j]?
  len : cns.length = caps.length
  vis : ∀ y ∈ cns, scope.names.lookup y = some .free
theorem relabel_lookup {scope : Scope} {env : Env} {x : Str} {k : NameKind} (h : (relabel scope env).names.lookup x = some k) : scope.names.lookup x = some k ∨ (scope.names.lookup x = some .free ∧ k = .cell) := by
  have all : ∀ {names : List (Str × NameKind)}, (names.map fun (n, k) => if (k == NameKind.free && env.scope.kind == .function && env.kindOf n == some .cell) then (n, NameKind.cell) else (n, k)).lookup x = some k →
      names.lookup x = some k ∨ (names.lookup x = some .free ∧ k = .cell) := by
    intro names
    induction names with
    | nil => intro h; simp at h
    | cons p r ih =>
      obtain ⟨n, k'⟩ := p
      intro h
      rw [List.map_cons] at h
      dsimp only at h
      by_cases hx : (x == n) = true
      · by_cases hc : (k' == NameKind.free && env.scope.kind == .function && env.kindOf n == some .cell) = true
        · rw [if_pos hc] at h
          simp only [List.lookup_cons, hx] at h ⊢
          right
          simp only [Bool.and_eq_true, beq_iff_eq] at hc
          exact ⟨by rw [hc.1.1], (Option.some.inj h).symm⟩
        · rw [if_neg hc] at h
          simp only [List.lookup_cons, hx] at h ⊢
          exact .inl h
      · have hx' : (x == n) = false := by simpa using hx
        by_cases hc : (k' == NameKind.free && env.scope.kind == .function && env.kindOf n == some .cell) = true
        · rw [if_pos hc] at h
          simp only [List.lookup_cons, hx'] at h ⊢
          exact ih h
        · rw [if_neg hc] at h
          simp only [List.lookup_cons, hx'] at h ⊢
          exact ih h
  exact all h
/-- the cells that the block takes along -/
theorem closure_of {env : Env} : ∀ (names : List (Str × NameKind)) (cs : List (Str × Addr)), (∀ y ∈ names, y.2 = .free → ∃ c, env.cells.lookup y.1 = some c) → (∀ x c, cs.lookup x = some c → env.cells.lookup x = some c) →
    ∃ cl, (forIn names cs fun (x : Str × NameKind) (r : List (Str × Addr)) => if (x.2 == NameKind.free) = true then do let c ← cellOf env x.1; pure (ForInStep.yield ((x.1, c) :: r)) else pure (ForInStep.yield r) : Sem _) = pure cl ∧
      (∀ x c, cl.lookup x = some c → env.cells.lookup x = some c) ∧ (∀ x, (cs.lookup x).isSome = true → (cl.lookup x).isSome = true) ∧ ∀ y ∈ names, y.2 = .free → (cl.lookup y.1).isSome = true
  | [], cs, _, h => ⟨cs, by rw [List.forIn_nil], h, fun _ z => z, fun _ z => (nomatch z)⟩
  | (n, k) :: r, cs, hf, h => by
    by_cases hk : k = .free
    · subst hk
      obtain ⟨c, hc⟩ := hf (n, .free) List.mem_cons_self rfl
      have h' : ∀ x c', ((n, c) :: cs).lookup x = some c' → env.cells.lookup x = some c' := fun x c' e => by
        by_cases hx : (x == n) = true
        · simp only [List.lookup_cons, hx] at e
          cases e
          rw [beq_iff_eq] at hx
          rw [hx]; exact hc
        · have hx' : (x == n) = false := by simpa using hx
          simp only [List.lookup_cons, hx'] at e
          exact h x c' e
      obtain ⟨cl, e, h1, h2, h3⟩ := closure_of r ((n, c) :: cs) (fun y hy => hf y (List.mem_cons_of_mem _ hy)) h'
      refine ⟨cl, ?_, h1, fun x hx => h2 x ?_, fun y hy hyf => ?_⟩
      · rw [List.forIn_cons]
        dsimp only
        rw [if_pos (by rfl)]
        have ec : cellOf env n = pure c := by
          unfold cellOf
          rw [hc]
        rw [ec]
        simp only [pure_bind]
        exact e
      · by_cases hxn : (x == n) = true
        · simp [List.lookup_cons, hxn]
        · have hx' : (x == n) = false := by simpa using hxn
          simp only [List.lookup_cons, hx']; exact hx
      · rcases List.mem_cons.mp hy with rfl | hy
        · exact h2 n (by simp)
        · exact h3 y hy hyf
    · obtain ⟨cl, e, h1, h2, h3⟩ := closure_of r cs (fun y hy => hf y (List.mem_cons_of_mem _ hy)) h
      refine ⟨cl, ?_, h1, h2, fun y hy hyf => ?_⟩
      · rw [List.forIn_cons]
        dsimp only
        rw [if_neg (by simpa using hk)]
        simp only [pure_bind]
        exact e
      · rcases List.mem_cons.mp hy with rfl | hy
        · exact absurd hyf hk
        · exact h3 y hy hyf
/-- the block's own state -/
def cst (own : List Str) (caps : List Nat) (σ : St) : St := own.map (fun _ => none) ++ caps.map fun j => (σ[j]?).join
section
variable {X : Cx} {pins : List (Addr × Obj)} {σ : St} {H : Hp} {s : Shared} {scope : Scope} {own : List Str} {caps : List Nat} {cns : List Str} {cl : List (Str × Addr)}
theorem cap_get {N : List Str} : ∀ {caps : List Nat} {cns : List Str}, cns = caps.filterMap (fun j => N[j]?) → cns.length = caps.length → ∀ (i : Nat) (j : Nat), caps[i]? = some j → ∃ x, N[j]? = some x ∧ cns[i]? = some x
  | [], _, _, _, i, j, h => by simp at h
  | j0 :: r, cns, e, hl, i, j, h => by
    rw [List.filterMap_cons] at e
    cases hN : N[j0]? with
    | none =>
      simp only [hN] at e
      have h1 := List.length_filterMap_le (fun j => N[j]?) r
      rw [e] at hl
      simp only [List.length_cons] at hl
      omega
    | some x =>
      simp only [hN] at e
      subst e
      cases i with
      | zero =>
        simp only [List.getElem?_cons_zero, Option.some.injEq] at h
        subst h
        exact ⟨x, hN, rfl⟩
      | succ i =>
        simp only [List.getElem?_cons_succ] at h ⊢
        exact cap_get rfl (by simpa using hl) i j h
theorem inv_comp {C : Addr} {fp : List Addr} {h1 h4 : Heap} {tk : Nat} (S : CScope X scope own caps cns) (I : Inv X pins σ H { s with heap := h1 }) (hfp : ∀ b ∈ fp, FpOk X pins H b ∧ b < h1.objs.size)
    (hcl : ∀ x c, cl.lookup x = some c → X.env.cells.lookup x = some c) (hall : ∀ y ∈ scope.names, y.2 = .free → (cl.lookup y.1).isSome = true)
    (hC : C = h1.objs.size) (hn : h4.Ns C fun _ => none) (hk : ∀ b o, h1.get? b = some o → h4.get? b = some o) :
    Inv (cxC X scope (own ++ cns) ⟨cl, C, { s with heap := h1 }, H, fp, X.pn ++ pins⟩) [] (cst own caps σ) H { s with heap := h4, toks := tk } := by
  have hok := I.ok
  have nC : ∀ b o, h1.get? b = some o → b ≠ C := fun b o e => by rw [hC]; exact Nat.ne_of_lt (Heap.lt_size e)
  refine ⟨⟨hok.mod, ?_, hok.glob, hok.blt, by rw [hC]; exact Nat.le_refl _, fun x y c e1 e2 => hok.inj x y c (hcl x c e1) (hcl y c e2), fun x hx => ?_, fun x c z => (nomatch z), hok.hd, hok.frames, .inl rfl, fun b hb => ⟨?_, fun x c e => ?_⟩, fun b o e => I.bs b o e, Nat.le_trans hok.bsz I.sz, fun b o e hb => ?_, fun b hb hf => ?_, I.stack, I.stkFree⟩,
    rfl, I.bare, Un.kept hk, ⟨_, hn, fun i x v e1 e2 e3 => ?_⟩, fun x c e => ?_, ?_, fun x c e => I.freeC x c (hcl x c e), fun p hp => ?_, I.hok.kept hk, ?_⟩
  · show (relabel scope X.env).kind = _
    exact S.kind
  · -- every captured name has its cell
    have hx' : (relabel scope X.env).names.lookup x = some .cell ∨ (relabel scope X.env).names.lookup x = some .free := hx
    have fr : scope.names.lookup x = some .free := by
      rcases hx' with z | z
      · rcases relabel_lookup z with q | ⟨q, _⟩
        · exact absurd rfl (S.cell _ (PySem.mem_of_lookup q))
        · exact q
      · rcases relabel_lookup z with q | ⟨_, q⟩
        · exact q
        · cases q
    have := hall _ (PySem.mem_of_lookup fr) rfl
    exact Option.isSome_iff_exists.mp this
  · exact by rw [show (cxC X scope (own ++ cns) ⟨cl, C, { s with heap := h1 }, H, fp, X.pn ++ pins⟩).env.locals = C from rfl, hC]; exact Nat.ne_of_lt (hfp b hb).2
  · exact (hfp b hb).1.2.2.2.2.1 x c (hcl x c e)
  · have q := (hfp b hb).1.2.2.2.1
    rcases q with q | q
    · exact hok.noex b o e q
    · exact absurd (Nat.lt_of_lt_of_le (Heap.lt_size e) (Nat.le_trans hok.bsz q)) (Nat.lt_irrefl _)
  · rcases List.mem_cons.mp (I.stkSub b hf) with q | q
    · exact (hfp b hb).1.2.1 q
    · exact (hfp b hb).1.2.2.1 q
  · -- the names
    unfold cst at e2
    have e1' : (own ++ cns)[i]? = some x := e1
    by_cases hi : i < own.length
    · rw [List.getElem?_append_left (by simpa using hi), List.getElem?_map] at e2
      cases h : own[i]? with
      | none => rw [h] at e2; cases e2
      | some z => rw [h] at e2; cases e2
    · rw [List.getElem?_append_right (by simpa using hi), List.length_map, List.getElem?_map] at e2
      rw [List.getElem?_append_right (by simpa using hi)] at e1'
      cases hj : caps[i - own.length]? with
      | none => rw [hj] at e2; cases e2
      | some j =>
        rw [hj] at e2
        simp only [Option.map_some, Option.some.injEq] at e2
        obtain ⟨x', n1, n2⟩ := cap_get S.cap S.len _ _ hj
        have ex : x' = x := Option.some.inj (n2.symm.trans e1')
        subst ex
        have hσ : σ[j]? = some (some v) := by
          cases q : σ[j]? with
          | none => rw [q] at e2; cases e2
          | some z => rw [q] at e2; cases z with
            | none => cases e2
            | some z => simpa using e2
        have fr := S.vis x' (List.mem_of_getElem? n2)
        have kc := S.free _ (PySem.mem_of_lookup fr) rfl
        obtain ⟨m, hm, hl⟩ := I.loc
        obtain ⟨u, r, l⟩ := hl j x' v n1 hσ (.inr (.inl kc))
        refine ⟨u, r, ?_⟩
        rcases l with ⟨q, _⟩ | ⟨_, c, q1, q2⟩
        · rw [kc] at q; cases q
        · obtain ⟨c', hc'⟩ := Option.isSome_iff_exists.mp (hall _ (PySem.mem_of_lookup fr) rfl)
          have ec : c' = c := Option.some.inj ((hcl _ _ hc').symm.trans q1)
          subst ec
          refine .inr ⟨?_, c', hc', ?_⟩
          · have : Vis (relabel scope X.env) x' := e3
            rcases this with z | z | z
            · rcases relabel_lookup z with q | ⟨_, q⟩
              · rw [fr] at q; cases q
              · cases q
            · exact .inl z
            · exact .inr z
          · obtain ⟨o, ho, hd⟩ := q2
            exact ⟨o, hk _ o ho, hd⟩
  · obtain ⟨v, o, ho, hd⟩ := I.cell x c (hcl x c e)
    exact ⟨v, o, hk _ o ho, hd⟩
  · show H C = none
    rw [hC]
    exact I.hok.fresh (Nat.le_refl _)
  · have hp' : p ∈ X.pn ++ pins := by simpa [cxC] using hp
    obtain ⟨e, n, ne, nf, d⟩ := I.pin p hp'
    refine ⟨hk _ _ e, n, nC _ _ e, fun z => ?_, d⟩
    rcases List.mem_cons.mp (I.stkSub _ z) with q | q
    · exact ne q
    · exact nf q
  · unfold cst
    show _ = (own ++ cns).length
    rw [List.length_append, List.length_map, List.length_map, List.length_append, S.len]
/-- back from the block -/
theorem inv_back {C : Addr} {fp : List Addr} {h1 h' : Heap} {s' : Shared} {H' : Hp} {τ : St} {N' : List Str} (I : Inv X pins σ H { s with heap := h1 }) (hfp : ∀ b ∈ fp, FpOk X pins H b ∧ b < h1.objs.size)
    (J : Inv (cxC X scope N' ⟨cl, C, { s with heap := h1 }, H, fp, X.pn ++ pins⟩) [] τ H' s') (hC : C = h1.objs.size) (hs : Heap.SameBut C s'.heap h') : Inv X pins σ H' { s' with heap := h' } := by
  have hc : H' C = none := J.free
  have keep : ∀ b o, b ≠ C → s'.heap.get? b = some o → h'.get? b = some o := fun b o hb e => (hs.2 b hb).trans e
  have hok : HOk X.prog X.w H' h' := fun b u e => by
    refine (J.hok b u e).stay (fun c v hcc q => keep c v ?_ q) (fun _ q => q) fun _ _ q => q
    rcases hcc with rfl | hcc
    · intro z; rw [z, hc] at e; cases e
    · intro z; rw [z, hc] at hcc; cases hcc
  have lt1 : ∀ b o, h1.get? b = some o → b ≠ C := fun b o e => by rw [hC]; exact Nat.ne_of_lt (Heap.lt_size e)
  have un : Un (frs X.stack) fp H H' h1 h' := by
    have u : Un (frs X.stack) fp H H' h1 s'.heap := J.base
    exact ⟨fun b o e n hf hx => keep b o (lt1 b o e) (u.keep b o e n hf hx), fun b o e n hf hx => let ⟨sl, q⟩ := u.slot b o e n hf hx; ⟨sl, keep b _ (lt1 b o e) q⟩, u.free,
      fun b o e hx => let ⟨o', q⟩ := u.there b o e hx; ⟨o', keep b _ (lt1 b o e) q⟩, u.tups, u.frzs, u.tbls⟩
  refine I.call' (s' := { s' with heap := h' }) (ch := fp) ((show s'.os = _ from J.os).trans ?_) un hok J.bare fun b hb => ?_
  · rfl
  · obtain ⟨⟨_, f1, f2, f3, f4, f5⟩, _⟩ := hfp b hb
    exact ⟨f3, f1, f4, f5⟩
end
/-- the reading of a comprehension: W by the turn, a measure, the list so far; D the new list's place -/
def tComp (wi : TI) (g : CA → TG) (tc : CA → TT) (te : CA → TE) (own : List Str) (caps : List Nat) : TE := fun σ H Q => wi σ H fun J H1 => ∀ D, H1 D = none → ∀ k : CA, ∃ W : Nat → Nat → List V → St → Hp → Prop,
  (∃ m, W 0 m [] (cst own caps σ) (upd H1 D (.lst []))) ∧ ∀ i m ys τ H, W i m ys τ H → H D = some (.lst ys) ∧ ys.length < sizeLine ∧
    ((J.stop i H ∧ Q (.ref D) H) ∨ (J.go i H ∧ ∃ N : List V → St → Hp → Prop, (∀ ys τ H, N ys τ H → ∃ m', m' < m ∧ W (i + 1) m' ys τ H) ∧
      ∀ x H', J.yld i H x H' → g k x τ H' fun τ2 H2 => tc k τ2 H2 fun b H3 => if b = true then te k τ2 H3 fun y H4 => H4 D = some (.lst ys) ∧ N (ys ++ [y]) τ2 (upd H4 D (.lst (ys ++ [y]))) else N ys τ2 H3))
/-- the tests of a comprehension: none, or one -/
def PCs (X : Cx) (ifs : List Expr) (tc : TT) : Prop := ∀ (pins : List (Addr × Obj)) (s : Shared) (σ : St) (H : Hp) (Q : Bool → Hp → Prop), Inv X pins σ H s → tc σ H Q →
  wpAny (model X.prog X.w) X.A (forIn ifs true fun c r => if r = true then do let ok ← isTrue c X.env (eval c X.env); pure (ForInStep.yield ok) else pure (ForInStep.yield r)) (TP X pins σ Q) X.xe s
theorem pcs_nil {X : Cx} : PCs X [] (fun _ H Q => Q true H) := fun pins s σ H Q I h => by
  rw [List.forIn_nil]
  exact wpAny_pure ⟨H, I, h⟩
theorem pcs_one {X : Cx} {c : Expr} {tc : TT} (hc : PT X c tc) : PCs X [c] tc := fun pins s σ H Q I h => by
  rw [List.forIn_cons]
  simp only [if_true]
  refine wpAny_bind (wpAny_bind (thn (hc pins s σ H Q I h) fun b s' q => wpAny_pure ?_))
  dsimp only
  rw [List.forIn_nil]
  exact wpAny_pure q
section
variable {X : Cx} {scope : Scope} {own : List Str} {caps : List Nat} {cns : List Str} {elt tg iter : Expr} {ifs : List Expr} {pos : Pos} {wi : TI} {g : CA → TG} {tc : CA → TT} {te : CA → TE}
theorem pe_comp_use (use : Option (Value → Sem Unit)) (S : CScope X scope own caps cns) (hcalm : X.calm = true) (hi : PI X tg iter wi)
    (hg : ∀ k : CA, PG (cxC X scope (own ++ cns) k) tg (g k)) (hc : ∀ k : CA, PCs (cxC X scope (own ++ cns) k) ifs (tc k)) (he : ∀ k : CA, PE (cxC X scope (own ++ cns) k) elt (te k))
    (hs : ∀ x, foldedSetIterable iter X.env x = pure x) {P : Value → Shared → Prop} {pins : List (Addr × Obj)} {s : Shared} {σ : St} {H : Hp} {Q : VK} (I : Inv X pins σ H s) (h : tComp wi g tc te own caps σ H Q)
    (hend : ∀ (D : Addr) (C : Addr) (H' : Hp) (s' : Shared), Q (.ref D) H' → Inv X pins σ H' s' → (∃ m, s'.heap.Ns C m) → FpOk X pins H' C → compPost (model X.prog X.w) X.A X.xe use P (.ref D) C (.ok .next) s') :
    wpAny (model X.prog X.w) X.A (comprehension (.ListComp elt [⟨tg, iter, ifs, 0⟩] scope pos) scope X.env (firstIterPos [⟨tg, iter, ifs, 0⟩] pos) (newList []) false (eval iter X.env) use) P X.xe s := by
  obtain ⟨cl, ecl, hcl, _, hall⟩ := closure_of (env := X.env) scope.names [] (fun y hy hf => I.ok.has y.1 (.inl (S.free y hy hf))) (fun x c z => by simp at z)
  refine wpAny_comprehension_free (cl := cl) rfl hs (by unfold closureFor; simpa using ecl) S.kind S.names ?_
  refine thn (hi pins s σ H _ I h) fun v s1 q1 => thn q1 fun itv s2 q2 => ?_
  obtain ⟨it, fp, tn, J, H1, rfl, I2, T, st0, hfp, q⟩ := q2
  have hD : H1 s2.heap.objs.size = none := I2.hok.fresh (Nat.le_refl _)
  refine wpAny_newObj_type ?_
  have I3 : Inv X pins σ (upd H1 s2.heap.objs.size (.lst [])) { s2 with heap := s2.heap.push { cls := .type "list", data := .seq ([] : List Value).toArray } } :=
    I2.laid (t' := s2.toks) (fun _ _ q => Heap.get?_push_of_some _ q) (Nat.le_refl _) ⟨Nat.zero_le _, [], 0, .nil, Heap.get?_push_size _ rfl⟩
  have hfp3 : ∀ b ∈ fp, FpOk X pins (upd H1 s2.heap.objs.size (.lst [])) b ∧ b < (s2.heap.push { cls := .type "list", data := .seq ([] : List Value).toArray }).objs.size := fun b hb => by
    obtain ⟨o, ho, _⟩ := T.obj 0 _ st0 b hb
    have hlt := Heap.lt_size ho
    obtain ⟨f0, f⟩ := hfp b hb
    refine ⟨⟨by rw [upd_ne (Nat.ne_of_lt hlt)]; exact f0, f⟩, ?_⟩
    rw [Heap.size_push]
    exact Nat.lt_succ_of_lt hlt
  refine wpAny_newFunctionEnv S.cell (by intro y hy; simp at hy) (fun h4 hns hsb => ?_) S.kind
  dsimp only at hns hsb ⊢
  generalize hH : s2.heap.push { cls := .type "list", data := .seq ([] : List Value).toArray } = h1 at *
  obtain ⟨W, ⟨m0, w0⟩, step⟩ := q s2.heap.objs.size hD ⟨cl, h1.objs.size, { s2 with heap := h1 }, upd H1 s2.heap.objs.size (.lst []), fp, X.pn ++ pins⟩
  have keep4 : ∀ b o, h1.get? b = some o → h4.get? b = some o := fun b o e => (hsb.2 b (Nat.ne_of_lt (Heap.lt_size e))).trans (Heap.get?_push_of_some _ e)
  have J0 := inv_comp (tk := s2.toks + ([] : List (Str × Value)).length) S I3 hfp3 hcl hall rfl (by simpa using hns) keep4
  have fpx : ∀ (H' : Hp), (∀ b ∈ fp, H' b = none) → ∀ b ∈ fp, FpOk (cxC X scope (own ++ cns) ⟨cl, h1.objs.size, { s2 with heap := h1 }, (upd H1 s2.heap.objs.size (.lst [])), fp, X.pn ++ pins⟩) [] H' b := fun H' hn b hb => by
    obtain ⟨⟨_, f1, f2, f3, f4, f5⟩, hlt⟩ := hfp3 b hb
    refine ⟨hn b hb, Nat.ne_of_lt hlt, fun z => ?_, .inl hb, fun x c e => f4 x c (hcl x c e), fun p hp => f5 p (by simpa [cxC] using hp)⟩
    rcases List.mem_cons.mp (I3.stkSub b z) with q | q
    · exact f1 q
    · exact f2 q
  have st1 : tn 0 h4 := T.keep 0 _ _ st0 fun b hb o e => keep4 b o (by rw [← hH]; exact Heap.get?_push_of_some _ e)
  have loop : codeAny (model X.prog X.w) X.A (.compLoop (.ListComp elt [⟨tg, iter, ifs, 0⟩] scope pos) 0 (.ref it) (.ref s2.heap.objs.size) (compEnvC scope cl h1.objs.size X.env))
      (compPost (model X.prog X.w) X.A X.xe use P (.ref s2.heap.objs.size) h1.objs.size) { s2 with heap := h4, toks := s2.toks + ([] : List (Str × Value)).length } := by
    refine compLoop_gen (fun n s' => ∃ i ys τ H', W i n ys τ H' ∧ Inv (cxC X scope (own ++ cns) ⟨cl, h1.objs.size, { s2 with heap := h1 }, (upd H1 s2.heap.objs.size (.lst [])), fp, X.pn ++ pins⟩) [] τ H' s' ∧ tn i s'.heap ∧ ∀ b ∈ fp, H' b = none) ?_ m0
      ⟨0, [], _, _, w0, J0, st1, fun b hb => (hfp3 b hb).1.1⟩
    rintro n s' ⟨i, ys, τ, H', w1, J1, st, hn⟩
    obtain ⟨hDl, hlen, alt⟩ := step i n ys τ H' w1
    rcases alt with ⟨hstop, hq⟩ | ⟨hgo, N, hN, hbody⟩
    · refine thn (T.done (cxC X scope (own ++ cns) ⟨cl, h1.objs.size, { s2 with heap := h1 }, (upd H1 s2.heap.objs.size (.lst [])), fp, X.pn ++ pins⟩) rfl rfl rfl hcalm i [] s' τ H' _ J1 (fpx H' hn) st hstop) fun r s'' ⟨er, J2⟩ => ?_
      subst er
      obtain ⟨m, hm, _⟩ := J2.loc
      exact hend _ _ H' s'' hq (inv_back (h' := s''.heap) I3 hfp3 J2 rfl (Heap.SameBut.refl ..)) ⟨m, hm⟩ (I3.fpOk (Nat.le_refl _) J2.free)
    · refine thn (T.item (cxC X scope (own ++ cns) ⟨cl, h1.objs.size, { s2 with heap := h1 }, (upd H1 s2.heap.objs.size (.lst [])), fp, X.pn ++ pins⟩) rfl rfl rfl hcalm i [] s' τ H' _ J1 (fpx H' hn) st hgo) fun r s'' ⟨u, er, hw⟩ => ?_
      subst er
      refine thn hw fun _ s3 ⟨x, H2, J2, rx, hy, st2, hn2⟩ => ?_
      -- the iterator's records are kept through the turn
      have pinned := J2.pinned (fpx H2 hn2) (T.obj (i + 1) _ st2)
      have back : ∀ {τ' : St} {H'' : Hp} {s4 : Shared}, Inv (cxC X scope (own ++ cns) ⟨cl, h1.objs.size, { s2 with heap := h1 }, (upd H1 s2.heap.objs.size (.lst [])), fp, X.pn ++ pins⟩) ([] ++ pinsAt fp s3.heap) τ' H'' s4 →
          tn (i + 1) s4.heap ∧ ∀ b ∈ fp, H'' b = none := fun {τ' H'' s4} K => by
        refine ⟨T.keep (i + 1) _ _ st2 fun b hb o e => (K.pin (b, o) (List.mem_append_right _ (by simpa using mem_pinsAt hb e))).1, fun b hb => ?_⟩
        obtain ⟨o, e, _⟩ := T.obj (i + 1) _ st2 b hb
        exact (K.pin (b, o) (List.mem_append_right _ (by simpa using mem_pinsAt hb e))).2.1
      refine thn (hg _ ([] ++ pinsAt fp s3.heap) s3 τ H2 x u _ pinned rx (hbody x H2 hy)) fun _ s4 ⟨τ2, H3, J3, q3⟩ => ?_
      refine thn (hc _ ([] ++ pinsAt fp s3.heap) s4 τ2 H3 _ J3 q3) fun b s5 ⟨H4, J4, q4⟩ => ?_
      cases b with
      | false =>
        simp only [Bool.false_eq_true, if_false] at q4 ⊢
        obtain ⟨m', hm', w2⟩ := hN _ _ _ q4
        obtain ⟨b1, b2⟩ := back J4
        exact ⟨m', hm', i + 1, ys, τ2, H4, w2, J4.unpinned, b1, b2⟩
      | true =>
        simp only [if_true] at q4 ⊢
        refine thn (he _ ([] ++ pinsAt fp s3.heap) s5 τ2 H4 _ J4 q4) fun yv s6 ⟨y, H5, J5, ry, hD5, q5⟩ => ?_
        obtain ⟨m', hm', w2⟩ := hN _ _ _ q5
        obtain ⟨hz, its, c, rv, hlen2, eo⟩ := J5.lstM hD5
        refine PySem.wpAny_call_entry slot_list_append ⟨_, eo, rfl⟩ entry_list_append ?_ (args_list_append _ _)
        show wpAny _ _ (updateSeq s2.heap.objs.size (·.push yv) >>= fun _ => ret .none) _ _ s6
        refine wpAny_bind (wpAny_updateSeq eo rfl (wpAny_pure ⟨.none, rfl, ?_⟩) (by simp; omega) (by simp; omega))
        have J6 := J5.lset (ys := ys ++ [y]) (its' := its ++ [yv]) (f := (·.push yv)) (t' := s6.toks) hD5 eo (by simp) (rv.append (.cons ry .nil)) (by simp; omega)
        obtain ⟨b1, b2⟩ := back J6
        exact ⟨m', hm', i + 1, _, τ2, _, w2, J6.unpinned, b1, b2⟩
  exact codeAny_compStart_list loop (T.self X.A 0 _ _ _ st1 loop)
theorem pe_comp (S : CScope X scope own caps cns) (hcalm : X.calm = true) (hi : PI X tg iter wi)
    (hg : ∀ k : CA, PG (cxC X scope (own ++ cns) k) tg (g k)) (hc : ∀ k : CA, PCs (cxC X scope (own ++ cns) k) ifs (tc k)) (he : ∀ k : CA, PE (cxC X scope (own ++ cns) k) elt (te k))
    (hs : ∀ x, foldedSetIterable iter X.env x = pure x := by intro _; rfl) : PE X (.ListComp elt [⟨tg, iter, ifs, 0⟩] scope pos) (tComp wi g tc te own caps) := by
  intro pins s σ H Q I h
  rw [eval_ListComp]
  refine pe_comp_use none S hcalm hi hg hc he hs I h fun D C H' s' q hI ⟨m, hm⟩ ⟨f0, f1, f2, f3, f4, f5⟩ => ?_
  exact ⟨m, hm, fun h' hs' => ⟨.ref D, H', hI.turned (t' := s'.toks) (fun b o hb e => (hs'.2 b hb).trans e) f0 f1 f3 f4 f5, rfl, q⟩⟩
/-- y = [..] on one row -/
theorem ps_setComp {i : Nat} {y : Str} {py spos : Pos} (S : CScope X scope own caps cns) (hcalm : X.calm = true) (hN : X.N.Nodup) (hNi : X.N[i]? = some y) (hy : X.env.scope.names.lookup y = some .local) (hi : PI X tg iter wi)
    (hg : ∀ k : CA, PG (cxC X scope (own ++ cns) k) tg (g k)) (hc : ∀ k : CA, PCs (cxC X scope (own ++ cns) k) ifs (tc k)) (he : ∀ k : CA, PE (cxC X scope (own ++ cns) k) elt (te k))
    (hsw : swapsWith (.ListComp elt [⟨tg, iter, ifs, 0⟩] scope pos) (some (.Name y py)) spos.line X.env = pure true) (hs : ∀ x, foldedSetIterable iter X.env x = pure x := by intro _; rfl) :
    PS X (.Assign [.Name y py] (.ListComp elt [⟨tg, iter, ifs, 0⟩] scope pos) spos) (fun D σ H => tComp wi g tc te own caps σ H fun x H1 => D.nx (σ.set i (some x)) H1) := by
  intro pins s σ H D I h
  rw [exec_Assign_Name_used _ _ _ _ hsw]
  refine wpAny_bind (wpAny_standAt (wpAny_bind ?_))
  show wpAny _ _ (do let _ ← comprehension (.ListComp elt [⟨tg, iter, ifs, 0⟩] scope pos) scope X.env _ (newList []) false (eval iter X.env) (some (assign (.Name y py) X.env))) _ _ s
  refine wpAny_bind (wpAny_mono (pe_comp_use (P := fun _ s' => SP X pins D .next s') (some (assign (.Name y py) X.env)) S hcalm hi hg hc he hs I h fun Da C H' s' q hI ⟨m, hm⟩ ⟨f0, f1, f2, f3, f4, f5⟩ => ?_) (fun _ s' hq => wpAny_pure (wpAny_pure hq)) fun _ _ e => e)
  show wpAny _ _ (assign (.Name y py) X.env (.ref Da)) _ _ _
  refine wpAny_assign_Name (store_ok2 hI hN hNi (.inl hy) (v := .ref Da) rfl (fun s2 I2 ⟨b, sb, hb⟩ => ?_) (.inr hy))
  have hCb : C ≠ b := by
    rintro rfl
    rcases hb with z | z
    · exact f1 z
    · exact f4 y _ z rfl
  refine ⟨m, hm.sameBut sb hCb, fun h' hs' => ⟨_, H', I2.turned (t' := s2.toks) (fun b o hb e => (hs'.2 b hb).trans e) f0 f1 f3 f4 f5, q⟩⟩
end
theorem comp_list {K : PySem.W.Frag} {a : Addr} {xs : List V} {g : CA → TG} {tc : CA → TT} {te : CA → TE} {own : List Str} {caps : List Nat} {σ : St} {H1 : Hp} {Q : VK} (hz : xs.length < sizeLine) (Pv : Addr → Nat → List V → St → Hp → Prop)
    (h0 : ∀ D, H1 D = none → Pv D 0 [] (cst own caps σ) (upd H1 D (.lst [])))
    (hl : ∀ D i ys τ H, i ≤ xs.length → Pv D i ys τ H → SqL K H a xs ∧ H D = some (.lst ys) ∧ ys.length ≤ i)
    (hs : ∀ k D i x ys τ H, xs[i]? = some x → Pv D i ys τ H → g k x τ H fun τ2 H2 => tc k τ2 H2 fun b H3 => if b = true then te k τ2 H3 fun y H4 => H4 D = some (.lst ys) ∧ Pv D (i + 1) (ys ++ [y]) τ2 (upd H4 D (.lst (ys ++ [y]))) else Pv D (i + 1) ys τ2 H3)
    (hd : ∀ D ys τ H, H1 D = none → Pv D xs.length ys τ H → Q (.ref D) H) :
    ∀ D, H1 D = none → ∀ k : CA, ∃ W : Nat → Nat → List V → St → Hp → Prop, (∃ m, W 0 m [] (cst own caps σ) (upd H1 D (.lst []))) ∧ ∀ i m ys τ H, W i m ys τ H → H D = some (.lst ys) ∧ ys.length < sizeLine ∧
      (((Itl K a).stop i H ∧ Q (.ref D) H) ∨ ((Itl K a).go i H ∧ ∃ N : List V → St → Hp → Prop, (∀ ys τ H, N ys τ H → ∃ m', m' < m ∧ W (i + 1) m' ys τ H) ∧
        ∀ x H', (Itl K a).yld i H x H' → g k x τ H' fun τ2 H2 => tc k τ2 H2 fun b H3 => if b = true then te k τ2 H3 fun y H4 => H4 D = some (.lst ys) ∧ N (ys ++ [y]) τ2 (upd H4 D (.lst (ys ++ [y]))) else N ys τ2 H3)) := by
  intro D hD k
  refine ⟨fun i m ys τ H => m = xs.length - i ∧ i ≤ xs.length ∧ Pv D i ys τ H, ⟨xs.length, by simp, Nat.zero_le _, h0 D hD⟩, ?_⟩
  rintro i m ys τ H ⟨rfl, hi, p⟩
  obtain ⟨q, e, z⟩ := hl D i ys τ H hi p
  refine ⟨e, by omega, ?_⟩
  by_cases hlt : i < xs.length
  · refine .inr ⟨⟨xs, xs[i], q, by simp [hlt]⟩, Pv D (i + 1), fun ys' τ' H' p' => ⟨xs.length - (i + 1), by omega, rfl, hlt, p'⟩, fun x H' y => ?_⟩
    obtain ⟨rfl, y⟩ := y
    exact hs k D i x ys τ _ (y xs q) p
  · have e : i = xs.length := by omega
    subst e
    exact .inl ⟨⟨xs, q, Nat.le_refl _⟩, hd D ys τ H hD p⟩
end L2

set_option Elab.async false
set_option linter.all false
set_option maxRecDepth 100000
set_option maxHeartbeats 1000000
namespace Hex
abbrev C := Int × Int
def nb (c : C) : List C := [(c.1 + 1, c.2 - 1), (c.1 + 1, c.2), (c.1, c.2 + 1), (c.1 - 1, c.2 + 1), (c.1 - 1, c.2), (c.1, c.2 - 1)]
namespace Reach
variable {S T : C → Prop} {a b c : C}
end Reach
section
variable {T pre post fr : List C} {found : List (List C)} {c : C}
end
end Hex

set_option Elab.async false
set_option linter.all false
set_option maxRecDepth 100000
set_option maxHeartbeats 4000000
namespace L2
open PySem PySem.Spec PyProof.Rows Hex
def cl (c : C) : List Int := [c.1, c.2]
theorem cl_inj {c d : C} (h : cl c = cl d) : c = d := by
  obtain ⟨a, b⟩ := c
  obtain ⟨x, y⟩ := d
  simp only [cl, List.cons.injEq, and_true] at h
  rw [h.1, h.2]
theorem cl_map_inj : ∀ {a b : List C}, a.map cl = b.map cl → a = b
  | [], [], _ => rfl
  | [], _ :: _, h => by cases h
  | _ :: _, [], h => by cases h
  | x :: a, y :: b, h => by
    rw [List.map_cons, List.map_cons] at h
    injection h with h1 h2
    rw [cl_inj h1, cl_map_inj h2]
theorem cl_mem {c : C} {l : List C} : cl c ∈ l.map cl ↔ c ∈ l := by
  constructor
  · intro h
    obtain ⟨d, hd, e⟩ := List.mem_map.mp h
    rw [← cl_inj e]; exact hd
  · intro h
    exact List.mem_map.mpr ⟨c, h, rfl⟩
theorem cl_ne (l : List C) : ∀ ns ∈ l.map cl, ns ≠ [] := by
  intro ns h
  obtain ⟨c, _, rfl⟩ := List.mem_map.mp h
  simp [cl]
theorem cl_len2 (l : List C) : ∀ ns ∈ l.map cl, ns.length = 2 := by
  intro ns h
  obtain ⟨c, _, rfl⟩ := List.mem_map.mp h
  rfl
theorem paired_append {α β : Type} {R : α → β → Prop} {c : List α} {d : List β} (k : Paired R c d) : ∀ {a : List α} {b : List β}, Paired R a b → Paired R (a ++ c) (b ++ d)
  | _, _, .nil => k
  | _, _, .cons h t => .cons h (paired_append k t)
/-- a cell; a list's cells -/
abbrev Ce (H : Hp) (v : V) (c : C) : Prop := Tp H v (cl c)
abbrev Cs (H : Hp) (vs : List V) (cs : List C) : Prop := Tps H vs (cs.map cl)
theorem Cs.of {H : Hp} : ∀ {vs : List V} {cs : List C}, Cs H vs cs → ∀ {i : Nat} {v : V}, vs[i]? = some v → ∃ c, cs[i]? = some c ∧ Ce H v c
  | [], [], _, i, c, h => by simp at h
  | [], _ :: _, h, _, _, _ => by cases h
  | _ :: _, [], h, _, _, _ => by cases h
  | v :: vs, d :: cs, h, i, u, hi => by
    cases h with
    | cons r t =>
      cases i with
      | zero =>
        simp only [List.getElem?_cons_zero, Option.some.injEq] at hi
        subst hi
        exact ⟨d, rfl, r⟩
      | succ j =>
        simp only [List.getElem?_cons_succ] at hi ⊢
        exact Cs.of t hi
theorem Cs.len {H : Hp} {vs : List V} {cs : List C} (h : Cs H vs cs) : vs.length = cs.length := by
  have := Paired.length h
  simpa using this
theorem Cs.snoc {H : Hp} {vs : List V} {cs : List C} {v : V} {c : C} (h : Cs H vs cs) (k : Ce H v c) : Cs H (vs ++ [v]) (cs ++ [c]) := by
  show Tps H (vs ++ [v]) ((cs ++ [c]).map cl)
  rw [List.map_append]
  exact paired_append (R := Tp H) (c := [v]) (d := [cl c]) (.cons k .nil) h
theorem perm_map {α β : Type} {f : α → β} {l : List β} {cs : List α} (p : l.Perm (cs.map f)) : ∃ ts : List α, l = ts.map f ∧ ts.Perm cs := by
  have base : ∀ cs : List α, Paired (fun (v : β) (n : α) => v = f n) (cs.map f) cs := by
    intro cs
    induction cs with
    | nil => exact .nil
    | cons c cs ih => exact .cons rfl ih
  obtain ⟨ns, pn, r⟩ := paired_perm p (base cs)
  refine ⟨ns, ?_, pn⟩
  clear pn p
  induction r with
  | nil => rfl
  | cons h _ ih => rw [List.map_cons, ← h, ← ih]
def TupS (H H' : Hp) : Prop := ∀ b xs, H b = some (.tup xs) → H' b = some (.tup xs)
theorem TupS.trans {H H1 H2 : Hp} (a : TupS H H1) (b : TupS H1 H2) : TupS H H2 := fun c xs h => b c xs (a c xs h)
theorem TupS.of {H H' : Hp} (s : Same H H') : TupS H H' := fun b xs h => s b _ h
def isTup : HO → Bool
  | .tup _ => true
  | _ => false
theorem TupS.upd {H : Hp} {p : Addr} {o o' : HO} (h : H p = some o) (k : isTup o = false) : TupS H (upd H p o') := fun b xs z => by
  rw [upd_ne]
  · exact z
  · rintro rfl
    rw [h] at z
    cases z
    cases k
theorem Tps.mt {H H' : Hp} {vs : List V} {nss : List (List Int)} (t : TupS H H') (r : Tps H vs nss) : Tps H' vs nss := Paired.mapP r fun _ _ ⟨p, e, h⟩ => ⟨p, e, t _ _ h⟩
theorem Tp.mt {H H' : Hp} {v : V} {ns : List Int} (t : TupS H H') (r : Tp H v ns) : Tp H' v ns := let ⟨p, e, h⟩ := r; ⟨p, e, t _ _ h⟩
/-- all but at d -/
def But (d : Addr) (H H' : Hp) : Prop := ∀ b o, b ≠ d → H b = some o → H' b = some o
theorem But.of {d : Addr} {H H' : Hp} (s : Same H H') : But d H H' := fun b o _ h => s b o h
theorem But.trans {d : Addr} {H H1 H2 : Hp} (a : But d H H1) (b : But d H1 H2) : But d H H2 := fun c o hc h => b c o hc (a c o hc h)
theorem But.upd {d : Addr} {H : Hp} (o : HO) : But d H (upd H d o) := fun b o' hb h => by rw [upd_ne hb]; exact h
/-- a place that was free at H: an update there keeps -/
theorem But.at {d p : Addr} {H H1 : Hp} (a : But d H H1) (hp : H p = none) (o : HO) : But d H (L2.upd H1 p o) := fun b o' hb h => by rw [upd_ne (ne_of_none h hp)]; exact a b o' hb h
theorem Same.at {p : Addr} {H H1 : Hp} (a : Same H H1) (hp : H p = none) (o : HO) : Same H (upd H1 p o) := fun b o' h => by rw [upd_ne (ne_of_none h hp)]; exact a b o' h
end L2

set_option Elab.async false
set_option linter.all false
set_option maxRecDepth 100000
set_option maxHeartbeats 4000000
namespace L2
open PySem PySem.Spec PyProof.Rows
theorem tCB_i {r : List V → Hp → VK → Prop} {t : TA} {σ : St} {H : Hp} {Q : VK} (h : t σ H fun vs H1 => r vs H1 Q) : tCB r t σ H Q := h
theorem tCons_i {te : TE} {t : TA} {σ : St} {H : Hp} {Q : List V → Hp → Prop} (h : te σ H fun v H1 => t σ H1 fun vs H2 => Q (v :: vs) H2) : tCons te t σ H Q := h
theorem tCall_i {sp : Sp} {dvs : List V} {E : XK} {t : TA} {σ : St} {H : Hp} {Q : VK} (h : t σ H fun vs H1 => sp (vs ++ dvs) H1 Q E) : tCall sp dvs E t σ H Q := h
theorem tNext_i {D : Ends} {σ : St} {H : Hp} (h : D.nx σ H) : tNext D σ H := h
theorem tSeq_i {t u : TS} {D : Ends} {σ : St} {H : Hp} (h : t { D with nx := u D } σ H) : tSeq t u D σ H := h
def tJ (t : TS) : TS := fun D σ H => ∃ J : St → Hp → Prop, t { D with nx := J } σ H ∧ ∀ σ' H', J σ' H' → D.nx σ' H'
theorem ps_join {X : Cx} {st : Stmt} {t : TS} (h : PS X st t) : PS X st (tJ t) := by
  intro pins s σ H D I q
  obtain ⟨J, q1, q2⟩ := q
  refine thn (h pins s σ H _ I q1) fun f s' z => ?_
  cases f with
  | next => obtain ⟨σ', H', I', j⟩ := z; exact ⟨σ', H', I', q2 σ' H' j⟩
  | brk => exact z
  | cont => exact z
  | ret u => exact z
section
variable {prog : Program} {w : World} {A : Around} {E : Value → Shared → Prop} {s : Shared}
end
section
variable {X : Cx} {e : Expr} {te : TE} {p1 p2 pos1 pos2 : Pos}
end
end L2

set_option Elab.async false
set_option linter.all false
set_option maxRecDepth 100000
set_option maxHeartbeats 4000000
namespace L2
open PySem PySem.Spec PyProof.Rows
theorem ints_items : ∀ {ns : List Int} {us : List Value}, Vals (ns.map V.int) us → ∃ xs : List (Int × Tok), us = xs.map (fun p => Value.int p.1 p.2) ∧ xs.map (·.1) = ns
  | [], _, h => by cases h; exact ⟨[], rfl, rfl⟩
  | n :: ns, _, h => by
    cases h with
    | cons r t =>
      obtain ⟨t', rfl⟩ := (show ∃ t, _ = Value.int n t from r)
      obtain ⟨xs, h1, h2⟩ := ints_items t
      exact ⟨(n, t') :: xs, by rw [h1]; rfl, by rw [List.map_cons, h2]⟩
section
variable {X : Cx}
theorem call_minL (hc : X.calm = true) : CallR X (.builtin "min") (fun xs H Q => ∃ p ns, xs = [.ref p] ∧ SqL X.K H p (ns.map V.int) ∧ ns ≠ [] ∧ ∀ m, m ∈ ns → (∀ a ∈ ns, m ≤ a) → Q (.int m) H) := by
  intro pins s σ H xs us Q I r h
  obtain ⟨p, ns, rfl, hq, hn, q⟩ := h
  obtain ⟨u, rfl, rx⟩ := vals1 r
  cases rx
  obtain ⟨its, r', pl, hz⟩ := I.list hq
  obtain ⟨ys, rfl, e2⟩ := ints_items r'
  have hl : s.heap.IsList p (intItems ys.toArray) := by
    have := pl.isList
    simpa [intItems] using this
  have hlen : 0 < ys.toArray.size := by
    have : ys.length = ns.length := by rw [← e2, List.length_map]
    have := List.length_pos_iff.mpr hn
    simp; omega
  refine min_intList (I.ok.hd hc) hl hlen fun v h' tk hv hk => ?_
  obtain ⟨t, rfl⟩ := intItems_at hv
  obtain ⟨h1, h2⟩ := argBest_lt (numAt ys.toArray) (ys.toArray.size - 1)
  have e3 : ys.toArray.toList.map (·.1) = ns := by simpa using e2
  refine ⟨.int _, H, I.kept (t' := tk) hk, ⟨t, rfl⟩, q _ ?_ fun a ha => ?_⟩
  · rw [numAt_eq, e3]; exact getD_mem (by rw [← e3, List.length_map, Array.length_toList]; omega)
  · rw [← e3] at ha
    obtain ⟨j, hj, rfl⟩ := mem_getD ha
    rw [List.length_map, Array.length_toList] at hj
    rw [← numAt_eq]; exact h2 j (by omega)
end
section
variable {X : Cx} {tg : Expr}
end
end L2

set_option Elab.async false
set_option linter.all false
set_option maxRecDepth 100000
set_option maxHeartbeats 4000000
namespace L2
open PySem PySem.Spec PyProof.Rows
/-- the turns of a comprehension over what J hands out -/
def CompGo (J : It) (g : CA → TG) (tc : CA → TT) (te : CA → TE) (own : List Str) (caps : List Nat) (σ : St) (H1 : Hp) (Q : VK) : Prop := ∀ D, H1 D = none → ∀ k : CA, ∃ W : Nat → Nat → List V → St → Hp → Prop,
  (∃ m, W 0 m [] (cst own caps σ) (upd H1 D (.lst []))) ∧ ∀ i m ys τ H, W i m ys τ H → H D = some (.lst ys) ∧ ys.length < sizeLine ∧
    ((J.stop i H ∧ Q (.ref D) H) ∨ (J.go i H ∧ ∃ N : List V → St → Hp → Prop, (∀ ys τ H, N ys τ H → ∃ m', m' < m ∧ W (i + 1) m' ys τ H) ∧
      ∀ x H', J.yld i H x H' → g k x τ H' fun τ2 H2 => tc k τ2 H2 fun b H3 => if b = true then te k τ2 H3 fun y H4 => H4 D = some (.lst ys) ∧ N (ys ++ [y]) τ2 (upd H4 D (.lst (ys ++ [y]))) else N ys τ2 H3))
theorem tComp_i {wi : TI} {g : CA → TG} {tc : CA → TT} {te : CA → TE} {own : List Str} {caps : List Nat} {σ : St} {H : Hp} {Q : VK} (h : wi σ H fun J H1 => CompGo J g tc te own caps σ H1 Q) : tComp wi g tc te own caps σ H Q := h
theorem gName_i {i : Nat} {v : V} {σ : St} {H : Hp} {Q : St → Hp → Prop} (h : Q (σ.set i (some v)) H) : gName i v σ H Q := h
theorem tAsg_i {te : TE} {g : TG} {D : Ends} {σ : St} {H : Hp} (h : te σ H fun x H1 => g x σ H1 D.nx) : tAsg te g D σ H := h
theorem go_list {K : PySem.W.Frag} {a : Addr} {xs : List V} {g : CA → TG} {tc : CA → TT} {te : CA → TE} {own : List Str} {caps : List Nat} {σ : St} {H1 : Hp} {Q : VK} (hz : xs.length < sizeLine) (Pv : Addr → Nat → List V → St → Hp → Prop)
    (h0 : ∀ D, H1 D = none → Pv D 0 [] (cst own caps σ) (upd H1 D (.lst [])))
    (hl : ∀ D i ys τ H, i ≤ xs.length → Pv D i ys τ H → SqL K H a xs ∧ H D = some (.lst ys) ∧ ys.length ≤ i)
    (hs : ∀ k D i x ys τ H, xs[i]? = some x → Pv D i ys τ H → g k x τ H fun τ2 H2 => tc k τ2 H2 fun b H3 => if b = true then te k τ2 H3 fun y H4 => H4 D = some (.lst ys) ∧ Pv D (i + 1) (ys ++ [y]) τ2 (upd H4 D (.lst (ys ++ [y]))) else Pv D (i + 1) ys τ2 H3)
    (hd : ∀ D ys τ H, H1 D = none → Pv D xs.length ys τ H → Q (.ref D) H) : CompGo (Itl K a) g tc te own caps σ H1 Q := comp_list hz Pv h0 hl hs hd
theorem go_range {lo : Int} {n : Nat} {g : CA → TG} {tc : CA → TT} {te : CA → TE} {own : List Str} {caps : List Nat} {σ : St} {H1 : Hp} {Q : VK} (hz : n < sizeLine) (Pv : Addr → Nat → List V → St → Hp → Prop)
    (h0 : ∀ D, H1 D = none → Pv D 0 [] (cst own caps σ) (upd H1 D (.lst [])))
    (hl : ∀ D i ys τ H, i ≤ n → Pv D i ys τ H → H D = some (.lst ys) ∧ ys.length ≤ i)
    (hs : ∀ k D i ys τ H, i < n → Pv D i ys τ H → g k (.int (lo + (i : Int))) τ H fun τ2 H2 => tc k τ2 H2 fun b H3 => if b = true then te k τ2 H3 fun y H4 => H4 D = some (.lst ys) ∧ Pv D (i + 1) (ys ++ [y]) τ2 (upd H4 D (.lst (ys ++ [y]))) else Pv D (i + 1) ys τ2 H3)
    (hd : ∀ D ys τ H, H1 D = none → Pv D n ys τ H → Q (.ref D) H) : CompGo (Itr lo n) g tc te own caps σ H1 Q := by
  intro D hD k
  refine ⟨fun i m ys τ H => m = n - i ∧ i ≤ n ∧ Pv D i ys τ H, ⟨n, by simp, Nat.zero_le _, h0 D hD⟩, ?_⟩
  rintro i m ys τ H ⟨rfl, hi, p⟩
  obtain ⟨e, z⟩ := hl D i ys τ H hi p
  refine ⟨e, by omega, ?_⟩
  by_cases hlt : i < n
  · refine .inr ⟨hlt, Pv D (i + 1), fun ys' τ' H' p' => ⟨n - (i + 1), by omega, rfl, hlt, p'⟩, fun x H' y => ?_⟩
    obtain ⟨rfl, rfl⟩ := y
    exact hs k D i ys τ _ hlt p
  · have e : i = n := by omega
    subst e
    exact .inl ⟨Nat.le_refl _, hd D ys τ H hD p⟩
end L2

set_option Elab.async false
set_option linter.all false
set_option maxRecDepth 100000
set_option maxHeartbeats 4000000
namespace Hex
/-- the neighbour of this number -/
def nk (c : C) (k : Nat) : C := (nb c).getD k c
def risesL (f : Nat → Bool) : Nat := ((List.range 6).filter fun k => f k && !f ((k + 5) % 6)).length
end Hex

set_option Elab.async false
set_option linter.all false
set_option maxRecDepth 100000
set_option maxHeartbeats 4000000
namespace L2
open PySem PySem.Spec PyProof.Rows Hex
theorem paired_of {α β : Type} {R : α → β → Prop} : ∀ {as : List α} {bs : List β}, Paired R as bs → ∀ {i : Nat} {a : α}, as[i]? = some a → ∃ b, bs[i]? = some b ∧ R a b
  | _, _, .nil, i, a, h => by simp at h
  | _, _, .cons r t, 0, a, h => by
    simp only [List.getElem?_cons_zero, Option.some.injEq] at h
    subst h
    exact ⟨_, rfl, r⟩
  | _, _, .cons r t, i + 1, a, h => by
    simp only [List.getElem?_cons_succ] at h
    obtain ⟨b, hb, q⟩ := paired_of t h
    exact ⟨b, by simpa using hb, q⟩
theorem takeS {α : Type} {l : List α} {i : Nat} {c : α} (h : l[i]? = some c) : l.take (i + 1) = l.take i ++ [c] := by rw [List.take_add_one, h]; rfl
/-- what a value is, whatever lists do -/
def Stays {β : Type} (R : Hp → V → β → Prop) : Prop := ∀ H H' v b, TupS H H' → R H v b → R H' v b
def isI (_ : Hp) (v : V) (n : Int) : Prop := v = .int n
def isB (_ : Hp) (v : V) (n : Bool) : Prop := v = .bl n
theorem stays_I : Stays isI := fun _ _ _ _ _ h => h
theorem stays_B : Stays isB := fun _ _ _ _ _ h => h
theorem stays_Ce : Stays Ce := fun _ _ _ _ t h => h.mt t
theorem isI_map : ∀ {ys : List V} {ns : List Int} {H : Hp}, Paired (isI H) ys ns → ys = ns.map V.int
  | _, _, _, .nil => rfl
  | _, _, _, .cons r t => by rw [List.map_cons, ← isI_map t, show _ = V.int _ from r]
theorem isB_map : ∀ {ys : List V} {ns : List Bool} {H : Hp}, Paired (isB H) ys ns → ys = ns.map V.bl
  | _, _, _, .nil => rfl
  | _, _, _, .cons r t => by rw [List.map_cons, ← isB_map t, show _ = V.bl _ from r]
theorem paired_map {α β γ : Type} {R : α → γ → Prop} {f : β → γ} : ∀ {as : List α} {bs : List β}, Paired R as (bs.map f) → Paired (fun a b => R a (f b)) as bs
  | _, [], h => by
    generalize e : ([] : List β).map f = l at h
    cases h with
    | nil => exact .nil
    | cons _ _ => cases e
  | _, b :: bs, h => by
    generalize e : (b :: bs).map f = l at h
    cases h with
    | nil => cases e
    | cons r t =>
      rw [List.map_cons] at e
      injection e with e1 e2
      subst e1
      subst e2
      exact .cons r (paired_map t)
theorem map_paired {α β γ : Type} {R : α → γ → Prop} {f : β → γ} : ∀ {as : List α} {bs : List β}, Paired (fun a b => R a (f b)) as bs → Paired R as (bs.map f)
  | _, _, .nil => .nil
  | _, _, .cons r t => .cons r (map_paired t)
theorem Cs.pair {H : Hp} {us : List V} {cs : List C} (h : Cs H us cs) : Paired (Ce H) us cs := paired_map (f := cl) (R := Tp H) h
theorem Cs.ofPair {H : Hp} {us : List V} {cs : List C} (h : Paired (Ce H) us cs) : Cs H us cs := map_paired (f := cl) (R := Tp H) h
theorem go_map {α β : Type} {K : PySem.W.Frag} {a : Addr} {us : List V} {xs : List α} {te : CA → TE} {y : Str} {caps : List Nat} {σ : St} {H1 : Hp} {Q : VK} (S : Hp → V → α → Prop) (R : Hp → V → β → Prop) (φ : α → β) (mS : Stays S) (mR : Stays R)
    (hq : SqL K H1 a us) (hp : Paired (S H1) us xs) (hz : us.length < sizeLine)
    (hs : ∀ (k : CA) (i : Nat) (v : V) (c : α) (H : Hp), us[i]? = some v → xs[i]? = some c → Same H1 H → S H v c → ∀ N : VK, (∀ u H', Same H H' → R H' u (φ c) → N u H') → te k (some v :: caps.map fun j => (σ[j]?).join) H N)
    (hd : ∀ D ys H, H1 D = none → Same H1 H → H D = some (.lst ys) → Paired (R H) ys (xs.map φ) → Q (.ref D) H) : CompGo (Itl K a) (fun _ => gName 0) (fun _ _ H Q => Q true H) te [y] caps σ H1 Q := by
  have hl := Paired.length hp
  refine go_list (K := K) (xs := us) hz (fun D i ys τ H => H1 D = none ∧ Same H1 H ∧ H D = some (.lst ys) ∧ Paired (R H) ys ((xs.take i).map φ) ∧ ∃ v, τ = v :: caps.map fun j => (σ[j]?).join) ?_ ?_ ?_ ?_
  · exact fun D hD => ⟨hD, Same.new hD _, upd_same, .nil, none, rfl⟩
  · rintro D i ys τ H hi ⟨hD, s, d, p, v, rfl⟩
    refine ⟨s.seq hq, d, ?_⟩
    rw [Paired.length p, List.length_map, List.length_take]
    omega
  · rintro k D i x ys τ H hi ⟨hD, s, d, p, v, rfl⟩
    obtain ⟨c, hc, sc⟩ := paired_of hp hi
    refine gName_i ?_
    show if true = true then _ else _
    rw [if_pos rfl]
    refine hs k i x c H hi hc s (mS _ _ _ _ (TupS.of s) sc) _ fun u H' s' r => ?_
    have d' := s' _ _ d
    refine ⟨d', hD, (s.trans s').at hD _, upd_same, ?_, _, rfl⟩
    rw [takeS hc, List.map_append]
    have t : TupS H' (upd H' D (.lst (ys ++ [u]))) := TupS.upd d' rfl
    exact paired_append (.cons (mR _ _ _ _ t r) .nil) (Paired.mapP p fun _ _ z => mR _ _ _ _ ((TupS.of s').trans t) z)
  · rintro D ys τ H hD ⟨_, s, d, p, v, rfl⟩
    rw [hl, List.take_length] at p
    exact hd D ys H hD s d p
/-- the same, over a name of the def -/
theorem map_name {α β : Type} {K : PySem.W.Frag} {j : Nat} {a : Addr} {us : List V} {xs : List α} {te : CA → TE} {y : Str} {caps : List Nat} {σ : St} {H1 : Hp} {Q : VK} (hσ : σ[j]? = some (some (.ref a))) (S : Hp → V → α → Prop) (R : Hp → V → β → Prop) (φ : α → β) (mS : Stays S) (mR : Stays R)
    (hq : SqL K H1 a us) (hp : Paired (S H1) us xs) (hz : us.length < sizeLine)
    (hs : ∀ (k : CA) (i : Nat) (v : V) (c : α) (H : Hp), us[i]? = some v → xs[i]? = some c → Same H1 H → S H v c → ∀ N : VK, (∀ u H', Same H H' → R H' u (φ c) → N u H') → te k (some v :: caps.map fun j => (σ[j]?).join) H N)
    (hd : ∀ D ys H, H1 D = none → Same H1 H → H D = some (.lst ys) → Paired (R H) ys (xs.map φ) → Q (.ref D) H) : tComp (iList K (tVar j)) (fun _ => gName 0) (fun _ _ H Q => Q true H) te [y] caps σ H1 Q :=
  ⟨_, hσ, a, rfl, ⟨us, hq⟩, go_map S R φ mS mR hq hp hz hs hd⟩
theorem go_enum {K : PySem.W.Frag} {a : Addr} {xs : List V} {g : CA → TG} {tc : CA → TT} {te : CA → TE} {own : List Str} {caps : List Nat} {σ : St} {H1 : Hp} {Q : VK} (hz : xs.length < sizeLine) (Pv : Addr → Nat → List V → St → Hp → Prop)
    (h0 : ∀ D, H1 D = none → Pv D 0 [] (cst own caps σ) (upd H1 D (.lst [])))
    (hl : ∀ D i ys τ H, i ≤ xs.length → Pv D i ys τ H → SqL K H a xs ∧ H D = some (.lst ys) ∧ ys.length ≤ i)
    (hs : ∀ k D i x p ys τ H, xs[i]? = some x → Pv D i ys τ H → H p = none → g k (.ref p) τ (upd H p (.tup [.int (i : Int), x])) fun τ2 H2 => tc k τ2 H2 fun b H3 => if b = true then te k τ2 H3 fun y H4 => H4 D = some (.lst ys) ∧ Pv D (i + 1) (ys ++ [y]) τ2 (upd H4 D (.lst (ys ++ [y]))) else Pv D (i + 1) ys τ2 H3)
    (hd : ∀ D ys τ H, H1 D = none → Pv D xs.length ys τ H → Q (.ref D) H) : CompGo (Ite K a) g tc te own caps σ H1 Q := by
  intro D hD k
  refine ⟨fun i m ys τ H => m = xs.length - i ∧ i ≤ xs.length ∧ Pv D i ys τ H, ⟨xs.length, by simp, Nat.zero_le _, h0 D hD⟩, ?_⟩
  rintro i m ys τ H ⟨rfl, hi, p⟩
  obtain ⟨q, e, z⟩ := hl D i ys τ H hi p
  refine ⟨e, by omega, ?_⟩
  by_cases hlt : i < xs.length
  · refine .inr ⟨⟨xs, xs[i], q, by simp [hlt]⟩, Pv D (i + 1), fun ys' τ' H' p' => ⟨xs.length - (i + 1), by omega, rfl, hlt, p'⟩, fun x H' y => ?_⟩
    obtain ⟨r, z, hr, rfl, rfl, y⟩ := y
    exact hs k D i z r ys τ _ (y xs q) p hr
  · have e : i = xs.length := by omega
    subst e
    exact .inl ⟨⟨xs, q, Nat.le_refl _⟩, hd D ys τ H hD p⟩
def ForGo (J : It) (g : TG) (tb : TS) (D : Ends) (σ : St) (H : Hp) : Prop := ∃ W : Nat → Nat → St → Hp → Prop, (∃ m, W 0 m σ H) ∧ ∀ i m σ H, W i m σ H →
  (J.stop i H ∧ D.nx σ H) ∨ (J.go i H ∧ ∃ N : St → Hp → Prop, (∀ σ' H', N σ' H' → ∃ m', m' < m ∧ W (i + 1) m' σ' H') ∧ ∀ x H', J.yld i H x H' → g x σ H' fun σ2 H2 => tb { D with nx := N, ct := N, bk := D.nx } σ2 H2)
theorem tFor_i {wi : TI} {g : TG} {tb : TS} {D : Ends} {σ : St} {H : Hp} (h : wi σ H fun J H1 => ForGo J g tb D σ H1) : tFor wi g tb D σ H := h
theorem gf_range {lo : Int} {n : Nat} {g : TG} {tb : TS} {D : Ends} {σ : St} {H : Hp} (Pv : Nat → St → Hp → Prop) (h0 : Pv 0 σ H)
    (hs : ∀ i σ H, i < n → Pv i σ H → g (.int (lo + i)) σ H fun σ2 H2 => tb { D with nx := Pv (i + 1), ct := Pv (i + 1), bk := D.nx } σ2 H2) (hd : ∀ σ H, Pv n σ H → D.nx σ H) : ForGo (Itr lo n) g tb D σ H := for_range Pv h0 hs hd
end L2

namespace My
open PySem L2 Hex

def top (i : Nat) : Stmt := PySem.Challenge.pw_sootring_k05_turned.main.body.getD i (.Pass ⟨0, 0, 0, 0⟩)
abbrev s_turned_once : Stmt := top 1
abbrev s_turned_cell : Stmt := top 2
abbrev s_at_corner : Stmt := top 3
abbrev s_turned : Stmt := top 4
abbrev s_law_cell : Stmt := top 6
abbrev s_law_purse : Stmt := top 7
abbrev s_law_take : Stmt := top 8
abbrev s_law_beside : Stmt := top 9
abbrev s_law_stretches : Stmt := top 10
abbrev s_law_coal : Stmt := top 11
abbrev s_law_moved : Stmt := top 12
abbrev s_law_far : Stmt := top 13
abbrev s_law_whole : Stmt := top 14
abbrev s_law_same_cells : Stmt := top 15
abbrev s_law_turned : Stmt := top 16
abbrev s_law : Stmt := top 17
theorem sc_turned_once : FnScope ["cell"] ["cell"] (defScope s_turned_once) := ⟨rfl, rfl, rfl, by decide +kernel, rfl, by decide +kernel, by decide +kernel⟩
theorem sc_turned_cell : FnScope ["cell", "way", "found", "k"] ["cell", "way"] (defScope s_turned_cell) := ⟨rfl, rfl, rfl, by decide +kernel, rfl, by decide +kernel, by decide +kernel⟩
theorem sc_at_corner : FnScope ["cells", "least_first", "least_second"] ["cells"] (defScope s_at_corner) := ⟨rfl, rfl, rfl, by decide +kernel, rfl, by decide +kernel, by decide +kernel⟩
theorem sc_turned : FnScope ["cells", "way"] ["cells", "way"] (defScope s_turned) := ⟨rfl, rfl, rfl, by decide +kernel, rfl, by decide +kernel, by decide +kernel⟩
theorem sc_law_cell : FnScope ["_law_script", "_law_k"] ["_law_script", "_law_k"] (defScope s_law_cell) := ⟨rfl, rfl, rfl, by decide +kernel, rfl, by decide +kernel, by decide +kernel⟩
theorem sc_law_purse : FnScope ["_law_cell_here", "_law_way", "_law_large"] ["_law_cell_here", "_law_way"] (defScope s_law_purse) := ⟨rfl, rfl, rfl, by decide +kernel, rfl, by decide +kernel, by decide +kernel⟩
theorem sc_law_take : FnScope ["_law_purse_here", "_law_many", "_law_digit"] ["_law_purse_here", "_law_many"] (defScope s_law_take) := ⟨rfl, rfl, rfl, by decide +kernel, rfl, by decide +kernel, by decide +kernel⟩
theorem sc_law_beside : FnScope ["_law_cell_here", "_law_a", "_law_b", "_law_near"] ["_law_cell_here"] (defScope s_law_beside) := ⟨rfl, rfl, rfl, by decide +kernel, rfl, by decide +kernel, by decide +kernel⟩
theorem sc_law_stretches : FnScope ["_law_cell_here", "_law_cells", "_law_near"] ["_law_cell_here", "_law_cells"] (defScope s_law_stretches) := ⟨rfl, rfl, rfl, by decide +kernel, rfl, by decide +kernel, by decide +kernel⟩
theorem sc_law_coal : FnScope ["_law_purse_here", "_law_most", "_law_cells", "_law_size", "_law_step", "_law_base", "_law_fresh"] ["_law_purse_here", "_law_most"] (defScope s_law_coal) := ⟨rfl, rfl, rfl, by decide +kernel, rfl, by decide +kernel, by decide +kernel⟩
theorem sc_law_moved : FnScope ["_law_cells", "_law_right", "_law_low"] ["_law_cells", "_law_right", "_law_low"] (defScope s_law_moved) := ⟨rfl, rfl, rfl, by decide +kernel, rfl, by decide +kernel, by decide +kernel⟩
theorem sc_law_far : FnScope ["_law_cell_here"] ["_law_cell_here"] (defScope s_law_far) := ⟨rfl, rfl, rfl, by decide +kernel, rfl, by decide +kernel, by decide +kernel⟩
theorem sc_law_whole : FnScope ["_law_found"] ["_law_found"] (defScope s_law_whole) := ⟨rfl, rfl, rfl, by decide +kernel, rfl, by decide +kernel, by decide +kernel⟩
theorem sc_law_same_cells : FnScope ["_law_found", "_law_due", "_law_k"] ["_law_found", "_law_due"] (defScope s_law_same_cells) := ⟨rfl, rfl, rfl, by decide +kernel, rfl, by decide +kernel, by decide +kernel⟩
theorem sc_law_turned : FnScope ["_law_cells", "_law_way", "_law_some", "_law_step", "_law_left", "_law_low"] ["_law_cells", "_law_way"] (defScope s_law_turned) := ⟨rfl, rfl, rfl, by decide +kernel, rfl, by decide +kernel, by decide +kernel⟩
theorem sc_law : FnScope ["_law_script", "_law_head", "_law_cells", "_law_handed", "_law_way", "_law_due", "_law_found"] ["_law_script"] (defScope s_law) := ⟨rfl, rfl, rfl, by decide +kernel, rfl, by decide +kernel, by decide +kernel⟩
theorem sml {n : Nat} (h : n ≤ 100000) : n < sizeLine := Nat.lt_of_le_of_lt h (by decide)
theorem take_snoc {α : Type} {l : List α} {i : Nat} {c : α} (h : l[i]? = some c) : l.take (i + 1) = l.take i ++ [c] := by rw [List.take_add_one, h]; rfl
theorem not_take {α : Type} {l : List α} {i : Nat} {c : α} (hn : l.Nodup) (h : l[i]? = some c) : c ∉ l.take i := by
  intro z
  obtain ⟨hi, e⟩ := List.getElem?_eq_some_iff.mp h
  have h1 := List.take_append_drop i l
  rw [← h1] at hn
  refine (List.nodup_append.mp hn).2.2 c z c ?_ rfl
  rw [List.drop_eq_getElem_cons hi, e]
  exact List.mem_cons_self
def WholeB (K : PySem.W.Frag) (H : Hp) (y : V) (r : Bool) : Prop := ∃ t b c, TyOf K H y t ∧ PySem.W.kitOne K t (.type "int") = some b ∧ PySem.W.kitOne K t (.type "bool") = some c ∧ r = (b && !c)
section
variable (K : PySem.W.Frag)
theorem kit_int_int : PySem.W.kitOne K (.type "int") (.type "int") = some true := kit_same K _
theorem kit_tuple_tuple : PySem.W.kitOne K (.type "tuple") (.type "tuple") = some true := kit_same K _
theorem kit_list_list : PySem.W.kitOne K (.type "list") (.type "list") = some true := kit_same K _
theorem kit_int_bool : PySem.W.kitOne K (.type "int") (.type "bool") = some false := by rfl
end
theorem wh_int {K : PySem.W.Frag} {H : Hp} (i : Int) : WholeB K H (.int i) true := ⟨_, _, _, .int i, kit_int_int K, kit_int_bool K, rfl⟩
theorem mul120 : IntMulOk (10 ^ Int.toNat 60) (10 ^ Int.toNat 60) := by
  unfold IntMulOk
  decide

def sp_law_whole (K : PySem.W.Frag) : Sp := fun vs H Q _ => ∃ x r, vs = [x] ∧ WholeB K H x r ∧ Q (.bl r) H
def sp_law_cell (K : PySem.W.Frag) : Sp := fun vs H Q _ => ∃ (a : Addr) (ns : List Int) (k : Int), vs = [.ref a, .int k] ∧ SqL K H a (ns.map V.int) ∧ 0 ≤ k ∧ ∀ z : Int, Q (.int z) H
def sp_law_far (K : PySem.W.Frag) : Sp := fun vs H Q _ => ∃ c, vs = [.int c] ∧ ∀ z : Int, Q (.int z) H
def sp_law_purse (K : PySem.W.Frag) : Sp := fun vs H Q _ => ∃ c y : Int, vs = [.int c, .int y] ∧ 0 ≤ y ∧ y < 1000 ∧ ∀ p a t, H p = none → Q (.ref p) (upd H p (.lst [.int a, .int t]))
def sp_law_take (K : PySem.W.Frag) : Sp := fun vs H Q _ => ∃ p a t m, vs = [.ref p, .int m] ∧ H p = some (.lst [.int a, .int t]) ∧ 0 < m ∧ m < 1000000 ∧ ∀ a' z : Int, 0 ≤ z → z < m → Q (.int z) (upd H p (.lst [.int a', .int t]))
def sp_law_beside (K : PySem.W.Frag) : Sp := fun vs H Q _ => ∃ v c, vs = [v] ∧ Ce H v c ∧ ∀ r ws H', Same H H' → H r = none → H' r = some (.lst ws) → Cs H' ws (nb c) → Q (.ref r) H'
def sp_law_same_cells (K : PySem.W.Frag) : Sp := fun vs H Q _ => ∃ r d ws us nss, vs = [.ref r, .ref d] ∧ H r = some (.lst ws) ∧ Tps H ws nss ∧ H d = some (.lst us) ∧ Tps H us nss ∧ (∀ ns ∈ nss, ns.length = 2) ∧ nss.length ≤ 100000 ∧ Q (.bl true) H
def rot (c : C) : C := (-c.2, c.1 + c.2)
def rotN : Nat → C → C
  | 0, c => c
  | n + 1, c => rot (rotN n c)
def tw0 (w : Int) (c : C) : C := if 6 ≤ w then (c.2, c.1) else c
def tw (w : Int) (c : C) : C := rotN (w % 6).toNat (tw0 w c)
def ly (a b : Int) (c : C) : C := (c.1 - a, c.2 - b)
def mv (x y : Int) (c : C) : C := (c.1 + x, c.2 + y)
def IsMn (l : List Int) (m : Int) : Prop := m ∈ l ∧ ∀ x ∈ l, m ≤ x
def Lay (cs T : List C) : Prop := ∃ a b, IsMn (cs.map Prod.fst) a ∧ IsMn (cs.map Prod.snd) b ∧ LSrt (T.map cl) ∧ T.Perm (cs.map (ly a b))
theorem IsMn.uniq {l : List Int} {m n : Int} (h : IsMn l m) (k : IsMn l n) : m = n := by
  have := h.2 n k.1
  have := k.2 m h.1
  omega
theorem Lay.uniq {cs T U : List C} (h : Lay cs T) (k : Lay cs U) : T = U := by
  obtain ⟨a, b, ha, hb, hs, hp⟩ := h
  obtain ⟨a', b', ha', hb', ks, kp⟩ := k
  cases ha.uniq ha'
  cases hb.uniq hb'
  exact cl_map_inj (LSrt.ext hs ks ((hp.trans kp.symm).map cl))
theorem ly_min {l : List Int} {m : Int} (h : IsMn l m) : IsMn (l.map fun x => x - m) 0 := by
  refine ⟨List.mem_map.mpr ⟨m, h.1, by omega⟩, fun x hx => ?_⟩
  obtain ⟨y, hy, rfl⟩ := List.mem_map.mp hx
  have := h.2 y hy
  omega
theorem IsMn.perm {l k : List Int} {m : Int} (h : IsMn l m) (p : k.Perm l) : IsMn k m := ⟨p.mem_iff.mpr h.1, fun x hx => h.2 x (p.mem_iff.mp hx)⟩
theorem Lay.again {cs T U : List C} (h : Lay cs T) (k : Lay T U) : U = T := by
  obtain ⟨a, b, ha, hb, hs, hp⟩ := h
  obtain ⟨a', b', ha', hb', ks, kp⟩ := k
  have e1 : IsMn (T.map Prod.fst) 0 := by
    refine (ly_min ha).perm ((hp.map Prod.fst).trans ?_)
    rw [List.map_map, List.map_map]
    exact .refl _
  have e2 : IsMn (T.map Prod.snd) 0 := by
    refine (ly_min hb).perm ((hp.map Prod.snd).trans ?_)
    rw [List.map_map, List.map_map]
    exact .refl _
  cases ha'.uniq e1
  cases hb'.uniq e2
  have e3 : T.map (ly 0 0) = T := by
    have : ly 0 0 = id := by funext c; unfold ly; simp
    rw [this, List.map_id]
  rw [e3] at kp
  exact cl_map_inj (LSrt.ext ks hs (kp.map cl))
theorem tw_zero (T : List C) : T.map (tw 0) = T := by
  have : tw 0 = id := by funext c; simp [tw, tw0, rotN]
  rw [this, List.map_id]
theorem Lay.ne {cs T : List C} (h : Lay cs T) : T ≠ [] := by
  obtain ⟨a, b, ha, hb, hs, hp⟩ := h
  intro e
  subst e
  have h1 := ha.1
  have := hp.length_eq
  cases cs with
  | nil => simp at h1
  | cons _ _ => simp at this
theorem Lay.len {cs T : List C} (h : Lay cs T) : T.length = cs.length := by
  obtain ⟨a, b, ha, hb, hs, hp⟩ := h
  rw [hp.length_eq, List.length_map]
inductive Built : List C → Prop
  | one : Built [(0, 0)]
  | snoc {cs : List C} {b c : C} : Built cs → b ∈ cs → c ∈ nb b → c ∉ cs → risesL (fun k => decide (nk c k ∈ cs)) = 1 → Built (cs ++ [c])
theorem Built.ne {cs : List C} (h : Built cs) : cs ≠ [] := by
  cases h <;> simp
def sp_turned_once (K : PySem.W.Frag) : Sp := fun vs H Q _ => ∃ v c, vs = [v] ∧ Ce H v c ∧ ∀ y H', Same H H' → Ce H' y (rot c) → Q y H'
def sp_turned_cell (K : PySem.W.Frag) : Sp := fun vs H Q _ => ∃ v c w, vs = [v, .int w] ∧ Ce H v c ∧ 0 ≤ w ∧ w < 12 ∧ ∀ y H', Same H H' → Ce H' y (tw w c) → Q y H'
def sp_at_corner (K : PySem.W.Frag) : Sp := fun vs H Q _ => ∃ l us cs, vs = [.ref l] ∧ H l = some (.lst us) ∧ Cs H us cs ∧ cs ≠ [] ∧ cs.length ≤ 1000 ∧ ∀ r ws T H', Same H H' → H r = none → H' r = some (.lst ws) → Cs H' ws T → Lay cs T → Q (.ref r) H'
def sp_turned (K : PySem.W.Frag) : Sp := fun vs H Q _ => ∃ l us cs w, vs = [.ref l, .int w] ∧ H l = some (.lst us) ∧ Cs H us cs ∧ cs ≠ [] ∧ cs.length ≤ 1000 ∧ 0 ≤ w ∧ w < 12 ∧ ∀ r ws T H', Same H H' → H r = none → H' r = some (.lst ws) → Cs H' ws T → Lay (cs.map (tw w)) T → Q (.ref r) H'
def sp_law_turned (K : PySem.W.Frag) : Sp := sp_turned K
def sp_law_stretches (K : PySem.W.Frag) : Sp := fun vs H Q _ => ∃ v c l us cs, vs = [v, .ref l] ∧ Ce H v c ∧ H l = some (.lst us) ∧ Cs H us cs ∧ ∀ H', Same H H' → Q (.int (risesL (fun k => decide (nk c k ∈ cs)) : Nat)) H'
def sp_law_coal (K : PySem.W.Frag) : Sp := fun vs H Q _ => ∃ p a t m, vs = [.ref p, .int m] ∧ H p = some (.lst [.int a, .int t]) ∧ 0 < m ∧ m ≤ 30 ∧
  ∀ q ws cs a' H', But p H H' → H' p = some (.lst [.int a', .int t]) → H q = none → H' q = some (.lst ws) → Cs H' ws cs → Built cs → (cs.length : Int) ≤ m → Q (.ref q) H'
def sp_law_moved (K : PySem.W.Frag) : Sp := fun vs H Q _ => ∃ l us cs x y, vs = [.ref l, .int x, .int y] ∧ H l = some (.lst us) ∧ Cs H us cs ∧ cs.length ≤ 1000 ∧ ∀ r ws H', Same H H' → H r = none → H' r = some (.lst ws) → Cs H' ws (cs.map (mv x y)) → Q (.ref r) H'
def spLaw (K : PySem.W.Frag) : Sp := fun vs H Q _ => ∃ (a : Addr) (ns : List Int), vs = [.ref a] ∧ SqL K H a (ns.map V.int) ∧ ns.length ≤ 63 ∧ ∀ H', Q (.bl true) H'
structure Blt (mg : Str → Option Value) : Prop where
  bool_ : mg "bool" = none
  enumerate_ : mg "enumerate" = none
  int_ : mg "int" = none
  isinstance_ : mg "isinstance" = none
  len_ : mg "len" = none
  list_ : mg "list" = none
  min_ : mg "min" = none
  range_ : mg "range" = none
  sorted_ : mg "sorted" = none
  tuple_ : mg "tuple" = none
section
variable {P : Program} {w : World} {K : PySem.W.Frag} {mg : Str → Option Value} {base : Heap}
theorem ok_law_whole {f : Addr} {fd : FuncData} (F : Fun K "_law_whole" "_law_whole" s_law_whole f fd) (bl : Blt mg)  : FnOk P w K mg base CX0 1 f fd ["_law_found"] (sp_law_whole K) := by
  refine F.ok sc_law_whole (fun vs H Q E h => ?_) (fun cdv A outer s H vs Q E hr h => ?_)
  · obtain ⟨x, r, rfl, _⟩ := h; rfl
  · obtain ⟨x, r, rfl, ⟨t, b, c, ty, h1, h2, rfl⟩, q⟩ := h
    refine ⟨_, (pss_one (ps_ret (pe_and (pe_callB call_isinst rfl bl.isinstance_ bt_isinstance (pa_cons (pv 0) (pa_cons (pe_bltn (v := .ty "int") rfl bl.int_ bt_int rfl) pa_nil))) (pe_one (pe_not (pe_callB call_isinst rfl bl.isinstance_ bt_isinstance (pa_cons (pv 0) (pa_cons (pe_bltn (v := .ty "bool") rfl bl.bool_ bt_bool rfl) pa_nil)))))))), ?_⟩
    refine ⟨_, rfl, x, t, "int", b, rfl, ty, h1, b, rfl, ?_⟩
    cases b with
    | false => exact iteF q
    | true => exact iteT ⟨_, rfl, x, t, "bool", c, rfl, ty, h2, c, rfl, by simpa using q⟩
theorem ok_law_cell {f : Addr} {fd : FuncData} (F : Fun K "_law_cell" "_law_cell" s_law_cell f fd) (bl : Blt mg)  : FnOk P w K mg base CX0 1 f fd ["_law_script", "_law_k"] (sp_law_cell K) := by
  refine F.ok sc_law_cell (fun vs H Q E h => ?_) (fun cdv A outer s H vs Q E hr h => ?_)
  · obtain ⟨x, r, _, rfl, _⟩ := h; rfl
  · obtain ⟨a, ns, k, rfl, hS, h0, q⟩ := h
    refine ⟨_, (pss_cons (ps_if (pt_cmpR op_lt (pv 1) (pe_callB call_len_seq rfl bl.len_ bt_len (pa_cons (pv 0) pa_nil)) (nomark _)) (pss_one (ps_ret (pe_ix ix_list (pv 0) (pv 1) (fun _ _ => rfl)))) pss_nil)
    (pss_one (ps_ret pe_int))), ?_⟩
    refine ⟨_, rfl, _, rfl, a, _, rfl, .inl hS, _, _, rfl, rfl, _, rfl, ?_⟩
    refine ite2 (fun c => ?_) (fun c => q 0)
    have c' : k < ((ns.map V.int).length : Int) := of_decide_eq_true c
    rw [List.length_map] at c'
    have hk : k.toNat < ns.length := by omega
    have ek : ((k.toNat : Nat) : Int) = k := by omega
    have z : atI (ns.map V.int) ((k.toNat : Nat) : Int) = some (.int ns[k.toNat]) := atI_nat (by rw [List.getElem?_map, List.getElem?_eq_getElem hk] <;> rfl)
    rw [ek] at z
    exact ⟨_, rfl, _, rfl, a, _, k, _, rfl, rfl, hS, z, q _⟩
theorem ok_law_far {f : Addr} {fd : FuncData} (F : Fun K "_law_far" "_law_far" s_law_far f fd) (bl : Blt mg)  : FnOk P w K mg base CX0 1 f fd ["_law_cell_here"] (sp_law_far K) := by
  refine F.ok sc_law_far (fun vs H Q E h => ?_) (fun cdv A outer s H vs Q E hr h => ?_)
  · obtain ⟨x, rfl, _⟩ := h; rfl
  · obtain ⟨c, rfl, q⟩ := h
    refine ⟨_, (pss_cons (ps_if (pt_cmpR op_eq (pe_op op_mod (pv 0) pe_int) pe_int (nomark _)) (pss_one (ps_ret (pe_op op_sub (pe_op op_mod (pe_op op_fdiv (pv 0) pe_int) pe_int) pe_int))) pss_nil)
    (pss_one (ps_ret (pe_op op_sub (pe_op op_mod (pe_op op_fdiv (pv 0) pe_int) (pe_op op_mul pe_int (pe_op op_pow pe_int pe_int))) (pe_op op_pow pe_int pe_int))))), ?_⟩
    refine ⟨_, rfl, _, _, rfl, rfl, (by show (0 : Int) < 3; decide), rfl, _, rfl, ?_⟩
    refine ite2 (fun _ => ?_) (fun _ => ?_)
    · exact ⟨_, rfl, _, _, rfl, rfl, ⟨by decide, by decide⟩, _, _, rfl, rfl, (by show (0 : Int) < 9; decide), _, _, rfl, rfl, q _⟩
    · exact ⟨_, rfl, _, _, rfl, rfl, ⟨by decide, by decide⟩, _, _, rfl, rfl, ⟨by decide, by decide, by decide⟩, _, _, rfl, rfl, .inl ⟨by decide, by decide⟩, _, _, rfl, rfl, (by show (0 : Int) < _; decide), _, _, rfl, rfl, ⟨by decide, by decide, by decide⟩, _, _, rfl, rfl, q _⟩
theorem ok_law_purse {f : Addr} {fd : FuncData} (F : Fun K "_law_purse" "_law_purse" s_law_purse f fd) (bl : Blt mg)  : FnOk P w K mg base CX0 1 f fd ["_law_cell_here", "_law_way"] (sp_law_purse K) := by
  refine F.ok sc_law_purse (fun vs H Q E h => ?_) (fun cdv A outer s H vs Q E hr h => ?_)
  · obtain ⟨x, _, rfl, _⟩ := h; rfl
  · obtain ⟨c, y, rfl, y0, y1, q⟩ := h
    refine ⟨_, (pss_cons (ps_set (i := 2) sc_law_purse.nd rfl (Or.inl rfl) (pe_op op_mod (pv 0) (pe_op op_mulB (pe_op op_pow pe_int pe_int) (pe_op op_pow pe_int pe_int))))
    (pss_cons (ps_if (pt_cmpR op_ge (pv 2) (pe_op op_pow pe_int pe_int) (nomark _)) (pss_one (ps_ret (pe_lst (pa_cons (pv 2) (pa_cons pe_int pa_nil))))) pss_nil)
    (pss_one (ps_ret (pe_lst (pa_cons (pe_op op_add (pe_op op_mod (pv 0) pe_int) (pe_op op_mul (pe_op op_mul pe_int (pv 1)) (pv 1))) (pa_cons pe_int pa_nil))))))), ?_⟩
    refine ⟨_, rfl, _, _, rfl, rfl, ⟨by decide, by decide, by decide⟩, _, _, rfl, rfl, ⟨by decide, by decide, by decide⟩, _, _, rfl, rfl, mul120, _, _, rfl, rfl, (by show (0 : Int) < 10 ^ Int.toNat 60 * 10 ^ Int.toNat 60; decide), ?_⟩
    refine ⟨_, rfl, _, _, rfl, rfl, ⟨by decide, by decide, by decide⟩, _, _, rfl, rfl, _, rfl, ?_⟩
    refine ite2 (fun _ => ?_) (fun _ => ?_)
    · exact ⟨_, rfl, (by show 2 ≤ sizeLine; decide), fun p hp => q p _ _ hp⟩
    · exact ⟨_, rfl, _, _, rfl, rfl, (by show (0 : Int) < 2147483647; decide), _, rfl, _, _, rfl, rfl, .inl ⟨by decide, by decide⟩, _, rfl, _, _, rfl, rfl, .inr ⟨by omega, by omega⟩, _, _, rfl, rfl, (by show 2 ≤ sizeLine; decide), fun p hp => q p _ _ hp⟩
theorem ok_law_take {f : Addr} {fd : FuncData} (F : Fun K "_law_take" "_law_take" s_law_take f fd) (bl : Blt mg)  : FnOk P w K mg base CX0 1 f fd ["_law_purse_here", "_law_many"] (sp_law_take K) := by
  refine F.ok sc_law_take (fun vs H Q E h => ?_) (fun cdv A outer s H vs Q E hr h => ?_)
  · obtain ⟨x, _, _, _, rfl, _⟩ := h; rfl
  · obtain ⟨p, a, t, m, rfl, hp, m0, m1, q⟩ := h
    refine ⟨_, (pss_cons (ps_if (pt_cmpR op_eq (pe_ix ix_list (pv 0) pe_int (fun _ _ => rfl)) pe_int (nomark _)) (pss_cons (ps_set (i := 2) sc_law_take.nd rfl (Or.inl rfl) (pe_op op_mod (pe_ix ix_list (pv 0) pe_int (fun _ _ => rfl)) (pv 1)))
      (pss_cons (ps_asg (pe_op op_fdiv (pe_ix ix_list (pv 0) pe_int (fun _ _ => rfl)) (pv 1)) (pg_sub (pv 0) pe_int set_list))
      (pss_one (ps_ret (pv 2))))) pss_nil)
    (pss_cons (ps_asg (pe_op op_mod (pe_op op_add (pe_op op_mul (pe_ix ix_list (pv 0) pe_int (fun _ _ => rfl)) pe_int) pe_int) pe_int) (pg_sub (pv 0) pe_int set_list))
    (pss_one (ps_ret (pe_op op_mod (pe_op op_fdiv (pe_op op_mod (pe_op op_mul (pe_ix ix_list (pv 0) pe_int (fun _ _ => rfl)) pe_int) pe_int) pe_int) (pv 1)))))), ?_⟩
    refine ⟨_, rfl, p, _, 1, .int t, rfl, rfl, SqL.of hp, rfl, rfl, _, rfl, ?_⟩
    refine ite2 (fun _ => ?_) (fun _ => ?_)
    · refine ⟨_, rfl, p, _, 0, .int a, rfl, rfl, SqL.of hp, rfl, _, rfl, _, _, rfl, rfl, m0, ?_⟩
      refine ⟨_, rfl, p, _, 0, .int a, rfl, rfl, SqL.of hp, rfl, _, rfl, _, _, rfl, rfl, ⟨m0, by omega⟩, _, rfl, p, _, 0, 0, rfl, rfl, hp, rfl, ?_⟩
      exact ⟨_, rfl, q _ _ (Int.emod_nonneg _ (by omega)) (Int.emod_lt_of_pos _ m0)⟩
    · refine ⟨_, rfl, p, _, 0, .int a, rfl, rfl, SqL.of hp, rfl, _, _, rfl, rfl, .inr ⟨by decide, by decide⟩, _, _, rfl, rfl, _, _, rfl, rfl, (by show (0 : Int) < 2147483647; decide), _, rfl, p, _, 0, 0, rfl, rfl, hp, rfl, ?_⟩
      refine ⟨_, rfl, p, _, 0, _, rfl, rfl, SqL.of upd_same, rfl, _, _, rfl, rfl, .inr ⟨by decide, by decide⟩, _, _, rfl, rfl, (by show (0 : Int) < 2147483629; decide), _, _, rfl, rfl, ⟨by decide, by decide⟩, _, rfl, _, _, rfl, rfl, m0, ?_⟩
      exact q _ _ (Int.emod_nonneg _ (by omega)) (Int.emod_lt_of_pos _ m0)
theorem ok_law_beside {f : Addr} {fd : FuncData} (F : Fun K "_law_beside" "_law_beside" s_law_beside f fd) (bl : Blt mg)  : FnOk P w K mg base CX0 1 f fd ["_law_cell_here"] (sp_law_beside K) := by
  refine F.ok sc_law_beside (fun vs H Q E h => ?_) (fun cdv A outer s H vs Q E hr h => ?_)
  · obtain ⟨x, r, rfl, _⟩ := h; rfl
  · obtain ⟨v, ⟨a, b⟩, rfl, ⟨p, rfl, hp⟩, q⟩ := h
    refine ⟨_, (pss_cons (ps_asg (pv 0) (pg_tup rfl (pgs_cons (pg_name (i := 1) sc_law_beside.nd rfl (Or.inl rfl)) (pgs_cons (pg_name (i := 2) sc_law_beside.nd rfl (Or.inl rfl)) pgs_nil))))
    (pss_cons (ps_set (i := 3) sc_law_beside.nd rfl (Or.inl rfl) (pe_lst (pa_cons (pe_tup (pa_cons (pe_op op_add (pv 1) pe_int) (pa_cons (pe_op op_sub (pv 2) pe_int) pa_nil))) (pa_cons (pe_tup (pa_cons (pe_op op_add (pv 1) pe_int) (pa_cons (pv 2) pa_nil))) (pa_cons (pe_tup (pa_cons (pv 1) (pa_cons (pe_op op_add (pv 2) pe_int) pa_nil))) pa_nil)))))
    (pss_one (ps_ret (pe_op op_cat (pv 3) (pe_lst (pa_cons (pe_tup (pa_cons (pe_op op_sub (pv 1) pe_int) (pa_cons (pe_op op_add (pv 2) pe_int) pa_nil))) (pa_cons (pe_tup (pa_cons (pe_op op_sub (pv 1) pe_int) (pa_cons (pv 2) pa_nil))) (pa_cons (pe_tup (pa_cons (pv 1) (pa_cons (pe_op op_sub (pv 2) pe_int) pa_nil))) pa_nil))))))))), ?_⟩
    refine ⟨_, rfl, p, _, rfl, SqT.of hp, rfl, _, _, rfl, _, _, rfl, rfl, ?_⟩
    refine ⟨_, rfl, _, _, rfl, rfl, _, rfl, _, _, rfl, rfl, (by show 2 ≤ sizeLine; decide), fun p1 h1 => ?_⟩
    refine ⟨_, rfl, _, _, rfl, rfl, _, rfl, (by show 2 ≤ sizeLine; decide), fun p2 h2 => ?_⟩
    refine ⟨_, rfl, _, rfl, _, _, rfl, rfl, (by show 2 ≤ sizeLine; decide), fun p3 h3 => ?_⟩
    refine ⟨(by show 3 ≤ sizeLine; decide), fun r1 hr1 => ?_⟩
    refine ⟨_, rfl, ?_⟩
    refine ⟨_, rfl, _, _, rfl, rfl, _, rfl, _, _, rfl, rfl, (by show 2 ≤ sizeLine; decide), fun p4 h4 => ?_⟩
    refine ⟨_, rfl, _, _, rfl, rfl, _, rfl, (by show 2 ≤ sizeLine; decide), fun p5 h5 => ?_⟩
    refine ⟨_, rfl, _, rfl, _, _, rfl, rfl, (by show 2 ≤ sizeLine; decide), fun p6 h6 => ?_⟩
    refine ⟨(by show 3 ≤ sizeLine; decide), fun r2 hr2 => ?_⟩
    have s1 := Same.new h1 (.tup [.int (a + 1), .int (b - 1)])
    have s2 := Same.new h2 (.tup [.int (a + 1), .int b])
    have s3 := Same.new h3 (.tup [.int a, .int (b + 1)])
    have s3' := Same.new hr1 (.lst [.ref p1, .ref p2, .ref p3])
    have s4 := Same.new h4 (.tup [.int (a - 1), .int (b + 1)])
    have s5 := Same.new h5 (.tup [.int (a - 1), .int b])
    have s6 := Same.new h6 (.tup [.int a, .int (b - 1)])
    have s7 := Same.new hr2 (.lst [.ref p4, .ref p5, .ref p6])
    refine ⟨r1, r2, _, _, rfl, rfl, (s4.trans (s5.trans (s6.trans s7))) _ _ upd_same, upd_same, (by show 3 + 3 ≤ sizeLine; decide), fun r h7 => ?_⟩
    have s8 := Same.new h7 (.lst ([.ref p1, .ref p2, .ref p3] ++ [.ref p4, .ref p5, .ref p6]))
    have t7 := s8
    have t6 := s7.trans t7
    have t5 := s6.trans t6
    have t4 := s5.trans t5
    have t3' := s4.trans t4
    have t3 := s3'.trans t3'
    have t2 := s3.trans t3
    have t1 := s2.trans t2
    have t0 := s1.trans t1
    refine q r _ _ t0 ((s1.trans (s2.trans (s3.trans (s3'.trans (s4.trans (s5.trans (s6.trans s7))))))).free h7) upd_same ?_
    exact .cons ⟨p1, rfl, t1 _ _ upd_same⟩ (.cons ⟨p2, rfl, t2 _ _ upd_same⟩ (.cons ⟨p3, rfl, t3 _ _ upd_same⟩ (.cons ⟨p4, rfl, t4 _ _ upd_same⟩ (.cons ⟨p5, rfl, t5 _ _ upd_same⟩ (.cons ⟨p6, rfl, t6 _ _ upd_same⟩ .nil)))))
theorem tps_get {H : Hp} : ∀ {ws : List V} {nss : List (List Int)} {i : Nat}, Tps H ws nss → i < nss.length → ∃ v ns, ws[i]? = some v ∧ nss[i]? = some ns ∧ Tp H v ns
  | _, _, _, .nil, h => by simp at h
  | _, _, 0, .cons r _, _ => ⟨_, _, rfl, rfl, r⟩
  | _, _, i + 1, .cons _ t, h => by
    obtain ⟨v, ns, h1, h2, h3⟩ := tps_get (i := i) t (by simpa using h)
    exact ⟨v, ns, by simpa using h1, by simpa using h2, h3⟩
theorem ok_law_same_cells {f : Addr} {fd : FuncData} (F : Fun K "_law_same_cells" "_law_same_cells" s_law_same_cells f fd) (bl : Blt mg) (F_law_whole : Fn P w K mg base 1 "_law_whole" ["_law_found"] (sp_law_whole K)) : FnOk P w K mg base CX0 2 f fd ["_law_found", "_law_due"] (sp_law_same_cells K) := by
  refine F.ok sc_law_same_cells (fun vs H Q E h => ?_) (fun cdv A outer s H vs Q E hr h => ?_)
  · obtain ⟨x, r, _, _, _, rfl, _⟩ := h; rfl
  · obtain ⟨r, d, ws, us, nss, rfl, hr1, hw, hd, hu, h2, hlen, q⟩ := h
    have lw : ws.length = nss.length := Paired.length hw
    have lu : us.length = nss.length := Paired.length hu
    refine ⟨_, (pss_cons (ps_if (PW.pt (pw_or (pt_not (pt_val (pe_callB call_isinst rfl bl.isinstance_ bt_isinstance (pa_cons (pv 0) (pa_cons (pe_bltn (v := .ty "list") rfl bl.list_ bt_list rfl) pa_nil))))) (pw_or1 (pt_cmpR op_ne (pe_callB call_len_seq rfl bl.len_ bt_len (pa_cons (pv 0) pa_nil)) (pe_callB call_len_seq rfl bl.len_ bt_len (pa_cons (pv 1) pa_nil)) (nomark _))))) (pss_one (ps_ret pe_bl)) pss_nil)
    (pss_cons (ps_for PassesOwn.never rfl (pi_range1 rfl bl.range_ (pa_cons (pe_callB call_len_seq rfl bl.len_ bt_len (pa_cons (pv 1) pa_nil)) pa_nil)) (pg_name (i := 2) sc_law_same_cells.nd rfl (Or.inl rfl))
      (pss_cons (ps_if (PW.pt (pw_or (pt_not (pt_val (pe_callB call_isinst rfl bl.isinstance_ bt_isinstance (pa_cons (pe_ix ix_list (pv 0) (pv 2) (fun _ _ => rfl)) (pa_cons (pe_bltn (v := .ty "tuple") rfl bl.tuple_ bt_tuple rfl) pa_nil))))) (pw_or1 (pt_cmpR op_ne (pe_callB call_len_seq rfl bl.len_ bt_len (pa_cons (pe_ix ix_list (pv 0) (pv 2) (fun _ _ => rfl)) pa_nil)) pe_int (nomark _))))) (pss_one (ps_ret pe_bl)) pss_nil)
      (pss_one (ps_if (PW.pt (pw_or (pt_not (pt_val (pe_callG F_law_whole (hr.mono (by decide)) rfl (pa_cons (pe_ix ix_tup (pe_ix ix_list (pv 0) (pv 2) (fun _ _ => rfl)) pe_int (fun _ _ => rfl)) pa_nil)))) (pw_or (pt_not (pt_val (pe_callG F_law_whole (hr.mono (by decide)) rfl (pa_cons (pe_ix ix_tup (pe_ix ix_list (pv 0) (pv 2) (fun _ _ => rfl)) pe_int (fun _ _ => rfl)) pa_nil)))) (pw_or1 (pt_cmpR (op_neT (hu64 hr)) (pe_ix ix_list (pv 0) (pv 2) (fun _ _ => rfl)) (pe_ix ix_list (pv 1) (pv 2) (fun _ _ => rfl)) (nomark _)))))) (pss_one (ps_ret pe_bl)) pss_nil))))
    (pss_one (ps_ret pe_bl)))), ?_⟩
    refine ⟨_, rfl, _, _, "list", true, rfl, .lst hr1, kit_list_list K, true, rfl, iteF ?_⟩
    refine ⟨_, rfl, r, _, rfl, .inl (SqL.of hr1), _, rfl, d, _, rfl, .inl (SqL.of hd), rfl, _, rfl, ?_⟩
    refine iteNS (by rw [lw, lu]) ?_
    refine ⟨_, rfl, d, _, rfl, .inl (SqL.of hd), _, rfl, (by omega), (by omega), for_range (fun i σ H2 => H2 = H ∧ ∃ v, σ = [some (.ref r), some (.ref d), v]) ⟨rfl, _, rfl⟩ ?_ ?_⟩
    · rintro i σ H2 hi ⟨rfl, v, rfl⟩
      have hi' : i < nss.length := by omega
      obtain ⟨x, ns, hx, hn, ⟨px, rfl, hpx⟩⟩ := tps_get hw hi'
      obtain ⟨y, ms, hy, hm, ⟨py, rfl, hpy⟩⟩ := tps_get hu hi'
      have e : ns = ms := by rw [hn] at hm; exact Option.some.inj hm
      subst e
      have l2 : ns.length = 2 := h2 ns (List.mem_of_getElem? hn)
      obtain ⟨a, b, rfl⟩ : ∃ a b, ns = [a, b] := by
        match ns, l2 with
        | [a, b], _ => exact ⟨a, b, rfl⟩
      have ax : atI ws (0 + (i : Int)) = some (.ref px) := by rw [Int.zero_add]; exact atI_nat hx
      have ay : atI us (0 + (i : Int)) = some (.ref py) := by rw [Int.zero_add]; exact atI_nat hy
      refine ⟨_, rfl, _, rfl, r, _, _, _, rfl, rfl, SqL.of hr1, ax, _, _, "tuple", true, rfl, .tup hpx, kit_tuple_tuple K, true, rfl, iteF ?_⟩
      refine ⟨_, rfl, _, rfl, r, _, _, _, rfl, rfl, SqL.of hr1, ax, px, _, rfl, .inr (SqT.of hpx), rfl, _, rfl, iteF ?_⟩
      refine ⟨_, rfl, _, rfl, r, _, _, _, rfl, rfl, SqL.of hr1, ax, px, _, 0, .int a, rfl, rfl, SqT.of hpx, rfl, _, true, rfl, wh_int a, true, rfl, iteF ?_⟩
      refine ⟨_, rfl, _, rfl, r, _, _, _, rfl, rfl, SqL.of hr1, ax, px, _, 1, .int b, rfl, rfl, SqT.of hpx, rfl, _, true, rfl, wh_int b, true, rfl, iteF ?_⟩
      refine ⟨_, rfl, _, rfl, r, _, _, _, rfl, rfl, SqL.of hr1, ax, _, rfl, _, rfl, d, _, _, _, rfl, rfl, SqL.of hd, ay, [a, b], [a, b], ⟨px, rfl, hpx⟩, ⟨py, rfl, hpy⟩, _, rfl, ?_⟩
      refine iteNS rfl ?_
      exact ⟨rfl, _, rfl⟩
    · rintro σ H2 ⟨rfl, v, rfl⟩
      exact q
theorem ok_turned_once {f : Addr} {fd : FuncData} (F : Fun K "turned_once" "turned_once" s_turned_once f fd) (bl : Blt mg)  : FnOk P w K mg base CX0 1 f fd ["cell"] (sp_turned_once K) := by
  refine F.ok sc_turned_once (fun vs H Q E h => ?_) (fun cdv A outer s H vs Q E hr h => ?_)
  · obtain ⟨x, r, rfl, _⟩ := h; rfl
  · obtain ⟨v, c, rfl, ⟨p, rfl, hp⟩, q⟩ := h
    refine ⟨_, (pss_one (ps_ret (pe_tup (pa_cons (pe_un un_neg (pe_ix ix_tup (pv 0) pe_int (fun _ _ => rfl))) (pa_cons (pe_op op_add (pe_ix ix_tup (pv 0) pe_int (fun _ _ => rfl)) (pe_ix ix_tup (pv 0) pe_int (fun _ _ => rfl))) pa_nil))))), ?_⟩
    refine ⟨_, rfl, p, _, 1, _, rfl, rfl, SqT.of hp, rfl, _, rfl, ?_⟩
    refine ⟨_, rfl, p, _, 0, _, rfl, rfl, SqT.of hp, rfl, _, rfl, p, _, 1, _, rfl, rfl, SqT.of hp, rfl, _, _, rfl, rfl, (by show 2 ≤ sizeLine; decide), fun r hr' => ?_⟩
    exact q _ _ (Same.new hr' _) ⟨r, rfl, upd_same⟩
theorem ok_turned_cell {f : Addr} {fd : FuncData} (F : Fun K "turned_cell" "turned_cell" s_turned_cell f fd) (bl : Blt mg) (F_turned_once : Fn P w K mg base 1 "turned_once" ["cell"] (sp_turned_once K)) : FnOk P w K mg base CX0 2 f fd ["cell", "way"] (sp_turned_cell K) := by
  refine F.ok sc_turned_cell (fun vs H Q E h => ?_) (fun cdv A outer s H vs Q E hr h => ?_)
  · obtain ⟨x, r, _, rfl, _⟩ := h; rfl
  · obtain ⟨v, c, w', rfl, hc, w0, w1, q⟩ := h
    refine ⟨_, (pss_cons (ps_set (i := 2) sc_turned_cell.nd rfl (Or.inl rfl) (pv 0))
    (pss_cons (ps_join (ps_if (pt_cmpR op_ge (pv 1) pe_int (nomark _)) (pss_one (ps_set (i := 2) sc_turned_cell.nd rfl (Or.inl rfl) (pe_tup (pa_cons (pe_ix ix_tup (pv 0) pe_int (fun _ _ => rfl)) (pa_cons (pe_ix ix_tup (pv 0) pe_int (fun _ _ => rfl)) pa_nil))))) pss_nil))
    (pss_cons (ps_for PassesOwn.never rfl (pi_range1 rfl bl.range_ (pa_cons (pe_op op_mod (pv 1) pe_int) pa_nil)) (pg_name (i := 3) sc_turned_cell.nd rfl (Or.inl rfl))
      (pss_one (ps_set (i := 2) sc_turned_cell.nd rfl (Or.inl rfl) (pe_callG F_turned_once (hr.mono (by decide)) rfl (pa_cons (pv 2) pa_nil)))))
    (pss_one (ps_ret (pv 2)))))), ?_⟩
    refine ⟨_, rfl, ?_⟩
    refine ⟨fun σ H2 => ∃ y, Same H H2 ∧ Ce H2 y (tw0 w' c) ∧ σ = [some v, some (.int w'), some y, none], ?_, ?_⟩
    · refine ⟨_, rfl, _, _, rfl, rfl, _, rfl, ?_⟩
      refine ite2 (fun h => ?_) (fun h => ?_)
      · obtain ⟨p, rfl, hp⟩ := hc
        refine ⟨_, rfl, p, _, 1, _, rfl, rfl, SqT.of hp, rfl, _, rfl, p, _, 0, _, rfl, rfl, SqT.of hp, rfl, (by show 2 ≤ sizeLine; decide), fun r hr' => ?_⟩
        refine ⟨.ref r, Same.new hr' _, ⟨r, rfl, ?_⟩, rfl⟩
        rw [upd_same]
        unfold tw0
        rw [if_pos (by simpa using h)]
        rfl
      · refine ⟨v, fun _ _ z => z, ?_, rfl⟩
        unfold tw0
        rw [if_neg (by simpa using h)]
        exact hc
    · rintro σ H1 ⟨y, s1, c1, rfl⟩
      have b0 := Int.emod_nonneg w' (show (6 : Int) ≠ 0 by decide)
      have b1 := Int.emod_lt_of_pos w' (show (0 : Int) < 6 by decide)
      refine ⟨_, rfl, _, _, rfl, rfl, (by show (0 : Int) < 6; decide), _, rfl, by omega, by omega, for_range (n := (w' % 6).toNat) (fun i σ H2 => ∃ y vk, Same H H2 ∧ Ce H2 y (rotN i (tw0 w' c)) ∧ σ = [some v, some (.int w'), some y, vk]) ⟨y, _, s1, c1, rfl⟩ ?_ ?_⟩
      · rintro i σ H2 hi ⟨y, vk, s2, c2, rfl⟩
        refine ⟨_, rfl, y, _, rfl, c2, fun z H3 s3 c3 => ?_⟩
        exact ⟨z, _, s2.trans s3, c3, rfl⟩
      · rintro σ H2 ⟨y, vk, s2, c2, rfl⟩
        exact ⟨_, rfl, q y H2 s2 c2⟩
theorem ok_at_corner {f : Addr} {fd : FuncData} (F : Fun K "at_corner" "at_corner" s_at_corner f fd) (bl : Blt mg)  : FnOk P w K mg base CX0 1 f fd ["cells"] (sp_at_corner K) := by
  refine F.ok sc_at_corner (fun vs H Q E h => ?_) (fun cdv A outer s H vs Q E hr h => ?_)
  · obtain ⟨x, r, _, rfl, _⟩ := h; rfl
  · obtain ⟨l, us, cs, rfl, hl, hc, hne, hz, q⟩ := h
    refine ⟨_, (pss_cons (ps_set (i := 1) sc_at_corner.nd rfl (Or.inr rfl) (pe_callB (call_minL rfl) rfl bl.min_ bt_min (pa_cons (pe_comp (own := ["cell"]) (caps := []) (cns := []) ⟨of_decide_eq_true rfl, rfl, of_decide_eq_true rfl, of_decide_eq_true rfl, of_decide_eq_true rfl, rfl, rfl, of_decide_eq_true rfl⟩ rfl (pi_list (pv 0)) (fun _ => (pg_name (i := 0) (of_decide_eq_true rfl) rfl (Or.inl rfl))) (fun _ => pcs_nil) (fun _ => (pe_ix ix_tup (pv 0) pe_int (fun _ _ => rfl)))) pa_nil)))
    (pss_cons (ps_set (i := 2) sc_at_corner.nd rfl (Or.inr rfl) (pe_callB (call_minL rfl) rfl bl.min_ bt_min (pa_cons (pe_comp (own := ["cell"]) (caps := []) (cns := []) ⟨of_decide_eq_true rfl, rfl, of_decide_eq_true rfl, of_decide_eq_true rfl, of_decide_eq_true rfl, rfl, rfl, of_decide_eq_true rfl⟩ rfl (pi_list (pv 0)) (fun _ => (pg_name (i := 0) (of_decide_eq_true rfl) rfl (Or.inl rfl))) (fun _ => pcs_nil) (fun _ => (pe_ix ix_tup (pv 0) pe_int (fun _ _ => rfl)))) pa_nil)))
    (pss_one (ps_ret (pe_callB call_sortedT rfl bl.sorted_ bt_sorted (pa_cons (pe_comp (own := ["cell"]) (caps := [1, 2]) (cns := ["least_first", "least_second"]) ⟨of_decide_eq_true rfl, rfl, of_decide_eq_true rfl, of_decide_eq_true rfl, of_decide_eq_true rfl, rfl, rfl, of_decide_eq_true rfl⟩ rfl (pi_list (pv 0)) (fun _ => (pg_name (i := 0) (of_decide_eq_true rfl) rfl (Or.inl rfl))) (fun _ => pcs_nil) (fun _ => (pe_tup (pa_cons (pe_op op_sub (pe_ix ix_tup (pv 0) pe_int (fun _ _ => rfl)) (pv 1)) (pa_cons (pe_op op_sub (pe_ix ix_tup (pv 0) pe_int (fun _ _ => rfl)) (pv 2)) pa_nil))))) pa_nil)))))), ?_⟩
    have lu := Cs.len hc
    refine tSeq_i (tAsg_i (tCB_i (tCons_i ?_)))
    refine map_name (K := K) (j := 0) (xs := cs) rfl Ce isI Prod.fst stays_Ce stays_I (SqL.of hl) (Cs.pair hc) (sml (by omega)) ?_ ?_
    · rintro k i v c H2 _ _ s2 ⟨p, rfl, hp⟩ N hN
      exact ⟨_, rfl, p, _, 0, _, rfl, rfl, SqT.of hp, rfl, hN _ _ (fun _ _ z => z) rfl⟩
    rintro D1 ys1 H1 n1 s1 d1 p1
    rw [isI_map p1] at d1
    refine ⟨D1, _, rfl, SqL.of d1, by simpa using hne, fun a ha ha' => ?_⟩
    refine gName_i ?_
    dsimp only
    refine tSeq_i (tAsg_i (tCB_i (tCons_i ?_)))
    refine map_name (K := K) (j := 0) (xs := cs) rfl Ce isI Prod.snd stays_Ce stays_I (SqL.of (s1 _ _ hl)) (Cs.pair (Tps.mono s1 hc)) (sml (by omega)) ?_ ?_
    · rintro k i v c H2 _ _ s2 ⟨p, rfl, hp⟩ N hN
      exact ⟨_, rfl, p, _, 1, _, rfl, rfl, SqT.of hp, rfl, hN _ _ (fun _ _ z => z) rfl⟩
    rintro D2 ys2 H2 n2 s2 d2 p2
    rw [isI_map p2] at d2
    refine ⟨D2, _, rfl, SqL.of d2, by simpa using hne, fun b hb hb' => ?_⟩
    refine gName_i ?_
    dsimp only
    have s12 := s1.trans s2
    refine tCB_i (tCons_i ?_)
    refine map_name (K := K) (j := 0) (xs := cs) rfl Ce Ce (ly a b) stays_Ce stays_Ce (SqL.of (s12 _ _ hl)) (Cs.pair (Tps.mono s12 hc)) (sml (by omega)) ?_ ?_
    · rintro k i v c H3 _ _ s3 ⟨p, rfl, hp⟩ N hN
      refine ⟨_, rfl, p, _, 0, _, rfl, rfl, SqT.of hp, rfl, _, rfl, _, _, rfl, rfl, _, rfl, p, _, 1, _, rfl, rfl, SqT.of hp, rfl, _, rfl, _, _, rfl, rfl, (by show 2 ≤ sizeLine; decide), fun r hr' => ?_⟩
      exact hN _ _ (Same.new hr' _) ⟨r, rfl, upd_same⟩
    rintro D3 ys3 H3 n3 s3 d3 p3
    refine ⟨D3, ys3, (cs.map (ly a b)).map cl, rfl, SqL.of d3, Cs.ofPair p3, cl_ne _, fun sl sv nss' hsl ht pm srt => ?_⟩
    obtain ⟨T, rfl, pT⟩ := perm_map pm
    have s03 := s12.trans s3
    exact q sl sv T _ (s03.trans (Same.new hsl _)) (s03.free hsl) upd_same ht ⟨a, b, ⟨ha, ha'⟩, ⟨hb, hb'⟩, srt, pT⟩
theorem ok_turned {f : Addr} {fd : FuncData} (F : Fun K "turned" "turned" s_turned f fd) (bl : Blt mg) (F_at_corner : Fn P w K mg base 1 "at_corner" ["cells"] (sp_at_corner K)) (F_turned_cell : Fn P w K mg base 2 "turned_cell" ["cell", "way"] (sp_turned_cell K)) : FnOk P w K mg base CX0 3 f fd ["cells", "way"] (sp_turned K) := by
  refine F.ok sc_turned (fun vs H Q E h => ?_) (fun cdv A outer s H vs Q E hr h => ?_)
  · obtain ⟨x, r, _, _, rfl, _⟩ := h; rfl
  · obtain ⟨l, us, cs, w', rfl, hl, hc, hne, hz, w0, w1, q⟩ := h
    refine ⟨_, (pss_one (ps_ret (pe_callG F_at_corner (hr.mono (by decide)) rfl (pa_cons (pe_comp (own := ["cell"]) (caps := [1]) (cns := ["way"]) ⟨of_decide_eq_true rfl, rfl, of_decide_eq_true rfl, of_decide_eq_true rfl, of_decide_eq_true rfl, rfl, rfl, of_decide_eq_true rfl⟩ rfl (pi_list (pv 0)) (fun _ => (pg_name (i := 0) (of_decide_eq_true rfl) rfl (Or.inl rfl))) (fun _ => pcs_nil) (fun _ => (pe_callG F_turned_cell (hr.mono (by decide)) rfl (pa_cons (pv 0) (pa_cons (pv 1) pa_nil))))) pa_nil)))), ?_⟩
    have lu := Cs.len hc
    refine tCall_i (tCons_i ?_)
    refine map_name (K := K) (j := 0) (xs := cs) rfl Ce Ce (tw w') stays_Ce stays_Ce (SqL.of hl) (Cs.pair hc) (sml (by omega)) ?_ ?_
    · rintro k i v c H2 _ _ s2 hv N hN
      exact ⟨_, rfl, _, rfl, v, c, w', rfl, hv, w0, w1, fun y H' s' c' => hN _ _ s' c'⟩
    rintro D ys H1 n1 s1 d1 p1
    exact ⟨D, ys, _, rfl, d1, Cs.ofPair p1, by simpa using hne, by simpa using hz, fun r ws T H' s' hr' l' c' ly' => q r ws T H' (s1.trans s') (s1.free hr') l' c' ly'⟩
theorem atI_get {ws : List V} {z : Int} (h0 : 0 ≤ z) (h1 : z < (ws.length : Int)) : ∃ v, ws[z.toNat]? = some v ∧ atI ws z = some v := by
  have hk : z.toNat < ws.length := by omega
  have ek : ((z.toNat : Nat) : Int) = z := by omega
  refine ⟨ws[z.toNat], List.getElem?_eq_getElem hk, ?_⟩
  have := atI_nat (xs := ws) (j := z.toNat) (List.getElem?_eq_getElem hk)
  rwa [ek] at this
def cntR (f : Nat → Bool) (i : Nat) : Nat := ((List.range i).filter fun k => f k && !f ((k + 5) % 6)).length
theorem cntR_succ (f : Nat → Bool) (i : Nat) : cntR f (i + 1) = cntR f i + if (f i && !f ((i + 5) % 6)) = true then 1 else 0 := by
  unfold cntR
  rw [List.range_succ, List.filter_append, List.length_append]
  by_cases h : (f i && !f ((i + 5) % 6)) = true
  · rw [if_pos h, List.filter_cons_of_pos (p := fun k => f k && !f ((k + 5) % 6)) h]; rfl
  · rw [if_neg h, List.filter_cons_of_neg (p := fun k => f k && !f ((k + 5) % 6)) h]; rfl
theorem cntR_le (f : Nat → Bool) (i : Nat) : cntR f i ≤ i := by
  have := List.length_filter_le (fun k => f k && !f ((k + 5) % 6)) (List.range i)
  rw [List.length_range] at this
  exact this
theorem ok_law_stretches {f : Addr} {fd : FuncData} (F : Fun K "_law_stretches" "_law_stretches" s_law_stretches f fd) (bl : Blt mg) (F_law_beside : Fn P w K mg base 1 "_law_beside" ["_law_cell_here"] (sp_law_beside K)) : FnOk P w K mg base CX0 2 f fd ["_law_cell_here", "_law_cells"] (sp_law_stretches K) := by
  refine F.ok sc_law_stretches (fun vs H Q E h => ?_) (fun cdv A outer s H vs Q E hr h => ?_)
  · obtain ⟨x, r, _, _, _, rfl, _⟩ := h; rfl
  · obtain ⟨v, c, l, us, cs, rfl, hv, hl, hc, q⟩ := h
    refine ⟨_, (pss_cons (ps_set (i := 2) sc_law_stretches.nd rfl (Or.inr rfl) (pe_comp (own := ["_law_other"]) (caps := [1]) (cns := ["_law_cells"]) ⟨of_decide_eq_true rfl, rfl, of_decide_eq_true rfl, of_decide_eq_true rfl, of_decide_eq_true rfl, rfl, rfl, of_decide_eq_true rfl⟩ rfl (pi_list (pe_callG F_law_beside (hr.mono (by decide)) rfl (pa_cons (pv 0) pa_nil))) (fun _ => (pg_name (i := 0) (of_decide_eq_true rfl) rfl (Or.inl rfl))) (fun _ => pcs_nil) (fun _ => (pe_cmpR (op_inT (hu64 hr)) (pv 0) (pv 1) (by with_unfolding_all rfl)))))
    (pss_one (ps_ret (pe_callB call_len_seq rfl bl.len_ bt_len (pa_cons (pe_comp (own := ["_law_k"]) (caps := [2]) (cns := ["_law_near"]) ⟨of_decide_eq_true rfl, rfl, of_decide_eq_true rfl, of_decide_eq_true rfl, of_decide_eq_true rfl, rfl, rfl, of_decide_eq_true rfl⟩ rfl (pi_range1 rfl bl.range_ (pa_cons pe_int pa_nil)) (fun _ => (pg_name (i := 0) (of_decide_eq_true rfl) rfl (Or.inl rfl))) (fun _ => (pcs_one (PW.pt (pw_and (pt_val (pe_ix ix_list (pv 1) (pv 0) (fun _ _ => rfl))) (pw_and1 (pt_not (pt_val (pe_ix ix_list (pv 1) (pe_op op_sub (pv 0) pe_int) (fun _ _ => rfl))))))))) (fun _ => (pv 0))) pa_nil))))), ?_⟩
    refine tSeq_i (tAsg_i (tComp_i ?_))
    refine ⟨_, rfl, v, c, rfl, hv, fun r ws H1 s1 hr1 l1 c1 => ⟨r, rfl, ⟨ws, SqL.of l1⟩, ?_⟩⟩
    have lw := Cs.len c1
    refine go_map (K := K) (xs := nb c) Ce isB (fun d => decide (d ∈ cs)) stays_Ce stays_B (SqL.of l1) (Cs.pair c1) (sml (by rw [lw]; show 6 ≤ 100000; decide)) ?_ ?_
    · rintro k i x d H2 _ _ s2 hx N hN
      refine ⟨_, rfl, _, rfl, cl d, cs.map cl, hx, rd_lt (SqL.of (s2 _ _ (s1 _ _ hl))) (Tps.mono (s1.trans s2) hc), ?_⟩
      have e : decide (cl d ∈ cs.map cl) = decide (d ∈ cs) := by simp [cl_mem]
      rw [e]
      exact hN _ _ (fun _ _ z => z) rfl
    rintro N ys H2 n2 s2 d2 p2
    rw [isB_map p2] at d2
    refine gName_i ?_
    dsimp only
    refine tCB_i (tCons_i (tComp_i ?_))
    refine ⟨6, rfl, by decide, by decide, ?_⟩
    have key : ∀ i : Nat, i < 6 → atI (((nb c).map fun d => decide (d ∈ cs)).map V.bl) (0 + (i : Int)) = some (.bl (decide (nk c i ∈ cs))) ∧ atI (((nb c).map fun d => decide (d ∈ cs)).map V.bl) (0 + (i : Int) - 1) = some (.bl (decide (nk c ((i + 5) % 6) ∈ cs))) := by
      intro i hi
      rcases (show i = 0 ∨ i = 1 ∨ i = 2 ∨ i = 3 ∨ i = 4 ∨ i = 5 by omega) with rfl | rfl | rfl | rfl | rfl | rfl <;> exact ⟨rfl, rfl⟩
    generalize hL : ((nb c).map fun d => decide (d ∈ cs)).map V.bl = L at *
    refine go_range (n := 6) (sml (by decide)) (fun D i ys τ H3 => H2 D = none ∧ Same H2 H3 ∧ H3 D = some (.lst ys) ∧ ys.length = cntR (fun k => decide (nk c k ∈ cs)) i ∧ ∃ v, τ = [v, some (.ref N)]) ?_ ?_ ?_ ?_
    · exact fun D hD => ⟨hD, Same.new hD _, upd_same, rfl, none, rfl⟩
    · rintro D i ys τ H3 hi ⟨hD, s3, d3, e3, v, rfl⟩
      exact ⟨d3, by rw [e3]; exact cntR_le _ _⟩
    · rintro k D i ys τ H3 hi ⟨hD, s3, d3, e3, v, rfl⟩
      obtain ⟨k1, k2⟩ := key i hi
      have e4 := cntR_succ (fun k => decide (nk c k ∈ cs)) i
      refine ⟨_, rfl, _, rfl, N, L, _, _, rfl, rfl, SqL.of (s3 _ _ d2), k1, _, rfl, ?_⟩
      cases h1 : decide (nk c i ∈ cs) with
      | false =>
        refine iteF (iteF ⟨hD, s3, d3, ?_, _, rfl⟩)
        rw [e4, e3, h1]
        rfl
      | true =>
        refine iteT ⟨_, rfl, _, rfl, _, _, rfl, rfl, N, L, _, _, rfl, rfl, SqL.of (s3 _ _ d2), k2, _, rfl, ?_⟩
        cases h2 : decide (nk c ((i + 5) % 6) ∈ cs) with
        | true =>
          refine iteF ⟨hD, s3, d3, ?_, _, rfl⟩
          rw [e4, e3, h1, h2]
          rfl
        | false =>
          refine iteT ⟨_, rfl, d3, hD, s3.at hD _, upd_same, ?_, _, rfl⟩
          rw [e4, h1, h2, List.length_append, e3]
          rfl
    · rintro D ys τ H3 hD ⟨_, s3, d3, e3, v, rfl⟩
      refine ⟨D, ys, rfl, .inl (SqL.of d3), ?_⟩
      rw [e3]
      exact q H3 (s1.trans (s2.trans s3))
def WCo (H : Hp) (p c : Addr) (t m size : Int) (i : Nat) (σ : St) (H2 : Hp) : Prop := ∃ ws cs a' v4 v5 v6, But p H H2 ∧ H2 p = some (.lst [.int a', .int t]) ∧ H2 c = some (.lst ws) ∧ Cs H2 ws cs ∧ Built cs ∧ (cs.length : Int) ≤ size ∧ σ = [some (.ref p), some (.int m), some (.ref c), some (.int size), v4, v5, v6]
theorem ok_law_coal {f : Addr} {fd : FuncData} (F : Fun K "_law_coal" "_law_coal" s_law_coal f fd) (bl : Blt mg) (F_law_take : Fn P w K mg base 1 "_law_take" ["_law_purse_here", "_law_many"] (sp_law_take K)) (F_law_beside : Fn P w K mg base 1 "_law_beside" ["_law_cell_here"] (sp_law_beside K)) (F_law_stretches : Fn P w K mg base 2 "_law_stretches" ["_law_cell_here", "_law_cells"] (sp_law_stretches K)) : FnOk P w K mg base CX0 3 f fd ["_law_purse_here", "_law_most"] (sp_law_coal K) := by
  refine F.ok sc_law_coal (fun vs H Q E h => ?_) (fun cdv A outer s H vs Q E hr h => ?_)
  · obtain ⟨x, r, _, _, rfl, _⟩ := h; rfl
  · obtain ⟨p, a, t, m, rfl, hp, m0, m1, q⟩ := h
    refine ⟨_, (pss_cons (ps_set (i := 2) sc_law_coal.nd rfl (Or.inl rfl) (pe_lst (pa_cons (pe_tup (pa_cons pe_int (pa_cons pe_int pa_nil))) pa_nil)))
    (pss_cons (ps_set (i := 3) sc_law_coal.nd rfl (Or.inl rfl) (pe_op op_add pe_int (pe_callG F_law_take (hr.mono (by decide)) rfl (pa_cons (pv 0) (pa_cons (pv 1) pa_nil)))))
    (pss_cons (ps_for PassesOwn.never rfl (pi_range1 rfl bl.range_ (pa_cons (pe_op op_mul pe_int (pv 1)) pa_nil)) (pg_name (i := 4) sc_law_coal.nd rfl (Or.inl rfl))
      (pss_cons (ps_set (i := 5) sc_law_coal.nd rfl (Or.inl rfl) (pe_ix ix_list (pv 2) (pe_callG F_law_take (hr.mono (by decide)) rfl (pa_cons (pv 0) (pa_cons (pe_callB call_len_seq rfl bl.len_ bt_len (pa_cons (pv 2) pa_nil)) pa_nil))) (fun _ _ => rfl)))
      (pss_cons (ps_set (i := 6) sc_law_coal.nd rfl (Or.inl rfl) (pe_ix ix_list (pe_callG F_law_beside (hr.mono (by decide)) rfl (pa_cons (pv 5) pa_nil)) (pe_callG F_law_take (hr.mono (by decide)) rfl (pa_cons (pv 0) (pa_cons pe_int pa_nil))) (fun _ _ => rfl)))
      (pss_one (ps_if (PW.pt (pw_and (pt_cmpR op_lt (pe_callB call_len_seq rfl bl.len_ bt_len (pa_cons (pv 2) pa_nil)) (pv 3) (nomark _)) (pw_and (pt_cmpR (op_notInT (hu64 hr)) (pv 6) (pv 2) (by with_unfolding_all rfl)) (pw_and1 (pt_cmpR op_eq (pe_callG F_law_stretches (hr.mono (by decide)) rfl (pa_cons (pv 6) (pa_cons (pv 2) pa_nil))) pe_int (nomark _)))))) (pss_one (ps_expr (pe_bm PySem.F.plainAttrs_list PySem.F.slot_list_append PySem.F.type_list_append mt_append (pv 2) (pa_cons (pv 6) pa_nil)))) pss_nil)))))
    (pss_one (ps_ret (pv 2)))))), ?_⟩
    refine ⟨(by show 2 ≤ sizeLine; decide), fun p0 hp0 => ⟨(by show 1 ≤ sizeLine; decide), fun c hc0 => ?_⟩⟩
    have s1 := Same.new hp0 (.tup [.int 0, .int 0])
    have s2 := Same.new hc0 (.lst [.ref p0])
    have s02 := s1.trans s2
    have hp2 := s02 _ _ hp
    have c2 : upd (upd H p0 (.tup [.int 0, .int 0])) c (.lst [.ref p0]) c = some (.lst [.ref p0]) := upd_same
    have cc2 : Cs (upd (upd H p0 (.tup [.int 0, .int 0])) c (.lst [.ref p0])) [.ref p0] [(0, 0)] := .cons ⟨p0, rfl, s2 _ _ upd_same⟩ .nil
    have c00 : H c = none := s1.free hc0
    have hcp : c ≠ p := (ne_of_none hp c00).symm
    generalize upd (upd H p0 (.tup [.int 0, .int 0])) c (.lst [.ref p0]) = H2 at *
    refine ⟨_, rfl, _, rfl, p, a, t, m, rfl, hp2, m0, by omega, fun a1 z u1 u2 => ⟨_, _, rfl, rfl, ?_⟩⟩
    refine ⟨_, rfl, _, _, rfl, rfl, .inl ⟨by decide, by decide⟩, _, rfl, by omega, by omega, for_range (n := (3 * m).toNat) (WCo H p c t m (1 + z)) ⟨[.ref p0], [(0, 0)], a1, _, _, _, (But.of s02).trans (But.upd _), upd_same, ?_, Tps.mt (TupS.upd (o' := .lst [.int a1, .int t]) hp2 rfl) cc2, .one, ?_, rfl⟩ ?_ ?_⟩
    · rw [upd_ne hcp]; exact c2
    · show (1 : Int) ≤ 1 + z; omega
    · rintro i σ H3 hi ⟨ws, cs, a3, v4, v5, v6, b3, p3, c3, cc3, bu, zs, rfl⟩
      have lw := Cs.len cc3
      have hlen : 0 < cs.length := List.length_pos_iff.mpr bu.ne
      refine ⟨_, rfl, _, rfl, _, rfl, c, ws, rfl, .inl (SqL.of c3), p, a3, t, (ws.length : Int), rfl, p3, by omega, by omega, fun a4 z4 u40 u41 => ?_⟩
      obtain ⟨vb, hvb, avb⟩ := atI_get u40 u41
      obtain ⟨b, hb, ceb⟩ := Cs.of cc3 hvb
      have b4 : But p H (upd H3 p (.lst [.int a4, .int t])) := b3.trans (But.upd _)
      have p4 : upd H3 p (.lst [.int a4, .int t]) p = some (.lst [.int a4, .int t]) := upd_same
      have c4 : upd H3 p (.lst [.int a4, .int t]) c = some (.lst ws) := by rw [upd_ne hcp]; exact c3
      have t4 : TupS H3 (upd H3 p (.lst [.int a4, .int t])) := TupS.upd p3 rfl
      have cc4 := Tps.mt t4 cc3
      have ceb4 := ceb.mt t4
      generalize upd H3 p (.lst [.int a4, .int t]) = H4 at *
      refine ⟨c, ws, z4, vb, rfl, rfl, SqL.of c4, avb, ?_⟩
      refine ⟨_, rfl, vb, b, rfl, ceb4, fun r rs H5 s5 hr5 l5 c5 => ?_⟩
      refine ⟨_, rfl, p, a4, t, 6, rfl, s5 _ _ p4, by decide, by decide, fun a6 z6 u60 u61 => ?_⟩
      have lr : rs.length = 6 := Cs.len c5
      obtain ⟨vf, hvf, avf⟩ := atI_get (ws := rs) u60 (by omega)
      obtain ⟨f, hf, cef⟩ := Cs.of c5 hvf
      have hrp : r ≠ p := (ne_of_none p4 hr5).symm
      have p5 := s5 _ _ p4
      have b6 : But p H (upd H5 p (.lst [.int a6, .int t])) := (b4.trans (But.of s5)).trans (But.upd _)
      have p6 : upd H5 p (.lst [.int a6, .int t]) p = some (.lst [.int a6, .int t]) := upd_same
      have c6 : upd H5 p (.lst [.int a6, .int t]) c = some (.lst ws) := by rw [upd_ne hcp]; exact s5 _ _ c4
      have l6 : upd H5 p (.lst [.int a6, .int t]) r = some (.lst rs) := by rw [upd_ne hrp]; exact l5
      have t6 : TupS H5 (upd H5 p (.lst [.int a6, .int t])) := TupS.upd p5 rfl
      have cc6 := Tps.mt t6 (Tps.mono s5 cc4)
      have cef6 := cef.mt t6
      generalize upd H5 p (.lst [.int a6, .int t]) = H6 at *
      refine ⟨r, rs, z6, vf, rfl, rfl, SqL.of l6, avf, ?_⟩
      have stop : ∀ H7, Same H6 H7 → WCo H p c t m (1 + z) (i + 1) [some (.ref p), some (.int m), some (.ref c), some (.int (1 + z)), some (.int (0 + (i : Int))), some vb, some vf] H7 := fun H7 s7 =>
        ⟨ws, cs, a6, _, _, _, b6.trans (But.of s7), s7 _ _ p6, s7 _ _ c6, Tps.mono s7 cc6, bu, zs, rfl⟩
      refine ⟨_, rfl, c, ws, rfl, .inl (SqL.of c6), _, rfl, _, _, rfl, rfl, _, rfl, ?_⟩
      refine ite2 (fun h1 => ?_) (fun _ => iteF (stop _ fun _ _ z => z))
      refine ⟨_, rfl, _, rfl, cl f, cs.map cl, cef6, rd_lt (SqL.of c6) cc6, _, rfl, ?_⟩
      refine ite2 (fun h2 => ?_) (fun _ => iteF (stop _ fun _ _ z => z))
      refine ⟨_, rfl, _, rfl, vf, f, c, ws, cs, rfl, cef6, c6, cc6, fun H7 s7 => ⟨rfl, _, rfl, ?_⟩⟩
      refine ite2 (fun h3 => ?_) (fun _ => stop _ s7)
      have h1' : (ws.length : Int) < 1 + z := by simpa using h1
      have h2' : f ∉ cs := by
        intro hin
        simp [cl_mem.mpr hin] at h2
      have h3' : risesL (fun k => decide (nk f k ∈ cs)) = 1 := by
        have h4 := of_decide_eq_true h3
        injection h4 with h4
        exact Int.ofNat.inj h4
      refine ⟨_, rfl, .inl ⟨rfl, _, SqL.of (s7 _ _ c6)⟩, _, rfl, c, ws, vf, rfl, rfl, s7 _ _ c6, sml (by omega), ?_⟩
      have c7 := s7 _ _ c6
      have t8 : TupS H7 (upd H7 c (.lst (ws ++ [vf]))) := TupS.upd c7 rfl
      refine ⟨ws ++ [vf], cs ++ [f], a6, _, _, _, ?_, ?_, upd_same, Cs.snoc (Tps.mt t8 (Tps.mono s7 cc6)) ((cef6.mono s7).mt t8), .snoc bu (List.mem_of_getElem? hb) (List.mem_of_getElem? hf) h2' h3', ?_, rfl⟩
      · exact (b6.trans (But.of s7)).at c00 _
      · rw [upd_ne hcp.symm]; exact s7 _ _ p6
      · rw [List.length_append]
        show ((cs.length + 1 : Nat) : Int) ≤ 1 + z
        omega
    · rintro σ H3 ⟨ws, cs, a3, v4, v5, v6, b3, p3, c3, cc3, bu, zs, rfl⟩
      exact ⟨_, rfl, q c ws cs a3 H3 b3 p3 c00 c3 cc3 bu (by omega)⟩
theorem ok_law_moved {f : Addr} {fd : FuncData} (F : Fun K "_law_moved" "_law_moved" s_law_moved f fd) (bl : Blt mg)  : FnOk P w K mg base CX0 1 f fd ["_law_cells", "_law_right", "_law_low"] (sp_law_moved K) := by
  refine F.ok sc_law_moved (fun vs H Q E h => ?_) (fun cdv A outer s H vs Q E hr h => ?_)
  · obtain ⟨x, r, _, _, _, rfl, _⟩ := h; rfl
  · obtain ⟨l, us, cs, x, y, rfl, hl, hc, hz, q⟩ := h
    refine ⟨_, (pss_one (ps_ret (pe_comp (own := ["_law_cell_here"]) (caps := [1, 2]) (cns := ["_law_right", "_law_low"]) ⟨of_decide_eq_true rfl, rfl, of_decide_eq_true rfl, of_decide_eq_true rfl, of_decide_eq_true rfl, rfl, rfl, of_decide_eq_true rfl⟩ rfl (pi_list (pv 0)) (fun _ => (pg_name (i := 0) (of_decide_eq_true rfl) rfl (Or.inl rfl))) (fun _ => pcs_nil) (fun _ => (pe_tup (pa_cons (pe_op op_add (pe_ix ix_tup (pv 0) pe_int (fun _ _ => rfl)) (pv 1)) (pa_cons (pe_op op_add (pe_ix ix_tup (pv 0) pe_int (fun _ _ => rfl)) (pv 2)) pa_nil))))))), ?_⟩
    have lu := Cs.len hc
    refine map_name (K := K) (j := 0) (xs := cs) rfl Ce Ce (mv x y) stays_Ce stays_Ce (SqL.of hl) (Cs.pair hc) (sml (by omega)) ?_ ?_
    · rintro k i v c H3 _ _ s3 ⟨p, rfl, hp⟩ N hN
      refine ⟨_, rfl, p, _, 0, _, rfl, rfl, SqT.of hp, rfl, _, rfl, _, _, rfl, rfl, _, rfl, p, _, 1, _, rfl, rfl, SqT.of hp, rfl, _, rfl, _, _, rfl, rfl, (by show 2 ≤ sizeLine; decide), fun r hr' => ?_⟩
      exact hN _ _ (Same.new hr' _) ⟨r, rfl, upd_same⟩
    rintro D ys H1 n1 s1 d1 p1
    exact q D ys H1 s1 n1 d1 (Cs.ofPair p1)
theorem ok_law_turned {f : Addr} {fd : FuncData} (F : Fun K "_law_turned" "_law_turned" s_law_turned f fd) (bl : Blt mg)  : FnOk P w K mg base CX0 1 f fd ["_law_cells", "_law_way"] (sp_law_turned K) := by
  refine F.ok sc_law_turned (fun vs H Q E h => ?_) (fun cdv A outer s H vs Q E hr h => ?_)
  · obtain ⟨x, r, _, _, rfl, _⟩ := h; rfl
  · obtain ⟨l, us, cs, w', rfl, hl, hc, hne, hz, w0, w1, q⟩ := h
    refine ⟨_, (pss_cons (ps_set (i := 2) sc_law_turned.nd rfl (Or.inl rfl) (pe_callTy call_list_of rfl bl.list_ bt_list (pa_cons (pv 0) pa_nil)))
    (pss_cons (ps_join (ps_if (pt_cmpR op_gt (pv 1) pe_int (nomark _)) (pss_one (ps_setComp (i := 2) (own := ["_law_cell_here"]) (caps := []) (cns := []) ⟨of_decide_eq_true rfl, rfl, of_decide_eq_true rfl, of_decide_eq_true rfl, of_decide_eq_true rfl, rfl, rfl, of_decide_eq_true rfl⟩ rfl sc_law_turned.nd rfl rfl (pi_list (pv 2)) (fun _ => (pg_name (i := 0) (of_decide_eq_true rfl) rfl (Or.inl rfl))) (fun _ => pcs_nil) (fun _ => (pe_tup (pa_cons (pe_ix ix_tup (pv 0) pe_int (fun _ _ => rfl)) (pa_cons (pe_ix ix_tup (pv 0) pe_int (fun _ _ => rfl)) pa_nil)))) rfl)) pss_nil))
    (pss_cons (ps_for PassesOwn.never rfl (pi_range1 rfl bl.range_ (pa_cons (pe_op op_mod (pv 1) pe_int) pa_nil)) (pg_name (i := 3) sc_law_turned.nd rfl (Or.inl rfl))
      (pss_one (ps_setComp (i := 2) (own := ["_law_cell_here"]) (caps := []) (cns := []) ⟨of_decide_eq_true rfl, rfl, of_decide_eq_true rfl, of_decide_eq_true rfl, of_decide_eq_true rfl, rfl, rfl, of_decide_eq_true rfl⟩ rfl sc_law_turned.nd rfl rfl (pi_list (pv 2)) (fun _ => (pg_name (i := 0) (of_decide_eq_true rfl) rfl (Or.inl rfl))) (fun _ => pcs_nil) (fun _ => (pe_tup (pa_cons (pe_un un_neg (pe_ix ix_tup (pv 0) pe_int (fun _ _ => rfl))) (pa_cons (pe_op op_add (pe_ix ix_tup (pv 0) pe_int (fun _ _ => rfl)) (pe_ix ix_tup (pv 0) pe_int (fun _ _ => rfl))) pa_nil)))) rfl)))
    (pss_cons (ps_set (i := 4) sc_law_turned.nd rfl (Or.inr rfl) (pe_callB (call_minL rfl) rfl bl.min_ bt_min (pa_cons (pe_comp (own := ["_law_cell_here"]) (caps := []) (cns := []) ⟨of_decide_eq_true rfl, rfl, of_decide_eq_true rfl, of_decide_eq_true rfl, of_decide_eq_true rfl, rfl, rfl, of_decide_eq_true rfl⟩ rfl (pi_list (pv 2)) (fun _ => (pg_name (i := 0) (of_decide_eq_true rfl) rfl (Or.inl rfl))) (fun _ => pcs_nil) (fun _ => (pe_ix ix_tup (pv 0) pe_int (fun _ _ => rfl)))) pa_nil)))
    (pss_cons (ps_set (i := 5) sc_law_turned.nd rfl (Or.inr rfl) (pe_callB (call_minL rfl) rfl bl.min_ bt_min (pa_cons (pe_comp (own := ["_law_cell_here"]) (caps := []) (cns := []) ⟨of_decide_eq_true rfl, rfl, of_decide_eq_true rfl, of_decide_eq_true rfl, of_decide_eq_true rfl, rfl, rfl, of_decide_eq_true rfl⟩ rfl (pi_list (pv 2)) (fun _ => (pg_name (i := 0) (of_decide_eq_true rfl) rfl (Or.inl rfl))) (fun _ => pcs_nil) (fun _ => (pe_ix ix_tup (pv 0) pe_int (fun _ _ => rfl)))) pa_nil)))
    (pss_one (ps_ret (pe_callB call_sortedT rfl bl.sorted_ bt_sorted (pa_cons (pe_comp (own := ["_law_cell_here"]) (caps := [4, 5]) (cns := ["_law_left", "_law_low"]) ⟨of_decide_eq_true rfl, rfl, of_decide_eq_true rfl, of_decide_eq_true rfl, of_decide_eq_true rfl, rfl, rfl, of_decide_eq_true rfl⟩ rfl (pi_list (pv 2)) (fun _ => (pg_name (i := 0) (of_decide_eq_true rfl) rfl (Or.inl rfl))) (fun _ => pcs_nil) (fun _ => (pe_tup (pa_cons (pe_op op_sub (pe_ix ix_tup (pv 0) pe_int (fun _ _ => rfl)) (pv 1)) (pa_cons (pe_op op_sub (pe_ix ix_tup (pv 0) pe_int (fun _ _ => rfl)) (pv 2)) pa_nil))))) pa_nil))))))))), ?_⟩
    have lu := Cs.len hc
    refine ⟨_, rfl, l, us, rfl, .inl (SqL.of hl), fun d hd => ?_⟩
    have s1 := Same.new hd (.lst us)
    have d1 : upd H d (.lst us) d = some (.lst us) := upd_same
    have c1 := Tps.mono s1 hc
    generalize upd H d (.lst us) = H1 at *
    refine ⟨fun σ H2 => ∃ d ws, Same H H2 ∧ H2 d = some (.lst ws) ∧ Cs H2 ws (cs.map (tw0 w')) ∧ σ = [some (.ref l), some (.int w'), some (.ref d), none, none, none], ?_, ?_⟩
    · refine ⟨_, rfl, _, _, rfl, rfl, _, rfl, ?_⟩
      refine ite2 (fun h => ?_) (fun h => ?_)
      · show tComp _ _ _ _ _ _ _ _ _
        refine map_name (K := K) (j := 2) (xs := cs) rfl Ce Ce (tw0 w') stays_Ce stays_Ce (SqL.of d1) (Cs.pair c1) (sml (by omega)) ?_ ?_
        · rintro k i v c H3 _ _ s3 ⟨p, rfl, hp⟩ N hN
          refine ⟨_, rfl, p, _, 1, _, rfl, rfl, SqT.of hp, rfl, _, rfl, p, _, 0, _, rfl, rfl, SqT.of hp, rfl, (by show 2 ≤ sizeLine; decide), fun r hr' => ?_⟩
          refine hN _ _ (Same.new hr' _) ⟨r, rfl, ?_⟩
          rw [upd_same]
          unfold tw0
          have h' : 5 < w' := by simpa using h
          rw [if_pos (by omega)]
          rfl
        rintro D ys H2 n2 s2 d2 p2
        exact ⟨D, ys, s1.trans s2, d2, Cs.ofPair p2, rfl⟩
      · have h' : ¬ 5 < w' := by simpa using h
        refine ⟨d, us, s1, d1, ?_, rfl⟩
        have e : tw0 w' = id := by funext c; unfold tw0; rw [if_neg (by omega)]; rfl
        rw [e, List.map_id]
        exact c1
    clear d1 c1 s1 hd
    rintro σ H1 ⟨d, ws, s1, d1, c1, rfl⟩
    have b0 := Int.emod_nonneg w' (show (6 : Int) ≠ 0 by decide)
    have b1 := Int.emod_lt_of_pos w' (show (0 : Int) < 6 by decide)
    dsimp only
    refine tSeq_i (tFor_i ?_)
    refine ⟨_, rfl, _, _, rfl, rfl, (by show (0 : Int) < 6; decide), _, rfl, by omega, by omega, gf_range (n := (w' % 6).toNat) (fun i σ H2 => ∃ d ws vk, Same H H2 ∧ H2 d = some (.lst ws) ∧ Cs H2 ws ((cs.map (tw0 w')).map (rotN i)) ∧ σ = [some (.ref l), some (.int w'), some (.ref d), vk, none, none]) ⟨d, ws, _, s1, d1, ?_, rfl⟩ ?_ ?_⟩
    · have e : rotN 0 = id := rfl
      rw [e, List.map_id]
      exact c1
    · rintro i σ H2 hi ⟨d, ws, vk, s2, d2, c2, rfl⟩
      have l2 := Cs.len c2
      refine gName_i ?_
      show tComp _ _ _ _ _ _ _ _ _
      refine map_name (K := K) (j := 2) rfl Ce Ce rot stays_Ce stays_Ce (SqL.of d2) (Cs.pair c2) (sml (by rw [l2, List.length_map, List.length_map]; omega)) ?_ ?_
      · rintro k i v c H3 _ _ s3 ⟨p, rfl, hp⟩ N hN
        refine ⟨_, rfl, p, _, 1, _, rfl, rfl, SqT.of hp, rfl, _, rfl, _, rfl, p, _, 0, _, rfl, rfl, SqT.of hp, rfl, _, rfl, p, _, 1, _, rfl, rfl, SqT.of hp, rfl, _, _, rfl, rfl, (by show 2 ≤ sizeLine; decide), fun r hr' => ?_⟩
        exact hN _ _ (Same.new hr' _) ⟨r, rfl, upd_same⟩
      rintro D ys H3 n3 s3 d3 p3
      refine ⟨D, ys, _, s2.trans s3, d3, ?_, rfl⟩
      have := Cs.ofPair p3
      rw [List.map_map] at this
      exact this
    rintro σ H2 ⟨d, ws, vk, s2, d2, c2, rfl⟩
    have e5 : (cs.map (tw0 w')).map (rotN (w' % 6).toNat) = cs.map (tw w') := by rw [List.map_map]; rfl
    rw [e5] at c2
    have l2 := Cs.len c2
    rw [List.length_map] at l2
    have hne' : cs.map (tw w') ≠ [] := by simpa using hne
    generalize cs.map (tw w') = ds at *
    refine tNext_i ?_
    dsimp only
    refine tSeq_i (tAsg_i (tCB_i (tCons_i ?_)))
    refine map_name (K := K) (j := 2) (xs := ds) rfl Ce isI Prod.fst stays_Ce stays_I (SqL.of d2) (Cs.pair c2) (sml (by omega)) ?_ ?_
    · rintro k i v c H2 _ _ s2 ⟨p, rfl, hp⟩ N hN
      exact ⟨_, rfl, p, _, 0, _, rfl, rfl, SqT.of hp, rfl, hN _ _ (fun _ _ z => z) rfl⟩
    rintro D3 ys3 H3 n3 s3 d3 p3
    rw [isI_map p3] at d3
    refine ⟨D3, _, rfl, SqL.of d3, by simpa using hne', fun a ha ha' => ?_⟩
    refine gName_i ?_
    dsimp only
    refine tSeq_i (tAsg_i (tCB_i (tCons_i ?_)))
    refine map_name (K := K) (j := 2) (xs := ds) rfl Ce isI Prod.snd stays_Ce stays_I (SqL.of (s3 _ _ d2)) (Cs.pair (Tps.mono s3 c2)) (sml (by omega)) ?_ ?_
    · rintro k i v c H2 _ _ s2 ⟨p, rfl, hp⟩ N hN
      exact ⟨_, rfl, p, _, 1, _, rfl, rfl, SqT.of hp, rfl, hN _ _ (fun _ _ z => z) rfl⟩
    rintro D4 ys4 H4 n4 s4 d4 p4
    rw [isI_map p4] at d4
    refine ⟨D4, _, rfl, SqL.of d4, by simpa using hne', fun b hb hb' => ?_⟩
    refine gName_i ?_
    dsimp only
    have s34 := s3.trans s4
    refine tCB_i (tCons_i ?_)
    refine map_name (K := K) (j := 2) (xs := ds) rfl Ce Ce (ly a b) stays_Ce stays_Ce (SqL.of (s34 _ _ d2)) (Cs.pair (Tps.mono s34 c2)) (sml (by omega)) ?_ ?_
    · rintro k i v c H3 _ _ s3 ⟨p, rfl, hp⟩ N hN
      refine ⟨_, rfl, p, _, 0, _, rfl, rfl, SqT.of hp, rfl, _, rfl, _, _, rfl, rfl, _, rfl, p, _, 1, _, rfl, rfl, SqT.of hp, rfl, _, rfl, _, _, rfl, rfl, (by show 2 ≤ sizeLine; decide), fun r hr' => ?_⟩
      exact hN _ _ (Same.new hr' _) ⟨r, rfl, upd_same⟩
    rintro D5 ys5 H5 n5 s5 d5 p5
    refine ⟨D5, ys5, (ds.map (ly a b)).map cl, rfl, SqL.of d5, Cs.ofPair p5, cl_ne _, fun sl sv nss' hsl ht pm srt => ?_⟩
    obtain ⟨T, rfl, pT⟩ := perm_map pm
    have s05 := s2.trans (s34.trans s5)
    exact q sl sv T _ (s05.trans (Same.new hsl _)) (s05.free hsl) upd_same ht ⟨a, b, ⟨ha, ha'⟩, ⟨hb, hb'⟩, srt, pT⟩
theorem paired_rev {α β : Type} {R : α → β → Prop} : ∀ {a : List α} {b : List β}, Paired R a b → Paired R a.reverse b.reverse
  | _, _, .nil => .nil
  | _, _, .cons h t => by
    rw [List.reverse_cons, List.reverse_cons]
    exact paired_append (.cons h .nil) (paired_rev t)
theorem Cs.rev {H : Hp} {vs : List V} {cs : List C} (h : Cs H vs cs) : Cs H vs.reverse cs.reverse := by
  show Tps H vs.reverse (cs.reverse.map cl)
  rw [List.map_reverse]
  exact paired_rev h
def J5 (H : Hp) (a : Addr) (z : Int) (σ : St) (H2 : Hp) : Prop := ∃ c ws cs, Same H H2 ∧ H c = none ∧ H2 c = some (.lst ws) ∧ Cs H2 ws cs ∧ cs ≠ [] ∧ cs.length ≤ 14 ∧ σ = [some (.ref a), some (.int z), some (.ref c), none, none, none, none]
theorem ok_law {f : Addr} {fd : FuncData} (F : Fun K "law" "law" s_law f fd) (bl : Blt mg) (F_law_cell : Fn P w K mg base 1 "_law_cell" ["_law_script", "_law_k"] (sp_law_cell K)) (F_law_coal : Fn P w K mg base 3 "_law_coal" ["_law_purse_here", "_law_most"] (sp_law_coal K)) (F_law_moved : Fn P w K mg base 1 "_law_moved" ["_law_cells", "_law_right", "_law_low"] (sp_law_moved K)) (F_law_purse : Fn P w K mg base 1 "_law_purse" ["_law_cell_here", "_law_way"] (sp_law_purse K)) (F_law_far : Fn P w K mg base 1 "_law_far" ["_law_cell_here"] (sp_law_far K)) (F_law_turned : Fn P w K mg base 1 "_law_turned" ["_law_cells", "_law_way"] (sp_law_turned K)) (F_turned : Fn P w K mg base 3 "turned" ["cells", "way"] (sp_turned K)) (F_law_same_cells : Fn P w K mg base 2 "_law_same_cells" ["_law_found", "_law_due"] (sp_law_same_cells K)) : FnOk P w K mg base CX0 4 f fd ["_law_script"] (spLaw K) := by
  refine F.ok sc_law (fun vs H Q E h => ?_) (fun cdv A outer s H vs Q E hr h => ?_)
  · obtain ⟨x, r, rfl, _⟩ := h; rfl
  · obtain ⟨a, ns, rfl, hS, h63, q⟩ := h
    refine ⟨_, (pss_cons (ps_set (i := 1) sc_law.nd rfl (Or.inl rfl) (pe_callG F_law_cell (hr.mono (by decide)) rfl (pa_cons (pv 0) (pa_cons pe_int pa_nil))))
    (pss_cons (ps_set (i := 2) sc_law.nd rfl (Or.inl rfl) (pe_callG F_law_coal (hr.mono (by decide)) rfl (pa_cons (pe_callG F_law_purse (hr.mono (by decide)) rfl (pa_cons (pe_callG F_law_cell (hr.mono (by decide)) rfl (pa_cons (pv 0) (pa_cons pe_int pa_nil))) (pa_cons (pe_op op_mod (pv 1) pe_int) pa_nil))) (pa_cons pe_int pa_nil))))
    (pss_cons (ps_join (ps_if (pt_cmpR op_eq (pe_op op_mod (pe_op op_fdiv (pv 1) pe_int) pe_int) pe_int (nomark _)) (pss_one (ps_setComp (i := 2) (own := ["_law_k", "_law_cell_here"]) (caps := []) (cns := []) ⟨of_decide_eq_true rfl, rfl, of_decide_eq_true rfl, of_decide_eq_true rfl, of_decide_eq_true rfl, rfl, rfl, of_decide_eq_true rfl⟩ rfl sc_law.nd rfl rfl (pi_enum rfl bl.enumerate_ (pa_cons (pv 2) pa_nil)) (fun _ => (pg_tup rfl (pgs_cons (pg_name (i := 0) (of_decide_eq_true rfl) rfl (Or.inl rfl)) (pgs_cons (pg_name (i := 1) (of_decide_eq_true rfl) rfl (Or.inl rfl)) pgs_nil)))) (fun _ => (pcs_one (pt_cmpR op_eq (pe_op op_mod (pv 0) pe_int) pe_int (nomark _)))) (fun _ => (pv 1)) rfl)) pss_nil))
    (pss_cons (ps_set (i := 2) sc_law.nd rfl (Or.inl rfl) (pe_callG F_law_moved (hr.mono (by decide)) rfl (pa_cons (pv 2) (pa_cons (pe_callG F_law_far (hr.mono (by decide)) rfl (pa_cons (pe_callG F_law_cell (hr.mono (by decide)) rfl (pa_cons (pv 0) (pa_cons pe_int pa_nil))) pa_nil)) (pa_cons (pe_callG F_law_far (hr.mono (by decide)) rfl (pa_cons (pe_callG F_law_cell (hr.mono (by decide)) rfl (pa_cons (pv 0) (pa_cons pe_int pa_nil))) pa_nil)) pa_nil)))))
    (pss_cons (ps_join (ps_if (pt_cmpR op_eq (pe_op op_mod (pe_op op_fdiv (pv 1) pe_int) pe_int) pe_int (nomark _)) (pss_one (ps_expr (pe_bm0 PySem.F.plainAttrs_list PySem.F.slot_list_reverse PySem.F.type_list_reverse mt_reverse (pv 2)))) pss_nil))
    (pss_cons (ps_set (i := 3) sc_law.nd rfl (Or.inl rfl) (pe_callTy call_list_of rfl bl.list_ bt_list (pa_cons (pv 2) pa_nil)))
    (pss_cons (ps_for PassesOwn.never rfl (pi_range1 rfl bl.range_ (pa_cons pe_int pa_nil)) (pg_name (i := 4) sc_law.nd rfl (Or.inl rfl))
      (pss_cons (ps_set (i := 5) sc_law.nd rfl (Or.inl rfl) (pe_callG F_law_turned (hr.mono (by decide)) rfl (pa_cons (pv 2) (pa_cons (pv 4) pa_nil))))
      (pss_cons (ps_set (i := 6) sc_law.nd rfl (Or.inl rfl) (pe_callG F_turned (hr.mono (by decide)) rfl (pa_cons (pv 3) (pa_cons (pv 4) pa_nil))))
      (pss_cons (ps_if (PW.pt (pw_or (pt_not (pt_val (pe_callG F_law_same_cells (hr.mono (by decide)) rfl (pa_cons (pv 6) (pa_cons (pv 5) pa_nil))))) (pw_or1 (pt_cmpR (op_neLT (hu64 hr)) (pv 3) (pv 2) (nomark _))))) (pss_one (ps_ret pe_bl)) pss_nil)
      (pss_cons (ps_expr (pe_bm0 PySem.F.plainAttrs_list PySem.F.slot_list_clear PySem.F.type_list_clear mt_clear (pv 6)))
      (pss_one (ps_if (PW.pt (pw_or (pt_cmpR (op_neLT (hu64 hr)) (pe_callG F_turned (hr.mono (by decide)) rfl (pa_cons (pv 3) (pa_cons (pv 4) pa_nil))) (pv 5) (nomark _)) (pw_or1 (pt_cmpR (op_neLT (hu64 hr)) (pe_callG F_turned (hr.mono (by decide)) rfl (pa_cons (pv 5) (pa_cons pe_int pa_nil))) (pv 5) (nomark _))))) (pss_one (ps_ret pe_bl)) pss_nil)))))))
    (pss_one (ps_ret pe_bl))))))))), ?_⟩
    refine ⟨_, rfl, a, ns, 0, rfl, hS, Int.le_refl 0, fun z0 => ?_⟩
    refine ⟨_, rfl, a, ns, 1, rfl, hS, by decide, fun z1 => ?_⟩
    refine ⟨_, rfl, _, _, rfl, rfl, (by show (0 : Int) < 6; decide), _, _, rfl, Int.emod_nonneg _ (by decide), Int.lt_trans (Int.emod_lt_of_pos _ (by decide)) (by decide), fun p pa pt hp => ?_⟩
    have s1 := Same.new hp (.lst [.int pa, .int pt])
    refine ⟨p, pa, pt, 14, rfl, upd_same, by decide, by decide, fun c ws cs a' H1 b1 hp1 hc1 l1 c1 bu zc => ?_⟩
    have s01 : Same H H1 := fun b o z => b1 b o (ne_of_none z hp) (s1 _ _ z)
    have lws := Cs.len c1
    refine ⟨J5 H a z0, ?_, ?_⟩
    · refine ⟨_, rfl, _, _, rfl, rfl, ⟨by decide, by decide⟩, _, _, rfl, rfl, (by show (0 : Int) < 3; decide), rfl, _, rfl, ?_⟩
      refine ite2 (fun _ => ?_) (fun _ => ⟨c, ws, cs, s01, s1.free hc1, l1, c1, bu.ne, by omega, rfl⟩)
      show tComp _ _ _ _ _ _ _ _ _
      refine tComp_i ?_
      refine ⟨_, rfl, c, ws, rfl, SqL.of l1, ?_⟩
      refine go_enum (K := K) (xs := ws) (sml (by omega)) (fun D i ys τ H' => H1 D = none ∧ Same H1 H' ∧ H' D = some (.lst ys) ∧ ys.length ≤ i ∧ (∃ ds, Cs H' ys ds) ∧ (0 < i → ys ≠ []) ∧ ∃ v w, τ = [v, w]) ?_ ?_ ?_ ?_
      · exact fun D hD => ⟨hD, Same.new hD _, upd_same, Nat.le_refl _, ⟨[], .nil⟩, fun z => absurd z (Nat.lt_irrefl 0), none, none, rfl⟩
      · rintro D i ys τ H2 hi ⟨hD, s2, d2, z2, _, _, v, w', rfl⟩
        exact ⟨SqL.of (s2 _ _ l1), d2, z2⟩
      · rintro k D i x pe ys τ H2 hi ⟨hD, s2, d2, z2, ⟨ds, c2⟩, n2, v, w', rfl⟩ hpe
        obtain ⟨e, hei, ce⟩ := Cs.of (Tps.mono s2 c1) hi
        have s3 := Same.new hpe (.tup [.int (i : Int), x])
        have d3 := s3 _ _ d2
        have c3 := Tps.mono s3 c2
        have ce3 := ce.mono s3
        refine ⟨pe, _, rfl, SqT.of upd_same, rfl, _, _, rfl, _, _, rfl, rfl, ?_⟩
        generalize upd H2 pe (.tup [.int (i : Int), x]) = H3 at *
        refine ⟨_, rfl, _, _, rfl, rfl, (by show (0 : Int) < 2; decide), rfl, _, rfl, ?_⟩
        refine ite2 (fun h => ?_) (fun h => ?_)
        · have t4 : TupS H3 (upd H3 D (.lst (ys ++ [x]))) := TupS.upd d3 rfl
          refine ⟨_, rfl, d3, hD, (s2.trans s3).at hD _, upd_same, ?_, ⟨ds ++ [e], Cs.snoc (Tps.mt t4 c3) (ce3.mt t4)⟩, fun _ => by simp, _, _, rfl⟩
          rw [List.length_append]
          show ys.length + 1 ≤ i + 1
          omega
        · refine ⟨hD, s2.trans s3, d3, by omega, ⟨ds, c3⟩, fun _ => ?_, _, _, rfl⟩
          by_cases hi0 : 0 < i
          · exact n2 hi0
          · have : i = 0 := by omega
            subst this
            exact absurd (by decide) h
      · rintro D ys τ H2 hD ⟨_, s2, d2, z2, ⟨ds, c2⟩, n2, v, w', rfl⟩
        have hl := Cs.len c2
        have h0 : 0 < cs.length := List.length_pos_iff.mpr bu.ne
        refine ⟨D, ys, ds, s01.trans s2, s01.free hD, d2, c2, fun e => ?_, by omega, rfl⟩
        subst e
        exact n2 (by omega) (List.length_eq_zero_iff.mp hl)
    clear lws s01 zc bu c1 l1 hc1 hp1 b1 s1 hp
    rintro σ H1 ⟨c, ws, cs, s1, hc0, l1, c1, ne1, z1', rfl⟩
    refine ⟨_, rfl, _, rfl, a, ns, 2, rfl, s1.seq hS, by decide, fun z2 => ⟨z2, rfl, fun w2 => ?_⟩⟩
    refine ⟨_, rfl, a, ns, 3, rfl, s1.seq hS, by decide, fun z3 => ⟨z3, rfl, fun w3 => ?_⟩⟩
    refine ⟨c, ws, cs, w2, w3, rfl, l1, c1, by omega, fun d us H2 s2 hd2 l2 c2 => ?_⟩
    have s02 := s1.trans s2
    have ne2 : cs.map (mv w2 w3) ≠ [] := by simpa using ne1
    have z2' : (cs.map (mv w2 w3)).length ≤ 14 := by simpa using z1'
    have d0 := s1.free hd2
    refine ⟨J5 H a z0, ?_, ?_⟩
    · refine ⟨_, rfl, _, _, rfl, rfl, ⟨by decide, by decide⟩, _, _, rfl, rfl, (by show (0 : Int) < 2; decide), rfl, _, rfl, ?_⟩
      refine ite2 (fun _ => ?_) (fun _ => ⟨d, us, _, s02, d0, l2, c2, ne2, z2', rfl⟩)
      refine ⟨_, rfl, .inl ⟨rfl, _, SqL.of l2⟩, d, us, rfl, rfl, l2, ?_⟩
      have t3 : TupS H2 (upd H2 d (.lst us.reverse)) := TupS.upd l2 rfl
      exact ⟨d, us.reverse, _, s02.at d0 _, d0, upd_same, Cs.rev (Tps.mt t3 c2), by simpa using ne1, by simpa using z1', rfl⟩
    clear d0 z2' ne2 s02 c2 l2 hd2 s2 z1' ne1 c1 l1 hc0 s1
    rintro σ H1 ⟨c, ws, cs, s1, hc0, l1, c1, ne1, z1', rfl⟩
    refine ⟨_, rfl, c, ws, rfl, .inl (SqL.of l1), fun h hh => ?_⟩
    have s2 := Same.new hh (.lst ws)
    have h2 : upd H1 h (.lst ws) h = some (.lst ws) := upd_same
    have c2 := s2 _ _ l1
    have cc2 := Tps.mono s2 c1
    generalize upd H1 h (.lst ws) = H2 at *
    dsimp only
    refine tSeq_i (tFor_i ?_)
    refine ⟨12, rfl, by decide, by decide, gf_range (n := 12) (fun i σ H3 => ∃ v4 v5 v6, H3 h = some (.lst ws) ∧ H3 c = some (.lst ws) ∧ Cs H3 ws cs ∧ σ = [some (.ref a), some (.int z0), some (.ref c), some (.ref h), v4, v5, v6]) ⟨_, _, _, h2, c2, cc2, rfl⟩ ?_ ?_⟩
    · rintro i σ H3 hi ⟨v4, v5, v6, h3, c3, cc3, rfl⟩
      have i0 : (0 : Int) ≤ 0 + (i : Int) := by omega
      have i1 : (0 : Int) + (i : Int) < 12 := by omega
      refine ⟨_, rfl, _, rfl, c, ws, cs, _, rfl, c3, cc3, ne1, by omega, i0, i1, fun du dus T H4 s4 hdu l4 t4 y4 => ?_⟩
      refine ⟨_, rfl, _, rfl, h, ws, cs, _, rfl, s4 _ _ h3, Tps.mono s4 cc3, ne1, by omega, i0, i1, fun r rs U H5 s5 hr5 l5 t5 y5 => ?_⟩
      cases y4.uniq y5
      have s35 := s4.trans s5
      have lT := y4.len
      rw [List.length_map] at lT
      refine ⟨_, rfl, _, rfl, r, du, rs, dus, T.map cl, rfl, l5, t5, s5 _ _ l4, Tps.mono s5 t4, cl_len2 T, by rw [List.length_map]; omega, true, rfl, iteF ?_⟩
      refine ⟨_, rfl, _, rfl, cs.map cl, cs.map cl, rd_lt (SqL.of (s35 _ _ h3)) (Tps.mono s35 cc3), rd_lt (SqL.of (s35 _ _ c3)) (Tps.mono s35 cc3), _, rfl, iteNS rfl ?_⟩
      refine ⟨_, rfl, .inl ⟨rfl, _, SqL.of l5⟩, r, rs, rfl, rfl, l5, ?_⟩
      have t6 : TupS H5 (upd H5 r (.lst [])) := TupS.upd l5 rfl
      have k6 : ∀ b o, H4 b = some o → upd H5 r (.lst []) b = some o := fun b o z => by rw [upd_ne (ne_of_none z hr5)]; exact s5 _ _ z
      have h6 := k6 _ _ (s4 _ _ h3)
      have c6 := k6 _ _ (s4 _ _ c3)
      have l6 := k6 _ _ l4
      have cc6 : Cs (upd H5 r (.lst [])) ws cs := Tps.mt t6 (Tps.mono s35 cc3)
      have tt6 : Cs (upd H5 r (.lst [])) dus T := Tps.mt t6 (Tps.mono s5 t4)
      generalize upd H5 r (.lst []) = H6 at *
      refine ⟨_, rfl, _, rfl, h, ws, cs, _, rfl, h6, cc6, ne1, by omega, i0, i1, fun r7 rs7 U7 H7 s7 hr7 l7 t7 y7 => ?_⟩
      cases y4.uniq y7
      refine ⟨_, rfl, T.map cl, T.map cl, rd_lt (SqL.of l7) t7, rd_lt (SqL.of (s7 _ _ l6)) (Tps.mono s7 tt6), _, rfl, iteNS rfl ?_⟩
      refine ⟨_, rfl, du, dus, T, 0, rfl, s7 _ _ l6, Tps.mono s7 tt6, y4.ne, by omega, by decide, by decide, fun r8 rs8 U8 H8 s8 hr8 l8 t8 y8 => ?_⟩
      rw [tw_zero] at y8
      cases y4.again y8
      have s68 := s7.trans s8
      refine ⟨_, rfl, T.map cl, T.map cl, rd_lt (SqL.of l8) t8, rd_lt (SqL.of (s68 _ _ l6)) (Tps.mono s68 tt6), _, rfl, iteNS rfl ?_⟩
      exact ⟨_, _, _, s68 _ _ h6, s68 _ _ c6, Tps.mono s68 cc6, rfl⟩
    · rintro σ H3 _
      exact q _
end
theorem all_mk {l : PySem.W.OpenLaw} {w : World} {K : PySem.W.Frag} {h : Heap} {mg : Str → Option Value} {fa f0 f1 f2 f3 f4 f5 f6 f7 f8 f9 f10 f11 f12 f13 f14 f15 : Addr} (X : K.In h) (G : h.Ns mainGlobals mg) (hfa : mg "law" = some (.ref fa))
    {od0 an0 od1 an1 od2 an2 od3 an3 od4 an4 od5 an5 od6 an6 od7 an7 od8 an8 od9 an9 od10 an10 od11 an11 od12 an12 od13 an13 od14 an14 od15 an15 : Option Addr} {sl0 sl1 sl2 sl3 sl4 sl5 sl6 sl7 sl8 sl9 sl10 sl11 sl12 sl13 sl14 sl15 : Array (Option Value)} {oc0 kV0 dc0 pm0 cd0 ct0 oc1 kV1 dc1 pm1 cd1 ct1 oc2 kV2 dc2 pm2 cd2 ct2 oc3 kV3 dc3 pm3 cd3 ct3 oc4 kV4 dc4 pm4 cd4 ct4 oc5 kV5 dc5 pm5 cd5 ct5 oc6 kV6 dc6 pm6 cd6 ct6 oc7 kV7 dc7 pm7 cd7 ct7 oc8 kV8 dc8 pm8 cd8 ct8 oc9 kV9 dc9 pm9 cd9 ct9 oc10 kV10 dc10 pm10 cd10 ct10 oc11 kV11 dc11 pm11 cd11 ct11 oc12 kV12 dc12 pm12 cd12 ct12 oc13 kV13 dc13 pm13 cd13 ct13 oc14 kV14 dc14 pm14 cd14 ct14 oc15 kV15 dc15 pm15 cd15 ct15 : Value}
    (a0 : PySem.W.nsIn K mainGlobals "turned_once" = some (some (.ref f0))) (l0 : K.lookup f0 = some ⟨oc0, od0, .func (PySem.W.fnOf "turned_once" "turned_once" (defArgs s_turned_once) (defBody s_turned_once) (defScope s_turned_once) .none kV0 dc0 pm0 an0 cd0 ct0), sl0⟩) (c0 : PySem.W.codeIn K cd0 "turned_once" = true) (k0 : PySem.W.keepIn K (.ref f0) = true)
    (a1 : PySem.W.nsIn K mainGlobals "turned_cell" = some (some (.ref f1))) (l1 : K.lookup f1 = some ⟨oc1, od1, .func (PySem.W.fnOf "turned_cell" "turned_cell" (defArgs s_turned_cell) (defBody s_turned_cell) (defScope s_turned_cell) .none kV1 dc1 pm1 an1 cd1 ct1), sl1⟩) (c1 : PySem.W.codeIn K cd1 "turned_cell" = true) (k1 : PySem.W.keepIn K (.ref f1) = true)
    (a2 : PySem.W.nsIn K mainGlobals "at_corner" = some (some (.ref f2))) (l2 : K.lookup f2 = some ⟨oc2, od2, .func (PySem.W.fnOf "at_corner" "at_corner" (defArgs s_at_corner) (defBody s_at_corner) (defScope s_at_corner) .none kV2 dc2 pm2 an2 cd2 ct2), sl2⟩) (c2 : PySem.W.codeIn K cd2 "at_corner" = true) (k2 : PySem.W.keepIn K (.ref f2) = true)
    (a3 : PySem.W.nsIn K mainGlobals "turned" = some (some (.ref f3))) (l3 : K.lookup f3 = some ⟨oc3, od3, .func (PySem.W.fnOf "turned" "turned" (defArgs s_turned) (defBody s_turned) (defScope s_turned) .none kV3 dc3 pm3 an3 cd3 ct3), sl3⟩) (c3 : PySem.W.codeIn K cd3 "turned" = true) (k3 : PySem.W.keepIn K (.ref f3) = true)
    (a4 : PySem.W.nsIn K mainGlobals "_law_cell" = some (some (.ref f4))) (l4 : K.lookup f4 = some ⟨oc4, od4, .func (PySem.W.fnOf "_law_cell" "_law_cell" (defArgs s_law_cell) (defBody s_law_cell) (defScope s_law_cell) .none kV4 dc4 pm4 an4 cd4 ct4), sl4⟩) (c4 : PySem.W.codeIn K cd4 "_law_cell" = true) (k4 : PySem.W.keepIn K (.ref f4) = true)
    (a5 : PySem.W.nsIn K mainGlobals "_law_purse" = some (some (.ref f5))) (l5 : K.lookup f5 = some ⟨oc5, od5, .func (PySem.W.fnOf "_law_purse" "_law_purse" (defArgs s_law_purse) (defBody s_law_purse) (defScope s_law_purse) .none kV5 dc5 pm5 an5 cd5 ct5), sl5⟩) (c5 : PySem.W.codeIn K cd5 "_law_purse" = true) (k5 : PySem.W.keepIn K (.ref f5) = true)
    (a6 : PySem.W.nsIn K mainGlobals "_law_take" = some (some (.ref f6))) (l6 : K.lookup f6 = some ⟨oc6, od6, .func (PySem.W.fnOf "_law_take" "_law_take" (defArgs s_law_take) (defBody s_law_take) (defScope s_law_take) .none kV6 dc6 pm6 an6 cd6 ct6), sl6⟩) (c6 : PySem.W.codeIn K cd6 "_law_take" = true) (k6 : PySem.W.keepIn K (.ref f6) = true)
    (a7 : PySem.W.nsIn K mainGlobals "_law_beside" = some (some (.ref f7))) (l7 : K.lookup f7 = some ⟨oc7, od7, .func (PySem.W.fnOf "_law_beside" "_law_beside" (defArgs s_law_beside) (defBody s_law_beside) (defScope s_law_beside) .none kV7 dc7 pm7 an7 cd7 ct7), sl7⟩) (c7 : PySem.W.codeIn K cd7 "_law_beside" = true) (k7 : PySem.W.keepIn K (.ref f7) = true)
    (a8 : PySem.W.nsIn K mainGlobals "_law_stretches" = some (some (.ref f8))) (l8 : K.lookup f8 = some ⟨oc8, od8, .func (PySem.W.fnOf "_law_stretches" "_law_stretches" (defArgs s_law_stretches) (defBody s_law_stretches) (defScope s_law_stretches) .none kV8 dc8 pm8 an8 cd8 ct8), sl8⟩) (c8 : PySem.W.codeIn K cd8 "_law_stretches" = true) (k8 : PySem.W.keepIn K (.ref f8) = true)
    (a9 : PySem.W.nsIn K mainGlobals "_law_coal" = some (some (.ref f9))) (l9 : K.lookup f9 = some ⟨oc9, od9, .func (PySem.W.fnOf "_law_coal" "_law_coal" (defArgs s_law_coal) (defBody s_law_coal) (defScope s_law_coal) .none kV9 dc9 pm9 an9 cd9 ct9), sl9⟩) (c9 : PySem.W.codeIn K cd9 "_law_coal" = true) (k9 : PySem.W.keepIn K (.ref f9) = true)
    (a10 : PySem.W.nsIn K mainGlobals "_law_moved" = some (some (.ref f10))) (l10 : K.lookup f10 = some ⟨oc10, od10, .func (PySem.W.fnOf "_law_moved" "_law_moved" (defArgs s_law_moved) (defBody s_law_moved) (defScope s_law_moved) .none kV10 dc10 pm10 an10 cd10 ct10), sl10⟩) (c10 : PySem.W.codeIn K cd10 "_law_moved" = true) (k10 : PySem.W.keepIn K (.ref f10) = true)
    (a11 : PySem.W.nsIn K mainGlobals "_law_far" = some (some (.ref f11))) (l11 : K.lookup f11 = some ⟨oc11, od11, .func (PySem.W.fnOf "_law_far" "_law_far" (defArgs s_law_far) (defBody s_law_far) (defScope s_law_far) .none kV11 dc11 pm11 an11 cd11 ct11), sl11⟩) (c11 : PySem.W.codeIn K cd11 "_law_far" = true) (k11 : PySem.W.keepIn K (.ref f11) = true)
    (a12 : PySem.W.nsIn K mainGlobals "_law_whole" = some (some (.ref f12))) (l12 : K.lookup f12 = some ⟨oc12, od12, .func (PySem.W.fnOf "_law_whole" "_law_whole" (defArgs s_law_whole) (defBody s_law_whole) (defScope s_law_whole) .none kV12 dc12 pm12 an12 cd12 ct12), sl12⟩) (c12 : PySem.W.codeIn K cd12 "_law_whole" = true) (k12 : PySem.W.keepIn K (.ref f12) = true)
    (a13 : PySem.W.nsIn K mainGlobals "_law_same_cells" = some (some (.ref f13))) (l13 : K.lookup f13 = some ⟨oc13, od13, .func (PySem.W.fnOf "_law_same_cells" "_law_same_cells" (defArgs s_law_same_cells) (defBody s_law_same_cells) (defScope s_law_same_cells) .none kV13 dc13 pm13 an13 cd13 ct13), sl13⟩) (c13 : PySem.W.codeIn K cd13 "_law_same_cells" = true) (k13 : PySem.W.keepIn K (.ref f13) = true)
    (a14 : PySem.W.nsIn K mainGlobals "_law_turned" = some (some (.ref f14))) (l14 : K.lookup f14 = some ⟨oc14, od14, .func (PySem.W.fnOf "_law_turned" "_law_turned" (defArgs s_law_turned) (defBody s_law_turned) (defScope s_law_turned) .none kV14 dc14 pm14 an14 cd14 ct14), sl14⟩) (c14 : PySem.W.codeIn K cd14 "_law_turned" = true) (k14 : PySem.W.keepIn K (.ref f14) = true)
    (a15 : PySem.W.nsIn K mainGlobals "law" = some (some (.ref f15))) (l15 : K.lookup f15 = some ⟨oc15, od15, .func (PySem.W.fnOf "law" "law" (defArgs s_law) (defBody s_law) (defScope s_law) .none kV15 dc15 pm15 an15 cd15 ct15), sl15⟩) (c15 : PySem.W.codeIn K cd15 "law" = true) (k15 : PySem.W.keepIn K (.ref f15) = true)
    (z_bool : PySem.W.nsIn K mainGlobals "bool" = some none)
    (z_enumerate : PySem.W.nsIn K mainGlobals "enumerate" = some none)
    (z_int : PySem.W.nsIn K mainGlobals "int" = some none)
    (z_isinstance : PySem.W.nsIn K mainGlobals "isinstance" = some none)
    (z_len : PySem.W.nsIn K mainGlobals "len" = some none)
    (z_list : PySem.W.nsIn K mainGlobals "list" = some none)
    (z_min : PySem.W.nsIn K mainGlobals "min" = some none)
    (z_range : PySem.W.nsIn K mainGlobals "range" = some none)
    (z_sorted : PySem.W.nsIn K mainGlobals "sorted" = some none)
    (z_tuple : PySem.W.nsIn K mainGlobals "tuple" = some none)
    : ∃ fd : FuncData, (∀ (s : Shared) (v : Value), BindsTo s fd ⟨[v], []⟩ [("_law_script", v)]) ∧ ∀ base : Heap, K.In base → base.Ns mainGlobals mg → FnOk l.prog w K mg base CX0 4 fa fd ["_law_script"] (spLaw K) := by
  have e := hfa.symm.trans (PySem.W.mg_of X G a15)
  cases e
  have bl : Blt mg := ⟨PySem.W.mg_none_of X G z_bool, PySem.W.mg_none_of X G z_enumerate, PySem.W.mg_none_of X G z_int, PySem.W.mg_none_of X G z_isinstance, PySem.W.mg_none_of X G z_len, PySem.W.mg_none_of X G z_list, PySem.W.mg_none_of X G z_min, PySem.W.mg_none_of X G z_range, PySem.W.mg_none_of X G z_sorted, PySem.W.mg_none_of X G z_tuple⟩
  have T0 := fun_mk (st := s_turned_once) l0 c0 k0
  have b0 := T0.binds (ps := ["cell"]) fun _ _ _ _ _ _ us hl => match us, hl with | [_], _ => rfl
  have T1 := fun_mk (st := s_turned_cell) l1 c1 k1
  have b1 := T1.binds (ps := ["cell", "way"]) fun _ _ _ _ _ _ us hl => match us, hl with | [_, _], _ => rfl
  have T2 := fun_mk (st := s_at_corner) l2 c2 k2
  have b2 := T2.binds (ps := ["cells"]) fun _ _ _ _ _ _ us hl => match us, hl with | [_], _ => rfl
  have T3 := fun_mk (st := s_turned) l3 c3 k3
  have b3 := T3.binds (ps := ["cells", "way"]) fun _ _ _ _ _ _ us hl => match us, hl with | [_, _], _ => rfl
  have T4 := fun_mk (st := s_law_cell) l4 c4 k4
  have b4 := T4.binds (ps := ["_law_script", "_law_k"]) fun _ _ _ _ _ _ us hl => match us, hl with | [_, _], _ => rfl
  have T5 := fun_mk (st := s_law_purse) l5 c5 k5
  have b5 := T5.binds (ps := ["_law_cell_here", "_law_way"]) fun _ _ _ _ _ _ us hl => match us, hl with | [_, _], _ => rfl
  have T6 := fun_mk (st := s_law_take) l6 c6 k6
  have b6 := T6.binds (ps := ["_law_purse_here", "_law_many"]) fun _ _ _ _ _ _ us hl => match us, hl with | [_, _], _ => rfl
  have T7 := fun_mk (st := s_law_beside) l7 c7 k7
  have b7 := T7.binds (ps := ["_law_cell_here"]) fun _ _ _ _ _ _ us hl => match us, hl with | [_], _ => rfl
  have T8 := fun_mk (st := s_law_stretches) l8 c8 k8
  have b8 := T8.binds (ps := ["_law_cell_here", "_law_cells"]) fun _ _ _ _ _ _ us hl => match us, hl with | [_, _], _ => rfl
  have T9 := fun_mk (st := s_law_coal) l9 c9 k9
  have b9 := T9.binds (ps := ["_law_purse_here", "_law_most"]) fun _ _ _ _ _ _ us hl => match us, hl with | [_, _], _ => rfl
  have T10 := fun_mk (st := s_law_moved) l10 c10 k10
  have b10 := T10.binds (ps := ["_law_cells", "_law_right", "_law_low"]) fun _ _ _ _ _ _ us hl => match us, hl with | [_, _, _], _ => rfl
  have T11 := fun_mk (st := s_law_far) l11 c11 k11
  have b11 := T11.binds (ps := ["_law_cell_here"]) fun _ _ _ _ _ _ us hl => match us, hl with | [_], _ => rfl
  have T12 := fun_mk (st := s_law_whole) l12 c12 k12
  have b12 := T12.binds (ps := ["_law_found"]) fun _ _ _ _ _ _ us hl => match us, hl with | [_], _ => rfl
  have T13 := fun_mk (st := s_law_same_cells) l13 c13 k13
  have b13 := T13.binds (ps := ["_law_found", "_law_due"]) fun _ _ _ _ _ _ us hl => match us, hl with | [_, _], _ => rfl
  have T14 := fun_mk (st := s_law_turned) l14 c14 k14
  have b14 := T14.binds (ps := ["_law_cells", "_law_way"]) fun _ _ _ _ _ _ us hl => match us, hl with | [_, _], _ => rfl
  have T15 := fun_mk (st := s_law) l15 c15 k15
  have b15 := T15.binds (ps := ["_law_script"]) fun _ _ _ _ _ _ us hl => match us, hl with | [_], _ => rfl
  refine ⟨PySem.W.fnOf "law" "law" (defArgs s_law) (defBody s_law) (defScope s_law) .none kV15 dc15 pm15 an15 cd15 ct15, fun s v => .of_eq rfl, fun base _ _ => ?_⟩
  have G_turned_once : Fn l.prog w K mg base 1 "turned_once" ["cell"] (sp_turned_once K) := ⟨_, _, ok_turned_once T0 bl , b0, k0, PySem.W.mg_of X G a0⟩
  have G_turned_cell : Fn l.prog w K mg base 2 "turned_cell" ["cell", "way"] (sp_turned_cell K) := ⟨_, _, ok_turned_cell T1 bl G_turned_once, b1, k1, PySem.W.mg_of X G a1⟩
  have G_at_corner : Fn l.prog w K mg base 1 "at_corner" ["cells"] (sp_at_corner K) := ⟨_, _, ok_at_corner T2 bl , b2, k2, PySem.W.mg_of X G a2⟩
  have G_turned : Fn l.prog w K mg base 3 "turned" ["cells", "way"] (sp_turned K) := ⟨_, _, ok_turned T3 bl G_at_corner G_turned_cell, b3, k3, PySem.W.mg_of X G a3⟩
  have G_law_cell : Fn l.prog w K mg base 1 "_law_cell" ["_law_script", "_law_k"] (sp_law_cell K) := ⟨_, _, ok_law_cell T4 bl , b4, k4, PySem.W.mg_of X G a4⟩
  have G_law_purse : Fn l.prog w K mg base 1 "_law_purse" ["_law_cell_here", "_law_way"] (sp_law_purse K) := ⟨_, _, ok_law_purse T5 bl , b5, k5, PySem.W.mg_of X G a5⟩
  have G_law_take : Fn l.prog w K mg base 1 "_law_take" ["_law_purse_here", "_law_many"] (sp_law_take K) := ⟨_, _, ok_law_take T6 bl , b6, k6, PySem.W.mg_of X G a6⟩
  have G_law_beside : Fn l.prog w K mg base 1 "_law_beside" ["_law_cell_here"] (sp_law_beside K) := ⟨_, _, ok_law_beside T7 bl , b7, k7, PySem.W.mg_of X G a7⟩
  have G_law_stretches : Fn l.prog w K mg base 2 "_law_stretches" ["_law_cell_here", "_law_cells"] (sp_law_stretches K) := ⟨_, _, ok_law_stretches T8 bl G_law_beside, b8, k8, PySem.W.mg_of X G a8⟩
  have G_law_coal : Fn l.prog w K mg base 3 "_law_coal" ["_law_purse_here", "_law_most"] (sp_law_coal K) := ⟨_, _, ok_law_coal T9 bl G_law_take G_law_beside G_law_stretches, b9, k9, PySem.W.mg_of X G a9⟩
  have G_law_moved : Fn l.prog w K mg base 1 "_law_moved" ["_law_cells", "_law_right", "_law_low"] (sp_law_moved K) := ⟨_, _, ok_law_moved T10 bl , b10, k10, PySem.W.mg_of X G a10⟩
  have G_law_far : Fn l.prog w K mg base 1 "_law_far" ["_law_cell_here"] (sp_law_far K) := ⟨_, _, ok_law_far T11 bl , b11, k11, PySem.W.mg_of X G a11⟩
  have G_law_whole : Fn l.prog w K mg base 1 "_law_whole" ["_law_found"] (sp_law_whole K) := ⟨_, _, ok_law_whole T12 bl , b12, k12, PySem.W.mg_of X G a12⟩
  have G_law_same_cells : Fn l.prog w K mg base 2 "_law_same_cells" ["_law_found", "_law_due"] (sp_law_same_cells K) := ⟨_, _, ok_law_same_cells T13 bl G_law_whole, b13, k13, PySem.W.mg_of X G a13⟩
  have G_law_turned : Fn l.prog w K mg base 1 "_law_turned" ["_law_cells", "_law_way"] (sp_law_turned K) := ⟨_, _, ok_law_turned T14 bl , b14, k14, PySem.W.mg_of X G a14⟩
  exact ok_law T15 bl G_law_cell G_law_coal G_law_moved G_law_purse G_law_far G_law_turned G_turned G_law_same_cells
theorem walk {l : PySem.W.OpenLaw} {q : Program} {loose : List Str} {XP : (Str → Option Value) → Heap → Prop} {YP : World → Heap → Prop} {d : DefRec} {K : Params → PySem.W.Frag} (hn : l.most = some 63) (hdf : d.params.defaults = [])
    (hY : ∀ (w : World) (h : Heap), YP w h → (K w.params).In h)
    (F : ∀ (w : World) (mg : Str → Option Value) (fa : Addr) (h : Heap), (K w.params).In h → h.Ns mainGlobals mg → mg d.name = some (.ref fa) →
      ∃ fd : FuncData, (∀ (s : Shared) (u : Value), BindsTo s fd ⟨[u], []⟩ [("_law_script", u)]) ∧ ∀ base : Heap, (K w.params).In base → base.Ns mainGlobals mg → FnOk l.prog w (K w.params) mg base CX0 4 fa fd ["_law_script"] (spLaw (K w.params))) :
    PySem.W.WalkO q loose XP YP l.row.toRowW d [] (fun f vs => PySem.call f vs) :=
  L2.walk_of (n := 63) (k := 4) (x := "_law_script") (CX := fun _ => CX0) (sp := fun w => spLaw (K w.params)) hn (by decide) hdf ⟨rfl, by decide, by decide⟩ hY F (fun _ _ a ns hl _ hS => ⟨a, ns, rfl, hS, hl, fun _ => rfl⟩) fun _ _ _ _ _ z => z

end My
open PySem PySem.W PyProof.Rows
set_option maxRecDepth 100000 in
set_option maxHeartbeats 0 in
theorem PySem.Challenge.cw_sootring_k05_turned_holds : PySem.Challenge.rw_sootring_k05_turned.Holds := by
  w_on; o_law; k_head; (case hw => w_witness2)
  k_fill
  refine My.walk (l := PySem.Challenge.rw_sootring_k05_turned) rfl rfl (fun w h Y => PySem.W.kIn_of Y) ?F
  case F =>
    intro w mg fa h KX G hmg
    refine' My.all_mk KX G hmg ?a0 ?l0 ?c0 ?k0 ?a1 ?l1 ?c1 ?k1 ?a2 ?l2 ?c2 ?k2 ?a3 ?l3 ?c3 ?k3 ?a4 ?l4 ?c4 ?k4 ?a5 ?l5 ?c5 ?k5 ?a6 ?l6 ?c6 ?k6 ?a7 ?l7 ?c7 ?k7 ?a8 ?l8 ?c8 ?k8 ?a9 ?l9 ?c9 ?k9 ?a10 ?l10 ?c10 ?k10 ?a11 ?l11 ?c11 ?k11 ?a12 ?l12 ?c12 ?k12 ?a13 ?l13 ?c13 ?k13 ?a14 ?l14 ?c14 ?k14 ?a15 ?l15 ?c15 ?k15 ?z_bool ?z_enumerate ?z_int ?z_isinstance ?z_len ?z_list ?z_min ?z_range ?z_sorted ?z_tuple
    (case a0 => k_is)
    (case l0 => k_is)
    (case c0 => k_is)
    (case k0 => k_is)
    (case a1 => k_is)
    (case l1 => k_is)
    (case c1 => k_is)
    (case k1 => k_is)
    (case a2 => k_is)
    (case l2 => k_is)
    (case c2 => k_is)
    (case k2 => k_is)
    (case a3 => k_is)
    (case l3 => k_is)
    (case c3 => k_is)
    (case k3 => k_is)
    (case a4 => k_is)
    (case l4 => k_is)
    (case c4 => k_is)
    (case k4 => k_is)
    (case a5 => k_is)
    (case l5 => k_is)
    (case c5 => k_is)
    (case k5 => k_is)
    (case a6 => k_is)
    (case l6 => k_is)
    (case c6 => k_is)
    (case k6 => k_is)
    (case a7 => k_is)
    (case l7 => k_is)
    (case c7 => k_is)
    (case k7 => k_is)
    (case a8 => k_is)
    (case l8 => k_is)
    (case c8 => k_is)
    (case k8 => k_is)
    (case a9 => k_is)
    (case l9 => k_is)
    (case c9 => k_is)
    (case k9 => k_is)
    (case a10 => k_is)
    (case l10 => k_is)
    (case c10 => k_is)
    (case k10 => k_is)
    (case a11 => k_is)
    (case l11 => k_is)
    (case c11 => k_is)
    (case k11 => k_is)
    (case a12 => k_is)
    (case l12 => k_is)
    (case c12 => k_is)
    (case k12 => k_is)
    (case a13 => k_is)
    (case l13 => k_is)
    (case c13 => k_is)
    (case k13 => k_is)
    (case a14 => k_is)
    (case l14 => k_is)
    (case c14 => k_is)
    (case k14 => k_is)
    (case a15 => k_is)
    (case l15 => k_is)
    (case c15 => k_is)
    (case k15 => k_is)
    (case z_bool => k_is)
    (case z_enumerate => k_is)
    (case z_int => k_is)
    (case z_isinstance => k_is)
    (case z_len => k_is)
    (case z_list => k_is)
    (case z_min => k_is)
    (case z_range => k_is)
    (case z_sorted => k_is)
    (case z_tuple => k_is)
