import PyProof.Rows.All
import Wide.All
import OpenK.AllK
import Wide.FinOn
import Lean
import PyProof.EqAt
import PyProof.EqKinds
import PyProof.TupleCall
import PyProof.ConsumeWalk
import PySem.Challenge.RW_sootring_k23_determinants
namespace Hex
end Hex
set_option Elab.async false
set_option linter.all false
set_option maxRecDepth 100000
namespace L2
open PySem PySem.Spec PyProof.Rows
abbrev Key := Sum Int Str
def keyIs : Key -> Value -> Bool
 | .inl k, v => Value.isInt k v
 | .inr x, v => Value.isStrOf x v
def keyH (w : World) : Key -> Int
 | .inl k => hashInt k
 | .inr x => hashStr w x
theorem keyIs_shape : ∀ {k : Key} {v : Value}, keyIs k v = true -> (∃ i t, k = Sum.inl i /\ v = Value.int i t) \/ (∃ x t, k = Sum.inr x /\ v = Value.str x t)
 | .inl i, v, h => by
  obtain ⟨t, e⟩ := Value.isInt_shape (k := i) (v := v) h
  exact .inl ⟨i, t, rfl, e⟩
 | .inr x, v, h => by
  obtain ⟨t, e⟩ := Value.isStrOf_shape (x := x) (v := v) h
  exact .inr ⟨x, t, rfl, e⟩
theorem key_ll (a b : Int) : decide ((Sum.inl a : Key) = Sum.inl b) = (a == b) := by
 by_cases e : a = b
 ·subst e; simp
 ·have h : ¬ (Sum.inl a : Key) = Sum.inl b := fun q => e (Sum.inl.inj q)
  rw [decide_eq_false h]
  exact (beq_eq_false_iff_ne.mpr e).symm
theorem key_rr (a b : Str) : decide ((Sum.inr a : Key) = Sum.inr b) = decide (a = b) := by
 by_cases e : a = b
 ·subst e; simp
 ·have h : ¬ (Sum.inr a : Key) = Sum.inr b := fun q => e (Sum.inr.inj q)
  rw [decide_eq_false h, decide_eq_false e]
theorem key_lr (a : Int) (b : Str) : decide ((Sum.inl a : Key) = Sum.inr b) = false := decide_eq_false (fun q => nomatch q)
theorem key_rl (a : Str) (b : Int) : decide ((Sum.inr a : Key) = Sum.inl b) = false := decide_eq_false (fun q => nomatch q)
def mixKind (prog : Program) (w : World) : PySem.KeyKind prog w Key where
 is := keyIs
 hash := keyH w
 inj := fun v a b ha hb => by
  rcases keyIs_shape ha with ⟨i, t, rfl, rfl⟩ | ⟨x, t, rfl, rfl⟩
  ·rcases keyIs_shape hb with ⟨j, u, rfl, e⟩ | ⟨y, u, rfl, e⟩
   ·injection e with e1 _; rw [e1]
   ·exact nomatch e
  ·rcases keyIs_shape hb with ⟨j, u, rfl, e⟩ | ⟨y, u, rfl, e⟩
   ·exact nomatch e
   ·injection e with e1 _; rw [e1]
 byValue := fun k v h => by
  rcases keyIs_shape h with ⟨i, t, rfl, rfl⟩ | ⟨x, t, rfl, rfl⟩ <;> rfl
 pyHash := fun hv h => by
  rcases keyIs_shape hv with ⟨i, t, rfl, rfl⟩ | ⟨x, t, rfl, rfl⟩
  ·exact wpAny_pyHash_int h
  ·exact wpAny_pyHash_str h
 eqBool := fun hu hv h => by
  rcases keyIs_shape hu with ⟨i, t, rfl, rfl⟩ | ⟨x, t, rfl, rfl⟩
  ·rcases keyIs_shape hv with ⟨j, u, rfl, rfl⟩ | ⟨y, u, rfl, rfl⟩
   ·rw [key_ll] at h; exact wpAny_eqBool_int h
   ·rw [key_lr] at h; exact SeqAt.EqAt.int_str i t y u _ _ _ _ h
  ·rcases keyIs_shape hv with ⟨j, u, rfl, rfl⟩ | ⟨y, u, rfl, rfl⟩
   ·rw [key_rl] at h; exact SeqAt.EqAt.str_int x t j u _ _ _ _ h
   ·rw [key_rr] at h; exact wpAny_eqBool_str h
 «strs» := fun k x t v h => by
  rcases keyIs_shape h with ⟨i, u, rfl, e⟩ | ⟨y, u, rfl, e⟩
  ·exact nomatch e
  ·injection e with e1 _
   subst e1
   cases v <;> rfl
end L2
namespace L2
open PySem PySem.Spec PyProof.Rows
inductive V where
 | non | bl (b : Bool) | int (i : Int) | str (x : Str) | byt (b : Array UInt8) | flt (b : UInt64) | ref (a : Addr) | ty (n : String)
 deriving DecidableEq
def RelV : V -> Value -> Prop
 | .non, u => u = Value.none
 | .bl b, u => u = Value.bool b
 | .int i, u => ∃ t, u = Value.int i t
 | .str x, u => ∃ t, u = Value.str x t
 | .byt b, u => ∃ t, u = Value.bytes b t
 | .flt b, u => ∃ t, u = Value.float b t
 | .ref a, u => u = Value.ref a
 | .ty n, u => u = Value.type n
abbrev Vals : List V -> List Value -> Prop := Paired RelV
theorem Vals.length {xs : List V} {us : List Value} (r : Vals xs us) : xs.length = us.length := Paired.length r
theorem Vals.get : ∀ {xs : List V} {us : List Value} {i : Nat} {x : V}, Vals xs us -> xs[i]? = some x -> ∃ u, us[i]? = some u /\ RelV x u
 | _, _, _, _, .nil, e => by simp at e
 | _, _, 0, _, .cons r _, e => by simp at e; subst e; exact ⟨_, rfl, r⟩
 | _, _, i + 1, x, .cons _ t, e => by
  obtain ⟨u, h1, h2⟩ := Vals.get (i := i) (x := x) t (by simpa using e)
  exact ⟨u, by simpa using h1, h2⟩
theorem Vals.set {x : V} {u : Value} (r : RelV x u) : ∀ {xs : List V} {us : List Value} (i : Nat), Vals xs us -> Vals (xs.set i x) (us.set i u)
 | _, _, _, .nil => .nil
 | _, _, 0, .cons _ t => .cons r t
 | _, _, i + 1, .cons q t => .cons q (Vals.set r i t)
theorem Vals.append : ∀ {xs ys : List V} {us ws : List Value}, Vals xs us -> Vals ys ws -> Vals (xs ++ ys) (us ++ ws)
 | _, _, _, _, .nil, s => s
 | _, _, _, _, .cons r t, s => .cons r (Vals.append t s)
theorem Vals.take : ∀ {xs : List V} {us : List Value} (n : Nat), Vals xs us -> Vals (xs.take n) (us.take n)
 | _, _, 0, _ => .nil
 | _, _, _ + 1, .nil => .nil
 | _, _, n + 1, .cons r t => .cons r (Vals.take n t)
theorem Vals.drop : ∀ {xs : List V} {us : List Value} (n : Nat), Vals xs us -> Vals (xs.drop n) (us.drop n)
 | _, _, 0, r => r
 | _, _, _ + 1, .nil => .nil
 | _, _, n + 1, .cons _ t => Vals.drop n t
def RelO : Option V -> Option Value -> Prop
 | some v, some u => RelV v u
 | none, none => True
 | _, _ => False
def KV {κ : Type} : List (κ × V) -> List (κ × Value) -> Prop := Paired fun (p : κ × V) (q : κ × Value) => p.1 = q.1 /\ RelV p.2 q.2
def kV : Key -> V
 | .inl i => .int i
 | .inr x => .str x
inductive HO where
 | lst (xs : List V)
 | tup (xs : List V)
 | dK (kvs : List (Key × V)) | dT (kvs : List (List Key × V))
 | set (S : Int -> Bool) (n : Nat)
 | ins (C dx : Addr) (fs : List (Str × V))
 | own (x : Addr)
 | xd (fs : List (Str × V))
 | met (f x : Addr)
 | rng (lo hi : Int)
 | frz (o : Obj) (u : HO)
 | tbl (ps : Array Value)
 | ext (φ : Heap -> Prop)
abbrev Hp := Addr -> Option HO
def upd (H : Hp) (a : Addr) (o : HO) : Hp := fun b => if b = a then some o else H b
theorem upd_same {H : Hp} {a : Addr} {o : HO} : upd H a o a = some o := by unfold upd; rw [if_pos rfl]
theorem upd_ne {H : Hp} {a b : Addr} {o : HO} (h : b ≠ a) : upd H a o b = H b := by unfold upd; rw [if_neg h]
theorem upd_upd {H : Hp} {a : Addr} {o u : HO} : upd (upd H a o) a u = upd H a u := by
 funext b; unfold upd; split <;> rfl
theorem ne_of_none {H : Hp} {a b : Addr} {o : HO} (h : H a = some o) (h' : H b = none) : a ≠ b := by
 intro e; subst e; rw [h] at h'; cases h'
section
variable (P : Program) (w : World)
def ObjOk (H : Hp) (h : Heap) (a : Addr) : HO -> Prop
 | .lst xs => xs.length <= sizeLine /\ ∃ (its : List Value) (n : Nat), Vals xs its /\ h.get? a = some { cls := .type "list", data := .seq its.toArray n }
 | .tup xs => xs.length <= sizeLine /\ ∃ its : List Value, Vals xs its /\ IsTup h a its.toArray
 | .dK kvs => kvs.length <= sizeLine /\ (a == sysModules) = false /\ ∃ vs, KV kvs vs /\ h.DictOf (mixKind P w) a vs
 | .dT kvs => kvs.length <= sizeLine /\ (a == sysModules) = false /\ ∃ xs : List (List Key × Addr × Value),
   Paired (fun (p : List Key × V) (q : List Key × Addr × Value) => p.1 = q.1 /\ H q.2.1 = some (.tup (p.1.map kV)) /\ RelV p.2 q.2.2) kvs xs /\
   ∃ o es ep, h.get? a = some o /\ o.ExactDict /\ o.data = .dict es ep /\ es.toList = xs.map (entryOfKey (tupleKind (mixKind P w))) /\ (xs.map (·.1)).Nodup
 | .set S n => h.SetOf (intKind P w) a S n
 | .ins C dx fs => H dx = some (.own a) /\ fs.length <= 1000 /\ dx ≠ a /\ h.get? a = some (PySem.W.instObj C dx) /\
   ∃ mA, h.Ns1 dx mA /\ (∀ f, RelO (fs.lookup f) (mA f)) /\ PySem.Within mA (fs.map (·.1))
 | .own _ => ∃ o, h.get? a = some o
 | .xd fs => ∃ mA, h.Ns1 a mA /\ ∀ f, RelO (fs.lookup f) (mA f)
 | .rng lo hi => ∃ t u v, h.get? a = some { cls := .type "range", data := .fields #[.int lo t, .int hi u, .int 1 v] }
 | .frz o u => h.get? a = some o /\ ObjOk H h a u
 | .tbl ps => h.get? a = some { cls := .none, data := .fields ps }
 | .met f x => h.get? a = some (PySem.W.methodObj (.ref f) (.ref x))
 | .ext φ => φ h /\ (∃ o, h.get? a = some o) /\ ∀ h1 h2 : Heap, φ h1 -> (∀ o, h1.get? a = some o -> h2.get? a = some o) -> φ h2
def HOk (H : Hp) (h : Heap) : Prop := ∀ a o, H a = some o -> ObjOk P w H h a o
end
section
variable {P : Program} {w : World} {H H' : Hp} {h h' : Heap} {a : Addr} {o : HO}
theorem ObjOk.lt (x : ObjOk P w H h a o) : a < h.objs.size := by
 cases o with
 | lst xs => obtain ⟨_, _, _, _, e⟩ := x; exact Heap.lt_size e
 | tup xs => obtain ⟨_, _, _, p⟩ := x; exact p.lt
 | dK kvs => obtain ⟨_, _, _, _, o, _, _, e, _⟩ := x; exact Heap.lt_size e
 | dT kvs => obtain ⟨_, _, _, _, o, _, _, e, _⟩ := x; exact Heap.lt_size e
 | set S n => obtain ⟨o, _, _, _, e, _⟩ := x; exact Heap.lt_size e
 | ins C dx fs => obtain ⟨_, _, _, e, _⟩ := x; exact Heap.lt_size e
 | own y => obtain ⟨_, e⟩ := x; exact Heap.lt_size e
 | xd fs => obtain ⟨_, ⟨_, _, _, e, _⟩, _⟩ := x; exact Heap.lt_size e
 | rng lo hi => obtain ⟨_, _, _, e⟩ := x; exact Heap.lt_size e
 | frz ob u => obtain ⟨e, _⟩ := x; exact Heap.lt_size e
 | tbl ps => exact Heap.lt_size (show h.get? a = some _ from x)
 | met f y => exact Heap.lt_size (show h.get? a = some _ from x)
 | ext φ => obtain ⟨_, ⟨_, e⟩, _⟩ := x; exact Heap.lt_size e
theorem Paired.mapP {α β : Type} {F G : α -> β -> Prop} : ∀ {l₁ : List α} {l₂ : List β}, Paired F l₁ l₂ -> (∀ a b, F a b -> G a b) -> Paired G l₁ l₂
 | _, _, .nil, _ => .nil
 | _, _, .cons r t, f => .cons (f _ _ r) (Paired.mapP t f)
theorem Paired.imp' {α β : Type} {F G : α -> β -> Prop} (f : ∀ a b, F a b -> G a b) {l₁ : List α} {l₂ : List β} (r : Paired F l₁ l₂) : Paired G l₁ l₂ := Paired.mapP r f
theorem ObjOk.stay (x : ObjOk P w H h a o) (k : ∀ b u, (b = a \/ H b = some (.own a)) -> h.get? b = some u -> h'.get? b = some u)
  (ho : ∀ b, H b = some (.own a) -> H' b = some (.own a)) (ht : ∀ b xs, H b = some (.tup xs) -> H' b = some (.tup xs)) : ObjOk P w H' h' a o := by
 induction o with
 | lst xs => obtain ⟨z, its, n, r, e⟩ := x; exact ⟨z, its, n, r, k _ _ (.inl rfl) e⟩
 | tup xs => obtain ⟨z, its, r, ob, e, c⟩ := x; exact ⟨z, its, r, ob, k _ _ (.inl rfl) e, c⟩
 | dK kvs => obtain ⟨z, y, vs, r, ob, es, ep, e, c⟩ := x; exact ⟨z, y, vs, r, ob, es, ep, k _ _ (.inl rfl) e, c⟩
 | dT kvs =>
  obtain ⟨z, y, xs, r, ob, es, ep, e, c⟩ := x
  exact ⟨z, y, xs, Paired.mapP r fun p q z => ⟨z.1, ht _ _ z.2.1, z.2.2⟩, ob, es, ep, k _ _ (.inl rfl) e, c⟩
 | set S n => obtain ⟨ob, es, ep, t, e, c⟩ := x; exact ⟨ob, es, ep, t, k _ _ (.inl rfl) e, c⟩
 | ins C dx fs =>
  obtain ⟨d, z, ne, e, mA, ⟨od, es, ep, e2, c⟩, r⟩ := x
  exact ⟨ho _ d, z, ne, k _ _ (.inl rfl) e, mA, ⟨od, es, ep, k _ _ (.inr d) e2, c⟩, r⟩
 | own y => obtain ⟨ob, e⟩ := x; exact ⟨ob, k _ _ (.inl rfl) e⟩
 | xd fs => obtain ⟨mA, ⟨od, es, ep, e, c⟩, r⟩ := x; exact ⟨mA, ⟨od, es, ep, k _ _ (.inl rfl) e, c⟩, r⟩
 | rng lo hi => obtain ⟨t, u, v, e⟩ := x; exact ⟨t, u, v, k _ _ (.inl rfl) e⟩
 | frz ob u ih => obtain ⟨e, q⟩ := x; exact ⟨k _ _ (.inl rfl) e, ih q⟩
 | tbl ps =>
  have e : h.get? a = some { cls := .none, data := .fields ps } := x
  show h'.get? a = some { cls := .none, data := .fields ps }
  exact k a _ (.inl rfl) e
 | met f y =>
  have e : h.get? a = some (PySem.W.methodObj (.ref f) (.ref y)) := x
  show h'.get? a = some (PySem.W.methodObj (.ref f) (.ref y))
  exact k a _ (.inl rfl) e
 | ext φ => obtain ⟨p, ⟨o, e⟩, st⟩ := x; exact ⟨st _ _ p fun o q => k _ _ (.inl rfl) q, ⟨o, k _ _ (.inl rfl) e⟩, st⟩
theorem HOk.lt (x : HOk P w H h) (e : H a = some o) : a < h.objs.size := (x a o e).lt
theorem HOk.fresh (x : HOk P w H h) (e : h.objs.size <= a) : H a = none := by
 cases q : H a with
 | none => rfl
 | some u => exact absurd (Nat.lt_of_lt_of_le (x.lt q) e) (Nat.lt_irrefl _)
theorem HOk.kept (x : HOk P w H h) (k : ∀ b u, h.get? b = some u -> h'.get? b = some u) : HOk P w H h' := fun a o e =>
 (x a o e).stay (fun b u _ q => k b u q) (fun _ q => q) fun _ _ q => q
theorem HOk.laid (x : HOk P w H h) (k : ∀ b u, h.get? b = some u -> h'.get? b = some u) (hp : h.objs.size <= a) (new : ObjOk P w (upd H a o) h' a o) : HOk P w (upd H a o) h' := fun b u e => by
 have hn := x.fresh hp
 by_cases hb : b = a
 ·subst hb; rw [upd_same] at e; cases e; exact new
 ·rw [upd_ne hb] at e
  exact (x b u e).stay (fun c v _ q => k c v q) (fun c q => by rw [upd_ne (ne_of_none q hn)]; exact q) fun c xs q => by rw [upd_ne (ne_of_none q hn)]; exact q
end
def Rd (H : Hp) (a : Addr) (u : HO) : Prop := H a = some u \/ ∃ o, H a = some (.frz o u)
theorem Rd.ok {P : Program} {w : World} {H : Hp} {h : Heap} {a : Addr} {u : HO} (r : Rd H a u) (x : HOk P w H h) : ObjOk P w H h a u := by
 rcases r with r | ⟨o, r⟩
 ·exact x a u r
 ·obtain ⟨_, q⟩ := x a _ r
  exact q
def Mut : Option HO -> Prop
 | some (.lst _) => True
 | some (.dK _) => True
 | some (.dT _) => True
 | some (.set _ _) => True
 | some (.ins _ _ _) => True
 | some (.ext _) => True
 | _ => False
section
variable {P : Program} {w : World} {H : Hp} {h h' : Heap} {x e : Addr} {o' : HO}
theorem HOk.write (ok : HOk P w H h) (mu : Mut (H x)) (he : e = x \/ H e = some (.own x)) (k : ∀ b u, b ≠ e -> h.get? b = some u -> h'.get? b = some u) (heo : ∃ u, h'.get? e = some u)
  (new : ObjOk P w (upd H x o') h' x o') : HOk P w (upd H x o') h' := fun b u q => by
 have nown : ∀ c y, H c = some (.own y) -> c ≠ x := fun c y r z => by subst z; rw [r] at mu; exact mu
 have ntup : ∀ c xs, H c = some (.tup xs) -> c ≠ x := fun c xs r z => by subst z; rw [r] at mu; exact mu
 by_cases hb : b = x
 ·subst hb; rw [upd_same] at q; cases q; exact new
 ·rw [upd_ne hb] at q
  by_cases hbe : b = e
  ·have q' : H b = some (.own x) := by
    rcases he with z | z
    ·exact absurd (hbe.trans z) hb
    ·rw [hbe]; exact z
   rw [q] at q'; cases q'
   obtain ⟨v, hv⟩ := heo
   exact ⟨v, by rw [hbe]; exact hv⟩
  ·refine (ok b u q).stay (fun c v hc r => k c v ?_ r) (fun c r => by rw [upd_ne (nown c b r)]; exact r) fun c xs r => by rw [upd_ne (ntup c xs r)]; exact r
   rcases hc with rfl | hc
   ·exact hbe
   ·rintro rfl
    rcases he with z | z
    ·exact nown c b hc z
    ·rw [hc] at z; cases z; exact hb rfl
end
structure Un (fs ex : List Addr) (H H' : Hp) (h h' : Heap) : Prop where
 keep : ∀ b o, h.get? b = some o -> H b = none -> b ∉ fs -> b ∉ ex -> h'.get? b = some o
 slot : ∀ b o, h.get? b = some o -> H b = none -> b ∈ fs -> b ∉ ex -> ∃ sl, h'.get? b = some { o with slots := sl }
 free : ∀ b o, h.get? b = some o -> H b = none -> b ∉ ex -> H' b = none
 there : ∀ b o, h.get? b = some o -> b ∉ ex -> ∃ o', h'.get? b = some o'
 tups : ∀ b xs, H b = some (.tup xs) -> H' b = some (.tup xs)
 frzs : ∀ b o u, H b = some (.frz o u) -> H' b = some (.frz o u)
 tbls : ∀ b ps, H b = some (.tbl ps) -> ∃ more, H' b = some (.tbl (ps ++ more))
section
variable {fs fs' ex ex' : List Addr} {H H1 H2 : Hp} {h h1 h2 h' : Heap} {a x e : Addr} {o : HO}
theorem Un.any (u : Un fs ex H H1 h h1) {b : Addr} {ob : Obj} (q : h.get? b = some ob) (n : H b = none) (hx : b ∉ ex) : ∃ sl, h1.get? b = some { ob with slots := sl } := by
 by_cases hb : b ∈ fs
 ·exact u.slot b ob q n hb hx
 ·exact ⟨ob.slots, u.keep b ob q n hb hx⟩
theorem Un.kept (k : ∀ b u, h.get? b = some u -> h'.get? b = some u) : Un fs ex H H h h' :=
 ⟨fun b ob q _ _ _ => k b ob q, fun b ob q _ _ _ => ⟨ob.slots, k b ob q⟩, fun _ _ _ n _ => n, fun b ob q _ => ⟨ob, k b ob q⟩, fun _ _ q => q, fun _ _ _ q => q, fun _ ps q => ⟨#[], by rw [q]; simp⟩⟩
theorem Un.refl : Un fs ex H H h h := Un.kept fun _ _ q => q
theorem Un.laid (k : ∀ b u, h.get? b = some u -> h'.get? b = some u) (hp : h.objs.size <= a) (hn : H a = none) : Un fs ex H (upd H a o) h h' where
 keep := fun b u q _ _ _ => k b u q
 slot := fun b u q _ _ _ => ⟨u.slots, k b u q⟩
 free := fun b u q n _ => by rw [upd_ne (Nat.ne_of_lt (Nat.lt_of_lt_of_le (Heap.lt_size q) hp))]; exact n
 there := fun b u q _ => ⟨u, k b u q⟩
 tups := fun b xs q => by rw [upd_ne (ne_of_none q hn)]; exact q
 frzs := fun b u xs q => by rw [upd_ne (ne_of_none q hn)]; exact q
 tbls := fun b ps q => ⟨#[], by rw [upd_ne (ne_of_none q hn), q]; simp⟩
theorem Un.write (mu : Mut (H x)) (he : e = x \/ H e = some (.own x)) (k : ∀ b u, b ≠ e -> h.get? b = some u -> h'.get? b = some u) (heo : ∃ u, h'.get? e = some u) : Un fs ex H (upd H x o) h h' := by
 have hx : ∀ b, H b = none -> b ≠ x := fun b n z => by subst z; rw [n] at mu; exact mu
 have hb : ∀ b, H b = none -> b ≠ e := fun b n z => by
  subst z
  rcases he with r | r
  ·exact hx b n r
  ·rw [n] at r; cases r
 have hm : ∀ b u, H b = some u -> ¬ Mut (some u) -> b ≠ x := fun b u q nm z => by subst z; rw [q] at mu; exact nm mu
 refine ⟨fun b u q n _ _ => k b u (hb b n) q, fun b u q n _ _ => ⟨u.slots, k b u (hb b n) q⟩, fun b u q n _ => by rw [upd_ne (hx b n)]; exact n, fun b u q _ => ?_,
  fun b xs q => by rw [upd_ne (hm b _ q fun z => z)]; exact q, fun b u xs q => by rw [upd_ne (hm b _ q fun z => z)]; exact q, fun b ps q => ⟨#[], by rw [upd_ne (hm b _ q fun z => z), q]; simp⟩⟩
 by_cases hbe : b = e
 ·subst hbe; exact heo
 ·exact ⟨u, k b u hbe q⟩
end
def trk (h : Heap) (H : Hp) : List Addr := (List.range h.objs.size).filter fun a => (H a).isSome
def hidT (h : Heap) (H : Hp) : Heap := PySem.W.hideAll h (trk h H)
theorem hidT_size (h : Heap) (H : Hp) : (hidT h H).objs.size = h.objs.size := PySem.W.hideAll_size _ _
theorem hidT_get {h : Heap} {H : Hp} {b : Addr} {o : Obj} (e : h.get? b = some o) (n : H b = none) : (hidT h H).get? b = some o :=
 PySem.W.hideAll_get _ e fun hm => by
  have q : (H b).isSome = true := (List.mem_filter.mp hm).2
  rw [n] at q; simp at q
theorem of_hidT {h : Heap} {H : Hp} {b : Addr} {o : Obj} (e : (hidT h H).get? b = some o) : h.get? b = some o /\ H b = none := by
 have e' : h.get? b = some o := PySem.W.of_hideAll (trk h H) e
 refine ⟨e', ?_⟩
 cases q : H b with
 | none => rfl
 | some x =>
  have hm : b ∈ trk h H := List.mem_filter.mpr ⟨List.mem_range.mpr (Heap.lt_size e'), by simp [q]⟩
  have z : (hidT h H).get? b = none := PySem.W.hideAll_none (trk h H) hm
  rw [z] at e; cases e
end L2
namespace L2
open PySem PySem.Spec PyProof.Rows
structure Mod (K : PySem.W.Frag) (mg : Str -> Option Value) (base : Heap) : Prop where
 kin : K.In base
 glob : base.Ns mainGlobals mg
 blt : ∃ mb, base.Ns builtinsNs mb /\ ∀ x : Str, x ≠ "__name__" -> mb x = bootBuiltins x
 nolimit : base.NoLimit
structure Cx where
 prog : Program
 w : World
 K : PySem.W.Frag
 mg : Str -> Option Value
 base : Heap
 A : Around
 N : List Str
 s₀ : Shared
 H₀ : Hp
 env : Env
 outer : List Env
 stack : List Env
 ex : List Addr
 fn : Str -> Bool
 calm : Bool
 pn : List (Addr × Obj)
 xe : Value -> Shared -> Prop
def frs (l : List Env) : List Addr := l.filterMap (·.frame)
abbrev Cx.fs (X : Cx) : List Addr := frs X.outer
def Vis (sc : Scope) (x : Str) : Prop := sc.names.lookup x = some .local \/ sc.names.lookup x = some .cell \/ sc.names.lookup x = some .free
def Loc (sc : Scope) (x : Str) : Prop := sc.names.lookup x = some .local \/ sc.names.lookup x = some .cell
def Look (env : Env) (h : Heap) (m : Str -> Option Value) (x : Str) (u : Value) : Prop :=
 (env.kindOf x = some .local /\ m x = some u) \/ ((env.kindOf x = some .cell \/ env.kindOf x = some .free) /\ ∃ c, env.cells.lookup x = some c /\ h.IsCell c (some u))
structure Cx.Ok (X : Cx) : Prop where
 mod : Mod X.K X.mg X.base
 kind : X.env.scope.kind = .function
 glob : X.env.globals = mainGlobals
 blt : X.env.builtins = builtinsNs
 above : X.s₀.heap.objs.size <= X.env.locals
 inj : ∀ x y c, X.env.cells.lookup x = some c -> X.env.cells.lookup y = some c -> x = y
 has : ∀ x, (X.env.kindOf x = some .cell \/ X.env.kindOf x = some .free) -> ∃ c, X.env.cells.lookup x = some c
 cab : ∀ x c, X.fn x = true -> X.env.cells.lookup x = some c -> X.s₀.heap.objs.size <= c
 hd : X.calm = true -> X.A.handled = none
 frames : X.A.frames = some X.stack
 stk : X.stack = X.outer \/ (X.stack = X.env :: X.outer /\ X.env.frame = some X.env.locals)
 exf : ∀ b ∈ X.ex, b ≠ X.env.locals /\ ∀ x c, X.env.cells.lookup x = some c -> c ≠ b
 bs : ∀ b o, X.base.get? b = some o -> X.s₀.heap.get? b = some o /\ X.H₀ b = none
 bsz : X.base.objs.size <= X.s₀.heap.objs.size
 noex : ∀ b o, X.base.get? b = some o -> b ∉ X.ex
 exfs : ∀ b ∈ X.ex, b ∉ X.fs
 funs : X.s₀.heap.FunFrames X.base X.outer
 frf : ∀ b ∈ X.fs, X.H₀ b = none
structure Inv (X : Cx) (pins : List (Addr × Obj)) (σ : List (Option V)) (H : Hp) (s : Shared) : Prop where
 ok : X.Ok
 os : s.os = X.s₀.os
 bare : AllBare s.gens
 base : Un X.fs X.ex X.H₀ H X.s₀.heap s.heap
 loc : ∃ m, s.heap.Ns X.env.locals m /\ ∀ (i : Nat) (x : Str) (v : V), X.N[i]? = some x -> σ[i]? = some (some v) -> Vis X.env.scope x -> ∃ u, RelV v u /\ Look X.env s.heap m x u
 cell : ∀ x c, X.env.cells.lookup x = some c -> ∃ v, s.heap.IsCell c v
 free : H X.env.locals = none
 freeC : ∀ x c, X.env.cells.lookup x = some c -> H c = none
 pin : ∀ p ∈ X.pn ++ pins, s.heap.get? p.1 = some p.2 /\ H p.1 = none /\ p.1 ≠ X.env.locals /\ p.1 ∉ X.fs /\ ∀ v, p.2.data ≠ .cell v
 hok : HOk X.prog X.w H s.heap
 len : σ.length = X.N.length
section
variable {X : Cx} {pins : List (Addr × Obj)} {σ : List (Option V)} {H H' : Hp} {s : Shared} {h' : Heap}
theorem Cx.Ok.nofr (ok : X.Ok) {b : Addr} {o : Obj} (e : X.base.get? b = some o) : b ∉ X.fs := fun hb => by
 have := (ok.funs.mem hb).1
 rw [e] at this; cases this
theorem Inv.bs (I : Inv X pins σ H s) : ∀ b o, X.base.get? b = some o -> s.heap.get? b = some o /\ H b = none := fun b o e =>
 ⟨I.base.keep b o (I.ok.bs b o e).1 (I.ok.bs b o e).2 (I.ok.nofr e) (I.ok.noex b o e), I.base.free b o (I.ok.bs b o e).1 (I.ok.bs b o e).2 (I.ok.noex b o e)⟩
theorem Inv.bk (I : Inv X pins σ H s) : ∀ b o, X.base.get? b = some o -> s.heap.get? b = some o := fun b o e => (I.bs b o e).1
theorem Inv.mod (I : Inv X pins σ H s) : Mod X.K X.mg X.base := I.ok.mod
theorem Inv.kIn (I : Inv X pins σ H s) : X.K.In s.heap := I.ok.mod.kin.keeps I.bk
theorem Inv.lt (I : Inv X pins σ H s) : X.env.locals < s.heap.objs.size := let ⟨_, hn, _⟩ := I.loc; hn.lt
theorem Inv.sz (I : Inv X pins σ H s) : X.s₀.heap.objs.size <= s.heap.objs.size := Nat.le_trans I.ok.above (Nat.le_of_lt I.lt)
theorem Inv.nofs (I : Inv X pins σ H s) {a : Addr} (h : s.heap.objs.size <= a) : a ∉ X.fs := fun hb => by
 obtain ⟨_, o, ho, _⟩ := I.ok.funs.mem hb
 exact absurd (Nat.lt_of_lt_of_le (Heap.lt_size ho) (Nat.le_trans I.sz h)) (Nat.lt_irrefl _)
theorem Inv.cne (I : Inv X pins σ H s) : ∀ x c, X.env.cells.lookup x = some c -> c ≠ X.env.locals := fun x c e z => by
 obtain ⟨v, o, ho, hd⟩ := I.cell x c e
 obtain ⟨m, ⟨o', es, ep, ho', hd', _⟩, _⟩ := I.loc
 rw [z, ho'] at ho; cases ho; rw [hd'] at hd; cases hd
theorem Inv.funs (I : Inv X pins σ H s) : s.heap.FunFrames X.base X.outer := by
 have all : ∀ (l : List Env), (∀ b ∈ frs l, b ∈ X.fs) -> X.s₀.heap.FunFrames X.base l -> s.heap.FunFrames X.base l := by
  intro l
  induction l with
  | nil => intro _ _; trivial
  | cons env r ih =>
   intro hs hl
   obtain ⟨hk, ⟨L, o, hf, hn, ho, hd⟩, hr⟩ := hl
   have hL : L ∈ X.fs := hs L (by unfold frs; rw [List.filterMap_cons, hf]; exact List.mem_cons_self)
   obtain ⟨sl, e⟩ := I.base.slot L o ho (I.ok.frf L hL) hL fun z => I.ok.exfs L z hL
   exact ⟨hk, ⟨L, _, hf, hn, e, hd⟩, ih (fun b hb => hs b (by unfold frs; rw [List.filterMap_cons, hf]; exact List.mem_cons_of_mem _ hb)) hr⟩
 exact all X.outer (fun _ hb => hb) I.ok.funs
theorem Inv.stack (I : Inv X pins σ H s) : s.heap.FunFrames X.base X.stack := by
 rcases I.ok.stk with e | ⟨e, hf⟩
 ·rw [e]; exact I.funs
 ·rw [e]
  obtain ⟨m, hn, _⟩ := I.loc
  refine .cons (by rw [I.ok.kind]; decide) hf hn ?_ I.funs
  exact Heap.get?_none_of_le (Nat.le_trans I.ok.bsz I.ok.above)
theorem Inv.stkSub (I : Inv X pins σ H s) : ∀ b ∈ frs X.stack, b ∈ X.env.locals :: X.fs := fun b hb => by
 rcases I.ok.stk with e | ⟨e, hf⟩
 ·rw [e] at hb; exact List.mem_cons_of_mem _ hb
 ·rw [e] at hb
  unfold frs at hb
  rw [List.filterMap_cons, hf] at hb
  exact hb
theorem Inv.stkFree (I : Inv X pins σ H s) : ∀ b ∈ frs X.stack, H b = none := fun b hb => by
 rcases List.mem_cons.mp (I.stkSub b hb) with e | hb
 ·rw [e]; exact I.free
 ·obtain ⟨_, o, ho, _⟩ := I.ok.funs.mem hb
  exact I.base.free b o ho (I.ok.frf b hb) fun z => I.ok.exfs b z hb
theorem Inv.step {g' : Array GenState} {t' : Nat} {d' : Drawn} {ch : List Addr} (I : Inv X pins σ H s)
  (hch : ∀ b ∈ ch, (b ∈ X.ex \/ X.s₀.heap.objs.size <= b) /\ b ≠ X.env.locals /\ (∀ x c, X.env.cells.lookup x = some c -> c ≠ b) /\ ∀ p ∈ X.pn ++ pins, p.1 ≠ b)
  (keep : ∀ b o, b ≠ X.env.locals -> b ∉ X.fs -> b ∉ ch -> s.heap.get? b = some o -> H b = none -> h'.get? b = some o)
  (slot : ∀ b o, b ≠ X.env.locals -> b ∈ X.fs -> b ∉ ch -> s.heap.get? b = some o -> H b = none -> ∃ sl, h'.get? b = some { o with slots := sl }) (free : ∀ b o, b ∉ ch -> s.heap.get? b = some o -> H b = none -> H' b = none)
  (there : ∀ b o, b ∉ ch -> s.heap.get? b = some o -> ∃ o', h'.get? b = some o')
  (tups : ∀ b xs, H b = some (.tup xs) -> H' b = some (.tup xs)) (frzs : ∀ b o u, H b = some (.frz o u) -> H' b = some (.frz o u)) (tbls : ∀ b ps, H b = some (.tbl ps) -> ∃ more, H' b = some (.tbl (ps ++ more)))
  (ns : ∀ m, s.heap.Ns X.env.locals m -> h'.Ns X.env.locals m) (hok : HOk X.prog X.w H' h') (hg : AllBare g') :
  Inv X pins σ H' { s with heap := h', gens := g', drawn := d', toks := t' } := by
 have neL : ∀ b o, X.s₀.heap.get? b = some o -> b ≠ X.env.locals := fun b o e => Nat.ne_of_lt (Nat.lt_of_lt_of_le (Heap.lt_size e) I.ok.above)
 have neC : ∀ b o, X.s₀.heap.get? b = some o -> b ∉ X.ex -> b ∉ ch := fun b o e hx hb => by
  rcases (hch b hb).1 with z | z
  ·exact hx z
  ·exact absurd (Nat.lt_of_lt_of_le (Heap.lt_size e) z) (Nat.lt_irrefl _)
 have cellK : ∀ x c, X.env.cells.lookup x = some c -> ∀ v, s.heap.IsCell c v -> h'.IsCell c v := fun x c e v ⟨o, ho, hd⟩ => by
  have nch : c ∉ ch := fun z => (hch c z).2.2.1 x c e rfl
  by_cases hc : c ∈ X.fs
  ·obtain ⟨sl, q⟩ := slot c o (I.cne x c e) hc nch ho (I.freeC x c e)
   exact ⟨_, q, hd⟩
  ·exact ⟨o, keep c o (I.cne x c e) hc nch ho (I.freeC x c e), hd⟩
 refine ⟨I.ok, I.os, hg, ⟨fun b o e n hb hx => ?_, fun b o e n hb hx => ?_, fun b o e n hx => ?_, fun b o e hx => ?_, fun b xs e => tups b xs (I.base.tups b xs e), fun b o xs e => frzs b o xs (I.base.frzs b o xs e), fun b ps e => ?_⟩, ?_, fun x c e => ?_, ?_, fun x c e => ?_, fun p hp => ?_, hok, I.len⟩
 ·exact keep b o (neL b o e) hb (neC b o e hx) (I.base.keep b o e n hb hx) (I.base.free b o e n hx)
 ·obtain ⟨sl, e1⟩ := I.base.slot b o e n hb hx
  obtain ⟨sl', e2⟩ := slot b _ (neL b o e) hb (neC b o e hx) e1 (I.base.free b o e n hx)
  exact ⟨sl', e2⟩
 ·obtain ⟨o', e1⟩ := I.base.there b o e hx
  exact free b o' (neC b o e hx) e1 (I.base.free b o e n hx)
 ·obtain ⟨o', e1⟩ := I.base.there b o e hx
  exact there b o' (neC b o e hx) e1
 ·obtain ⟨m1, e1⟩ := I.base.tbls b ps e
  obtain ⟨m2, e2⟩ := tbls b _ e1
  exact ⟨m1 ++ m2, by rw [e2, Array.append_assoc]⟩
 ·obtain ⟨m, hn, hl⟩ := I.loc
  refine ⟨m, ns m hn, fun i x v e1 e2 e3 => ?_⟩
  obtain ⟨u, r, l⟩ := hl i x v e1 e2 e3
  refine ⟨u, r, ?_⟩
  rcases l with l | ⟨k, c, e, z⟩
  ·exact .inl l
  ·exact .inr ⟨k, c, e, cellK x c e _ z⟩
 ·obtain ⟨v, z⟩ := I.cell x c e
  exact ⟨v, cellK x c e v z⟩
 ·obtain ⟨m, ⟨o, _, _, ho, _⟩, _⟩ := I.loc
  exact free _ o (fun z => (hch _ z).2.1 rfl) ho I.free
 ·obtain ⟨v, o, ho, hd⟩ := I.cell x c e
  exact free c o (fun z => (hch c z).2.2.1 x c e rfl) ho (I.freeC x c e)
 ·obtain ⟨e, n, ne, nf, d⟩ := I.pin p hp
  have nch : p.1 ∉ ch := fun z => (hch p.1 z).2.2.2 p hp rfl
  exact ⟨keep p.1 p.2 ne nf nch e n, free p.1 p.2 nch e n, ne, nf, d⟩
theorem Inv.un {t' : Nat} (I : Inv X pins σ H s) (u : Un X.fs [] H H' s.heap h') (hok : HOk X.prog X.w H' h') : Inv X pins σ H' { s with heap := h', toks := t' } := by
 obtain ⟨m, ⟨o, es, ep, ho, r⟩, _⟩ := id I.loc
 obtain ⟨sl, hL⟩ := u.any ho I.free (by simp)
 exact I.step (g' := s.gens) (d' := s.drawn) (ch := []) (fun _ z => nomatch z) (fun b o _ hb _ e n => u.keep b o e n hb (by simp)) (fun b o _ hb _ e n => u.slot b o e n hb (by simp)) (fun b o _ e n => u.free b o e n (by simp)) (fun b o _ e => u.there b o e (by simp)) u.tups u.frzs u.tbls (fun m' hm => by
  obtain ⟨o', es', ep', ho', r'⟩ := hm
  rw [ho] at ho'; cases ho'
  exact ⟨_, es', ep', hL, r'⟩) hok I.bare
theorem Inv.call {g' : Array GenState} {t' : Nat} {d' : Drawn} {ch : List Addr} (I : Inv X pins σ H s) (u : Un (frs X.stack) ch H H' s.heap h') (hok : HOk X.prog X.w H' h') (hg : AllBare g')
  (hch : ∀ b ∈ ch, (b ∈ X.ex \/ X.s₀.heap.objs.size <= b) /\ b ≠ X.env.locals /\ (∀ x c, X.env.cells.lookup x = some c -> c ≠ b) /\ ∀ p ∈ X.pn ++ pins, p.1 ≠ b) :
  Inv X pins σ H' { s with heap := h', gens := g', drawn := d', toks := t' } := by
 obtain ⟨m, ⟨o, es, ep, ho, r⟩, _⟩ := id I.loc
 obtain ⟨sl, hL⟩ := u.any ho I.free fun z => (hch _ z).2.1 rfl
 exact I.step (ch := ch) hch (fun b o hL hb hc e n => u.keep b o e n (fun z => (List.mem_cons.mp (I.stkSub b z)).elim hL hb) hc) (fun b o _ _ hc e n => u.any e n hc) (fun b o hc e n => u.free b o e n hc) (fun b o hc e => u.there b o e hc) u.tups u.frzs u.tbls (fun m' hm => by
  obtain ⟨o', es', ep', ho', r'⟩ := hm
  rw [ho] at ho'; cases ho'
  exact ⟨_, es', ep', hL, r'⟩) hok hg
theorem Inv.turned {t' : Nat} {it : Addr} (I : Inv X pins σ H s) (k : ∀ b o, b ≠ it -> s.heap.get? b = some o -> h'.get? b = some o) (hn : H it = none) (hL : it ≠ X.env.locals)
  (h1 : it ∈ X.ex \/ X.s₀.heap.objs.size <= it) (h2 : ∀ x c, X.env.cells.lookup x = some c -> c ≠ it) (h3 : ∀ p ∈ X.pn ++ pins, p.1 ≠ it) : Inv X pins σ H { s with heap := h', toks := t' } := by
 have nit : ∀ b u, H b = some u -> b ≠ it := fun b u e z => by rw [z, hn] at e; cases e
 refine I.step (g' := s.gens) (d' := s.drawn) (ch := [it]) (fun b hb => ?_) (fun b o _ _ hc e _ => k b o (fun z => hc (by simp [z])) e) (fun b o _ _ hc e _ => ⟨o.slots, k b o (fun z => hc (by simp [z])) e⟩) (fun _ _ _ _ n => n)
  (fun b o hc e => ⟨o, k b o (fun z => hc (by simp [z])) e⟩) (fun _ _ e => e) (fun _ _ _ e => e) (fun b ps e => ⟨#[], by rw [e]; simp⟩) (fun m hm => ?_) (fun b u e => ?_) I.bare
 ·have e : b = it := by simpa using hb
  subst e
  exact ⟨h1, hL, h2, h3⟩
 ·obtain ⟨o, es, ep, ho, r⟩ := hm
  exact ⟨o, es, ep, k _ o (Ne.symm hL) ho, r⟩
 ·refine (I.hok b u e).stay (fun c v hc q => k c v ?_ q) (fun _ q => q) fun _ _ q => q
  rcases hc with z | z
  ·rw [z]; exact nit b u e
  ·exact nit c _ z
theorem Inv.tok (I : Inv X pins σ H s) (t : Nat) : Inv X pins σ H { s with toks := t } := I.un (h' := s.heap) (t' := t) Un.refl I.hok
theorem Inv.kept {t' : Nat} (I : Inv X pins σ H s) (k : ∀ b u, s.heap.get? b = some u -> h'.get? b = some u) : Inv X pins σ H { s with heap := h', toks := t' } := I.un (Un.kept k) (I.hok.kept k)
theorem Inv.laid {a : Addr} {o : HO} {t' : Nat} (I : Inv X pins σ H s) (k : ∀ b u, s.heap.get? b = some u -> h'.get? b = some u) (hp : s.heap.objs.size <= a) (new : ObjOk X.prog X.w (upd H a o) h' a o) :
  Inv X pins σ (upd H a o) { s with heap := h', toks := t' } := I.un (Un.laid k hp (I.hok.fresh hp)) (I.hok.laid k hp new)
theorem Inv.write {x e : Addr} {o : HO} {t' : Nat} (I : Inv X pins σ H s) (mu : Mut (H x)) (he : e = x \/ H e = some (.own x)) (k : ∀ b u, b ≠ e -> s.heap.get? b = some u -> h'.get? b = some u) (heo : ∃ u, h'.get? e = some u)
  (new : ObjOk X.prog X.w (upd H x o) h' x o) : Inv X pins σ (upd H x o) { s with heap := h', toks := t' } := I.un (Un.write mu he k heo) (I.hok.write mu he k heo new)
theorem Inv.pins_of {pins' : List (Addr × Obj)} (I : Inv X pins σ H s) (h : ∀ p ∈ pins', s.heap.get? p.1 = some p.2 /\ H p.1 = none /\ p.1 ≠ X.env.locals /\ p.1 ∉ X.fs /\ ∀ v, p.2.data ≠ .cell v) : Inv X pins' σ H s :=
 ⟨I.ok, I.os, I.bare, I.base, I.loc, I.cell, I.free, I.freeC, fun p hp => (List.mem_append.mp hp).elim (fun z => I.pin p (List.mem_append_left _ z)) (h p), I.hok, I.len⟩
theorem nodup_ix {N : List Str} (hN : N.Nodup) {i j : Nat} {x : Str} (a : N[i]? = some x) (b : N[j]? = some x) : i = j := by
 obtain ⟨h1, e1⟩ := List.getElem?_eq_some_iff.mp a
 obtain ⟨h2, e2⟩ := List.getElem?_eq_some_iff.mp b
 exact (List.getElem_inj hN).mp (e1.trans e2.symm)
theorem store_ok2 {M : Model} {A : Around} {E : Value -> Shared -> Prop} {i : Nat} {x : Str} {v : V} {u : Value} {Q : Unit -> Shared -> Prop} (I : Inv X pins σ H s) (hN : X.N.Nodup) (hi : X.N[i]? = some x) (hx : Loc X.env.scope x) (r : RelV v u)
  (h : ∀ s', Inv X pins (σ.set i (some v)) H s' -> (∃ a, Heap.SameBut a s.heap s'.heap /\ (a = X.env.locals \/ X.env.cells.lookup x = some a)) -> Q () s') (hf : X.fn x = true \/ X.env.scope.names.lookup x = some .local := by first | exact .inl rfl | exact .inr rfl | assumption) : wpAny M A (storeName X.env x u) Q E s := by
 obtain ⟨m, hn, hl⟩ := id I.loc
 have hcls : (X.env.scope.kind == .class || (X.env.scope.kind == .module && X.env.locals != X.env.globals)) = false := by rw [I.ok.kind]; rfl
 have hiσ : i < σ.length := by rw [I.len]; exact (List.getElem?_eq_some_iff.mp hi).1
 have cne := I.cne
 have tracked : ∀ {a : Addr} {h' : Heap}, (∃ o, s.heap.get? a = some o /\ H a = none) -> Heap.SameBut a s.heap h' -> HOk X.prog X.w H h' := fun {a h'} ha hs b ob e => by
  obtain ⟨_, _, hfree⟩ := ha
  refine (I.hok b ob e).stay (fun c w' hc q => (hs.2 c ?_).trans q) (fun _ q => q) fun _ _ q => q
  rintro rfl
  rcases hc with rfl | hc
  ·rw [hfree] at e; cases e
  ·rw [hfree] at hc; cases hc
 rcases hx with hk | hk
 ·refine wpAny_storeName_local hk hn (fun h' hn' hs => ?_) hcls
  obtain ⟨oL, _, _, hoL, _⟩ := id hn
  refine h _ ⟨I.ok, I.os, I.bare, ⟨fun b o e n hb hx => ?_, fun b o e n hb hx => ?_, I.base.free, fun b o e hx => ?_, I.base.tups, I.base.frzs, I.base.tbls⟩, ⟨_, hn', fun j y v' e1 e2 e3 => ?_⟩, fun y c e => ?_, I.free, I.freeC, fun p hp => ?_, tracked ⟨oL, hoL, I.free⟩ hs, by simpa using I.len⟩ ⟨_, hs, .inl rfl⟩
  ·exact (hs.2 b (Nat.ne_of_lt (Nat.lt_of_lt_of_le (Heap.lt_size e) I.ok.above))).trans (I.base.keep b o e n hb hx)
  ·obtain ⟨sl, e1⟩ := I.base.slot b o e n hb hx
   exact ⟨sl, (hs.2 b (Nat.ne_of_lt (Nat.lt_of_lt_of_le (Heap.lt_size e) I.ok.above))).trans e1⟩
  ·obtain ⟨o', e1⟩ := I.base.there b o e hx
   exact ⟨o', (hs.2 b (Nat.ne_of_lt (Nat.lt_of_lt_of_le (Heap.lt_size e) I.ok.above))).trans e1⟩
  ·by_cases hj : j = i
   ·subst hj
    rw [hi] at e1; cases e1
    rw [List.getElem?_set_self hiσ] at e2
    cases e2
    exact ⟨u, r, .inl ⟨hk, by simp⟩⟩
   ·rw [List.getElem?_set_ne (Ne.symm hj)] at e2
    obtain ⟨u', r', q⟩ := hl j y v' e1 e2 e3
    refine ⟨u', r', ?_⟩
    rcases q with ⟨k, e⟩ | ⟨k, c, e, z⟩
    ·refine .inl ⟨k, ?_⟩
     have : y ≠ x := fun e => hj (nodup_ix hN e1 (e ▸ hi))
     simp [this, e]
    ·exact .inr ⟨k, c, e, z.sameBut hs (cne y c e)⟩
  ·obtain ⟨w', z⟩ := I.cell y c e
   exact ⟨w', z.sameBut hs (cne y c e)⟩
  ·obtain ⟨e, n, ne, nf, d⟩ := I.pin p hp
   exact ⟨(hs.2 p.1 ne).trans e, n, ne, nf, d⟩
 ·have hfn : X.fn x = true := by
   rcases hf with z | z
   ·exact z
   ·rw [z] at hk; cases hk
  obtain ⟨c, hc⟩ := I.ok.has x (.inl hk)
  obtain ⟨w', z⟩ := I.cell x c hc
  refine wpAny_storeName_cell I.ok.kind hk hc z (fun h' hc' hs => ?_)
  obtain ⟨oc, hoc, hocd⟩ := id z
  refine h { s with heap := h' } ⟨I.ok, I.os, I.bare, ⟨fun b o e n hb hx => ?_, fun b o e n hb hx => ?_, I.base.free, fun b o e hx => ?_, I.base.tups, I.base.frzs, I.base.tbls⟩, ⟨m, hn.sameBut hs (Ne.symm (cne x c hc)), fun j y v' e1 e2 e3 => ?_⟩, fun y c' e => ?_, I.free, I.freeC, fun p hp => ?_, tracked ⟨oc, hoc, I.freeC x c hc⟩ hs, by simpa using I.len⟩ ⟨c, hs, .inr hc⟩
  ·exact (hs.2 b (Nat.ne_of_lt (Nat.lt_of_lt_of_le (Heap.lt_size e) (I.ok.cab x c hfn hc)))).trans (I.base.keep b o e n hb hx)
  ·obtain ⟨sl, e1⟩ := I.base.slot b o e n hb hx
   exact ⟨sl, (hs.2 b (Nat.ne_of_lt (Nat.lt_of_lt_of_le (Heap.lt_size e) (I.ok.cab x c hfn hc)))).trans e1⟩
  ·obtain ⟨o', e1⟩ := I.base.there b o e hx
   exact ⟨o', (hs.2 b (Nat.ne_of_lt (Nat.lt_of_lt_of_le (Heap.lt_size e) (I.ok.cab x c hfn hc)))).trans e1⟩
  ·by_cases hj : j = i
   ·subst hj
    rw [hi] at e1; cases e1
    rw [List.getElem?_set_self hiσ] at e2
    cases e2
    exact ⟨u, r, .inr ⟨.inl hk, c, hc, hc'⟩⟩
   ·rw [List.getElem?_set_ne (Ne.symm hj)] at e2
    obtain ⟨u', r', q⟩ := hl j y v' e1 e2 e3
    refine ⟨u', r', ?_⟩
    rcases q with q | ⟨k, c', e, z'⟩
    ·exact .inl q
    ·refine .inr ⟨k, c', e, z'.sameBut hs ?_⟩
     rintro rfl
     exact hj (nodup_ix hN e1 (I.ok.inj _ _ _ e hc ▸ hi))
  ·by_cases hcc : c' = c
   ·subst hcc; exact ⟨_, hc'⟩
   ·obtain ⟨w2, z2⟩ := I.cell y c' e
    exact ⟨w2, z2.sameBut hs hcc⟩
  ·obtain ⟨e, n, ne, nf, d⟩ := I.pin p hp
   refine ⟨(hs.2 p.1 ?_).trans e, n, ne, nf, d⟩
   intro q
   rw [q, hoc] at e
   have q' : oc = p.2 := Option.some.inj e
   exact d w' (by rw [<- q']; exact hocd)
theorem store_ok {M : Model} {A : Around} {E : Value -> Shared -> Prop} {i : Nat} {x : Str} {v : V} {u : Value} {Q : Unit -> Shared -> Prop} (I : Inv X pins σ H s) (hN : X.N.Nodup) (hi : X.N[i]? = some x) (hx : Loc X.env.scope x) (r : RelV v u)
  (h : ∀ s', Inv X pins (σ.set i (some v)) H s' -> Q () s') (hf : X.fn x = true \/ X.env.scope.names.lookup x = some .local := by first | exact .inl rfl | exact .inr rfl | assumption) : wpAny M A (storeName X.env x u) Q E s :=
 store_ok2 I hN hi hx r (fun s' I' _ => h s' I') hf
theorem Inv.call' {s' : Shared} {ch : List Addr} (I : Inv X pins σ H s) (ho : s'.os = s.os) (u : Un (frs X.stack) ch H H' s.heap s'.heap) (hok : HOk X.prog X.w H' s'.heap) (hg : AllBare s'.gens)
  (hch : ∀ b ∈ ch, (b ∈ X.ex \/ X.s₀.heap.objs.size <= b) /\ b ≠ X.env.locals /\ (∀ x c, X.env.cells.lookup x = some c -> c ≠ b) /\ ∀ p ∈ X.pn ++ pins, p.1 ≠ b) : Inv X pins σ H' s' := by
 obtain ⟨h', g', d', t', o'⟩ := s'
 have e : o' = s.os := ho
 subst e
 exact I.call (g' := g') (t' := t') (d' := d') u hok hg hch
end
abbrev XK := Value -> Option Addr -> Hp -> Prop
abbrev St := List (Option V)
abbrev VK := V -> Hp -> Prop
abbrev TE := St -> Hp -> VK -> Prop
abbrev TT := St -> Hp -> (Bool -> Hp -> Prop) -> Prop
abbrev TA := St -> Hp -> (List V -> Hp -> Prop) -> Prop
structure Ends where
 nx : St -> Hp -> Prop
 rt : VK
 bk : St -> Hp -> Prop := fun _ _ => False
 ct : St -> Hp -> Prop := fun _ _ => False
abbrev TS := Ends -> St -> Hp -> Prop
def EP (X : Cx) (pins : List (Addr × Obj)) (σ : St) (Q : VK) (u : Value) (s' : Shared) : Prop := ∃ v H', Inv X pins σ H' s' /\ RelV v u /\ Q v H'
def TP (X : Cx) (pins : List (Addr × Obj)) (σ : St) (Q : Bool -> Hp -> Prop) (b : Bool) (s' : Shared) : Prop := ∃ H', Inv X pins σ H' s' /\ Q b H'
def AP (X : Cx) (pins : List (Addr × Obj)) (σ : St) (Q : List V -> Hp -> Prop) (us : List Value) (s' : Shared) : Prop := ∃ vs H', Inv X pins σ H' s' /\ Vals vs us /\ Q vs H'
def SP (X : Cx) (pins : List (Addr × Obj)) (D : Ends) (f : Flow) (s' : Shared) : Prop :=
 match f with
 | .next => ∃ σ' H', Inv X pins σ' H' s' /\ D.nx σ' H'
 | .brk => ∃ σ' H', Inv X pins σ' H' s' /\ D.bk σ' H'
 | .cont => ∃ σ' H', Inv X pins σ' H' s' /\ D.ct σ' H'
 | .ret u => ∃ v σ' H', Inv X pins σ' H' s' /\ RelV v u /\ D.rt v H'
def PE (X : Cx) (e : Expr) (t : TE) : Prop :=
 ∀ (pins : List (Addr × Obj)) (s : Shared) (σ : St) (H : Hp) (Q : VK), Inv X pins σ H s -> t σ H Q -> wpAny (model X.prog X.w) X.A (eval e X.env) (EP X pins σ Q) X.xe s
def PT (X : Cx) (e : Expr) (t : TT) : Prop :=
 ∀ (pins : List (Addr × Obj)) (s : Shared) (σ : St) (H : Hp) (Q : Bool -> Hp -> Prop), Inv X pins σ H s -> t σ H Q -> wpAny (model X.prog X.w) X.A (isTrue e X.env (eval e X.env)) (TP X pins σ Q) X.xe s
def PW (X : Cx) (e : Expr) (t : TT) : Prop :=
 ∀ (whole : Sem Value) (pins : List (Addr × Obj)) (s : Shared) (σ : St) (H : Hp) (Q : Bool -> Hp -> Prop), Inv X pins σ H s -> t σ H Q -> wpAny (model X.prog X.w) X.A (isTrue e X.env whole) (TP X pins σ Q) X.xe s
theorem PW.pt {X : Cx} {e : Expr} {t : TT} (h : PW X e t) : PT X e t := h _
def PA (X : Cx) (es : List Expr) (t : TA) : Prop :=
 ∀ (pos : Pos) (pins : List (Addr × Obj)) (s : Shared) (σ : St) (H : Hp) (Q : List V -> Hp -> Prop), Inv X pins σ H s -> t σ H Q -> wpAny (model X.prog X.w) X.A (spliced (backTo pos (starEach es X.env))) (AP X pins σ Q) X.xe s
def PS (X : Cx) (st : Stmt) (t : TS) : Prop :=
 ∀ (pins : List (Addr × Obj)) (s : Shared) (σ : St) (H : Hp) (D : Ends), Inv X pins σ H s -> t D σ H -> wpAny (model X.prog X.w) X.A (exec st X.env) (SP X pins D) X.xe s
def PSs (X : Cx) (st : List Stmt) (t : TS) : Prop :=
 ∀ (pins : List (Addr × Obj)) (s : Shared) (σ : St) (H : Hp) (D : Ends), Inv X pins σ H s -> t D σ H -> wpAny (model X.prog X.w) X.A (execs st X.env) (SP X pins D) X.xe s
theorem thn {α : Type} {t : Sem α} {Q Q' : α -> Shared -> Prop} {M : Model} {A : Around} {E : Value -> Shared -> Prop} {s : Shared} (h : wpAny M A t Q E s) (hQ : ∀ a s, Q a s -> Q' a s) : wpAny M A t Q' E s := wpAny_mono h hQ fun _ _ x => x
end L2
namespace L2
open PySem PySem.Spec PyProof.Rows
section
variable {X : Cx}
theorem bin {a b : Expr} {ta tb : TE} (ha : PE X a ta) (hb : PE X b tb) {pins : List (Addr × Obj)} {s : Shared} {σ : St} {H : Hp} {R : V -> V -> Hp -> Prop} (I : Inv X pins σ H s) (h : ta σ H fun x H1 => tb σ H1 fun y H2 => R x y H2)
  {α : Type} {Q : α -> Shared -> Prop} {f : Value -> Value -> Sem α}
  (hf : ∀ v u s2 x y H2, Inv X pins σ H2 s2 -> RelV x v -> RelV y u -> R x y H2 -> wpAny (model X.prog X.w) X.A (f v u) Q X.xe s2) :
  wpAny (model X.prog X.w) X.A (eval a X.env) (fun v s₁ => wpAny (model X.prog X.w) X.A (eval b X.env) (fun u s₂ => wpAny (model X.prog X.w) X.A (f v u) Q X.xe s₂) X.xe s₁) X.xe s := by
 refine thn (ha pins s σ H _ I h) fun v s1 ⟨x, H1, I1, r1, q1⟩ => ?_
 refine thn (hb pins s1 σ H1 _ I1 q1) fun u s2 ⟨y, H2, I2, r2, q2⟩ => ?_
 exact hf v u s2 x y H2 I2 r1 r2 q2
def tVar (i : Nat) : TE := fun σ H Q => ∃ v, σ[i]? = some (some v) /\ Q v H
def tC (v : V) : TE := fun _ H Q => Q v H
theorem pe_var {i : Nat} {x : Str} {pos : Pos} (hN : X.N[i]? = some x) (hv : Vis X.env.scope x) (hd : (x == ("__debug__" : Str)) = false := by decide) (hcd : (x == ("__classdict__" : Str)) = false := by decide) : PE X (.Name x pos) (tVar i) := by
 intro pins s σ H Q I h
 obtain ⟨v, e, h⟩ := h
 obtain ⟨m, hn, hl⟩ := I.loc
 obtain ⟨u, r, l⟩ := hl i x v hN e hv
 have fin : EP X pins σ Q u s := ⟨v, H, I, r, h⟩
 rcases l with ⟨hk, hm⟩ | ⟨hk, c, hc, hcell⟩
 ·exact wpAny_Name (wpAny_loadName_local I.ok.kind hk hn hm fin) hd
 ·rcases hk with hk | hk
  ·exact wpAny_Name (wpAny_loadName_cell I.ok.kind hk hc hcell fin) hd
  ·exact wpAny_Name (wpAny_loadName_free I.ok.kind hk hc hcell fin hcd) hd
theorem pe_int {i j pos} : PE X (.Constant (.int i) j pos) (tC (.int i)) := fun _ _ _ H _ I h => wpAny_Constant_int ⟨.int i, H, I.tok _, ⟨_, rfl⟩, h⟩
theorem pe_bl {b j pos} : PE X (.Constant (.bool b) j pos) (tC (.bl b)) := fun _ _ _ H _ I h => Constant_bool ⟨.bl b, H, I, rfl, h⟩
theorem pe_non {j pos} : PE X (.Constant .none j pos) (tC .non) := fun _ _ _ H _ I h => Constant_none ⟨.non, H, I, rfl, h⟩
def Gl (X : Cx) (x : Str) : Prop := X.env.kindOf x = some .globalImplicit
theorem ld_glob {E : Value -> Shared -> Prop} {pins : List (Addr × Obj)} {s : Shared} {σ : St} {H : Hp} {x : Str} {u : Value} {pos : Pos} {Q : Value -> Shared -> Prop} (I : Inv X pins σ H s) (hg : Gl X x) (hm : X.mg x = some u) (h : Q u s)
  (hd : (x == ("__debug__" : Str)) = false := by decide) : wpAny (model X.prog X.w) X.A (eval (.Name x pos) X.env) Q E s :=
 Calls.Name_function_global I.ok.kind hg (Calls.loadGlobal_global (by rw [I.ok.glob]; exact I.mod.glob.keeps I.bk) hm h) hd
theorem ld_blt {E : Value -> Shared -> Prop} {pins : List (Addr × Obj)} {s : Shared} {σ : St} {H : Hp} {x : Str} {u : Value} {pos : Pos} {Q : Value -> Shared -> Prop} (I : Inv X pins σ H s) (hg : Gl X x) (hm : X.mg x = none) (hv : bootBuiltins x = some u) (h : Q u s)
  (hn : x ≠ "__name__" := by decide) (hd : (x == ("__debug__" : Str)) = false := by decide) : wpAny (model X.prog X.w) X.A (eval (.Name x pos) X.env) Q E s := by
 obtain ⟨mb, h1, h2⟩ := I.mod.blt
 exact Calls.Name_function_global I.ok.kind hg (Calls.loadGlobal_builtin (by rw [I.ok.glob]; exact I.mod.glob.keeps I.bk) hm (by rw [I.ok.blt]; exact h1.keeps I.bk) ((h2 x hn).trans hv) h) hd
theorem pe_bltn {x : Str} {v : V} {u : Value} {pos : Pos} (hg : Gl X x) (hm : X.mg x = none) (hv : bootBuiltins x = some u) (r : RelV v u) (hn : x ≠ "__name__" := by decide) (hd : (x == ("__debug__" : Str)) = false := by decide) : PE X (.Name x pos) (tC v) :=
 fun _ _ _ H _ I h => ld_blt I hg hm hv ⟨v, H, I, r, h⟩ hn hd
variable {a b : Expr} {ta tb : TE} {pos : Pos}
def PC (X : Cx) (op : CmpOp) (a b : Expr) (t : TE) : Prop :=
 ∀ (pins : List (Addr × Obj)) (s : Shared) (σ : St) (H : Hp) (Q : VK), Inv X pins σ H s -> t σ H Q ->
  wpAny (model X.prog X.w) X.A (eval a X.env) (fun v s₁ => wpAny (model X.prog X.w) X.A (eval b X.env) (fun u s₂ => wpAny (model X.prog X.w) X.A (compareOp op v u) (EP X pins σ Q) X.xe s₂) X.xe s₁) X.xe s
def tB (t : TE) : TT := fun σ H Q => t σ H fun x H1 => ∃ c, x = .bl c /\ Q c H1
theorem pt_cmp {op : CmpOp} {t : TE} (h : PC X op a b t) (h1 : behindInMarks op b = false := by first | exact nobehind _ (by decide) (by decide) | rfl) : PT X (.Compare a [op] [b] pos) (tB t) := by
 intro pins s σ H Q I hw
 refine wpAny_isTrue_Compare1 (thn (h pins s σ H _ I hw) fun v s1 h1 => thn h1 fun u s2 h2 => thn h2 fun c s3 ⟨x, H1, I1, r1, q1⟩ => ?_) h1
 obtain ⟨d, rfl, q⟩ := q1
 cases r1
 exact wpAny_truthy_bool ⟨H1, I1, q⟩
theorem pt_val {e : Expr} {t : TE} (h : PE X e t) (he : ∀ whole, isTrue e X.env whole = (do let v <- whole; standAt e.pos; holding [v] (truthy v)) := by intro _; rfl) : PT X e (tB t) := by
 intro pins s σ H Q I hw
 refine isTrue_plain (thn (h pins s σ H _ I hw) fun v s1 ⟨x, H1, I1, r1, q1⟩ => ?_) (he _)
 obtain ⟨d, rfl, q⟩ := q1
 cases r1
 exact wpAny_truthy_bool ⟨H1, I1, q⟩
variable {tA tB' : TT} {rest : List Expr}
def tAnd (t u : TT) : TT := fun σ H Q => t σ H fun c H1 => if c = true then u σ H1 Q else Q false H1
def tOr (t u : TT) : TT := fun σ H Q => t σ H fun c H1 => if c = true then Q true H1 else u σ H1 Q
def tNot (t : TT) : TT := fun σ H Q => t σ H fun c H1 => Q (!c) H1
theorem pw_and1 (ha : PT X a tA) : PW X (.BoolOp .And [a] pos) tA := by
 intro wh pins s σ H Q I h
 refine isTrue_and (thn (ha pins s σ H Q I h) fun c s1 e => ?_)
 cases c with
 | true => exact isTrue_and_nil e
 | false => exact e
theorem pw_or1 (ha : PT X a tA) : PW X (.BoolOp .Or [a] pos) tA := by
 intro wh pins s σ H Q I h
 refine isTrue_or (thn (ha pins s σ H Q I h) fun c s1 e => ?_)
 cases c with
 | false => exact isTrue_or_nil e
 | true => exact e
theorem pw_and (ha : PT X a tA) (hb : PW X (.BoolOp .And (b :: rest) pos) tB') : PW X (.BoolOp .And (a :: b :: rest) pos) (tAnd tA tB') := by
 intro wh pins s σ H Q I h
 refine isTrue_and (thn (ha pins s σ H _ I h) fun c s1 ⟨H1, I1, q1⟩ => ?_)
 cases c with
 | true => exact hb wh pins s1 σ H1 Q I1 q1
 | false => exact ⟨H1, I1, q1⟩
theorem pw_or (ha : PT X a tA) (hb : PW X (.BoolOp .Or (b :: rest) pos) tB') : PW X (.BoolOp .Or (a :: b :: rest) pos) (tOr tA tB') := by
 intro wh pins s σ H Q I h
 refine isTrue_or (thn (ha pins s σ H _ I h) fun c s1 ⟨H1, I1, q1⟩ => ?_)
 cases c with
 | true => exact ⟨H1, I1, q1⟩
 | false => exact hb wh pins s1 σ H1 Q I1 q1
theorem pt_not (ha : PT X a tA) : PT X (.UnaryOp .Not a pos) (tNot tA) := by
 intro pins s σ H Q I h
 exact isTrue_not (ha pins s σ H (fun c H1 => Q (!c) H1) I h)
end
end L2
namespace L2
open PySem PySem.Spec PyProof.Rows
def SqL (K : PySem.W.Frag) (H : Hp) (a : Addr) (xs : List V) : Prop :=
 Rd H a (.lst xs) \/
  ∃ (o : Obj) (its : Array Value) (n : Nat), K.lookup a = some o /\ o.cls = .type "list" /\ o.dict = none /\ o.data = .seq its n /\ its.size <= sizeLine /\ Vals xs its.toList
def SqT (K : PySem.W.Frag) (H : Hp) (a : Addr) (xs : List V) : Prop :=
 Rd H a (.tup xs) \/
  ∃ (o : Obj) (its : Array Value) (n : Nat), K.lookup a = some o /\ o.cls = .type "tuple" /\ o.data = .seq its n /\ its.size <= sizeLine /\ Vals xs its.toList
def absV : Value -> Option V
 | .none => some .non
 | .bool b => some (.bl b)
 | .int i _ => some (.int i)
 | .str x _ => some (.str x)
 | .bytes b _ => some (.byt b)
 | .float b _ => some (.flt b)
 | .ref a => some (.ref a)
 | .type n => some (.ty n)
 | _ => none
theorem RelV.abs {x : V} {u : Value} (r : RelV x u) : absV u = some x := by
 cases x with
 | non => cases r; rfl
 | bl _ => cases r; rfl
 | int _ => obtain ⟨t, rfl⟩ := r; rfl
 | str _ => obtain ⟨t, rfl⟩ := r; rfl
 | byt _ => obtain ⟨t, rfl⟩ := r; rfl
 | flt _ => obtain ⟨t, rfl⟩ := r; rfl
 | ref _ => cases r; rfl
 | ty _ => cases r; rfl
theorem RelV.inj {x y : V} {u : Value} (r : RelV x u) (q : RelV y u) : x = y := Option.some.inj (r.abs.symm.trans q.abs)
theorem Vals.inj : ∀ {xs ys : List V} {us : List Value}, Vals xs us -> Vals ys us -> xs = ys
 | _, _, _, .nil, .nil => rfl
 | _, _, _, .cons r t, .cons r' t' => by rw [r.inj r', Vals.inj t t']
section
variable {X : Cx} {pins : List (Addr × Obj)} {σ : St} {H : Hp} {s : Shared} {a : Addr} {xs ys : List V}
theorem SqL.of {K : PySem.W.Frag} (h : H a = some (.lst xs)) : SqL K H a xs := .inl (.inl h)
theorem SqT.of {K : PySem.W.Frag} (h : H a = some (.tup xs)) : SqT K H a xs := .inl (.inl h)
theorem Inv.list (I : Inv X pins σ H s) (h : SqL X.K H a xs) : ∃ its : List Value, Vals xs its /\ PlainL s.heap a its.toArray /\ xs.length <= sizeLine := by
 rcases h with h | ⟨o, its, n, hk, hc, hd, hs, hz, r⟩
 ·obtain ⟨z, its, n, r, e⟩ := h.ok I.hok
  exact ⟨its, r, ⟨_, n, e, rfl, rfl, rfl⟩, z⟩
 ·refine ⟨its.toList, r, ⟨o, n, I.kIn a o hk, hc, hd, by simpa using hs⟩, ?_⟩
  have e := r.length
  simp only [Array.length_toList] at e
  omega
theorem Inv.tuple (I : Inv X pins σ H s) (h : SqT X.K H a xs) : ∃ its : List Value, Vals xs its /\ IsTup s.heap a its.toArray /\ xs.length <= sizeLine := by
 rcases h with h | ⟨o, its, n, hk, hc, hs, hz, r⟩
 ·obtain ⟨z, its, r, p⟩ := h.ok I.hok
  exact ⟨its, r, p, z⟩
 ·refine ⟨its.toList, r, ⟨o, I.kIn a o hk, hc, n, by simpa using hs⟩, ?_⟩
  have e := r.length
  simp only [Array.length_toList] at e
  omega
theorem Inv.list_inj (I : Inv X pins σ H s) (h : SqL X.K H a xs) (h' : SqL X.K H a ys) : xs = ys := by
 obtain ⟨its, r, ⟨o, n, e, _, _, d⟩, _⟩ := I.list h
 obtain ⟨its', r', ⟨o', n', e', _, _, d'⟩, _⟩ := I.list h'
 rw [e] at e'; cases e'
 rw [d] at d'
 injection d' with d1 _
 have : its = its' := by simpa using congrArg Array.toList d1
 subst this
 exact r.inj r'
end
abbrev Cx.wish (X : Cx) (E : Value -> Shared -> Prop) : Cx := { X with xe := E }
abbrev Cx.nox (X : Cx) : Cx := X.wish fun _ _ => False
theorem Cx.Ok.wish {X : Cx} (ok : X.Ok) (E : Value -> Shared -> Prop) : (X.wish E).Ok :=
 ⟨ok.mod, ok.kind, ok.glob, ok.blt, ok.above, ok.inj, ok.has, ok.cab, ok.hd, ok.frames, ok.stk, ok.exf, ok.bs, ok.bsz, ok.noex, ok.exfs, ok.funs, ok.frf⟩
theorem Cx.Ok.unwish {X : Cx} {E : Value -> Shared -> Prop} (ok : (X.wish E).Ok) : X.Ok :=
 ⟨ok.mod, ok.kind, ok.glob, ok.blt, ok.above, ok.inj, ok.has, ok.cab, ok.hd, ok.frames, ok.stk, ok.exf, ok.bs, ok.bsz, ok.noex, ok.exfs, ok.funs, ok.frf⟩
section
variable {X : Cx} {pins : List (Addr × Obj)} {σ : St} {H : Hp} {s : Shared} {E : Value -> Shared -> Prop}
theorem Inv.wish (I : Inv X pins σ H s) (E : Value -> Shared -> Prop) : Inv (X.wish E) pins σ H s := ⟨I.ok.wish E, I.os, I.bare, I.base, I.loc, I.cell, I.free, I.freeC, I.pin, I.hok, I.len⟩
theorem Inv.unwish (I : Inv (X.wish E) pins σ H s) : Inv X pins σ H s := ⟨I.ok.unwish, I.os, I.bare, I.base, I.loc, I.cell, I.free, I.freeC, I.pin, I.hok, I.len⟩
theorem SP.unwish {D : Ends} {f : Flow} {s' : Shared} (h : SP (X.wish E) pins D f s') : SP X pins D f s' := by
 cases f with
 | next => obtain ⟨σ', H', I, q⟩ := h; exact ⟨σ', H', I.unwish, q⟩
 | brk => obtain ⟨σ', H', I, q⟩ := h; exact ⟨σ', H', I.unwish, q⟩
 | cont => obtain ⟨σ', H', I, q⟩ := h; exact ⟨σ', H', I.unwish, q⟩
 | ret u => obtain ⟨v, σ', H', I, r, q⟩ := h; exact ⟨v, σ', H', I.unwish, r, q⟩
theorem PSs.nox {st : List Stmt} {t : TS} (h : PSs X.nox st t) : PSs X st t := fun pins s σ H D I hw =>
 wpAny_mono (h pins s σ H D (I.wish _) hw) (fun _ _ q => q.unwish) fun _ _ z => False.elim z
end
section
variable {X : Cx} {st : Stmt} {rest : List Stmt} {t u : TS} {e : Expr} {te : TE} {pos : Pos}
def tNext : TS := fun D σ H => D.nx σ H
def tSeq (t u : TS) : TS := fun D σ H => t { D with nx := u D } σ H
theorem pss_nil : PSs X [] tNext := fun _ _ σ H _ I h => wpAny_execs_nil ⟨σ, H, I, h⟩
theorem pss_cons (h1 : PS X st t) (h2 : PSs X rest u) : PSs X (st :: rest) (tSeq t u) := by
 intro pins s σ H D I h
 refine wpAny_execs_cons (thn (h1 pins s σ H { D with nx := u D } I h) fun f s1 q => ?_)
 cases f with
 | next =>
  obtain ⟨σ', H', I', q⟩ := q
  exact h2 pins s1 σ' H' D I' q
 | ret v => exact q
 | brk => exact q
 | cont => exact q
theorem pss_one (h1 : PS X st t) : PSs X [st] t := by
 intro pins s σ H D I h
 refine wpAny_execs_cons (thn (h1 pins s σ H D I h) fun f s1 q => ?_)
 cases f with
 | next => exact wpAny_execs_nil q
 | ret v => exact q
 | brk => exact q
 | cont => exact q
theorem Inv.quiet {pins : List (Addr × Obj)} {σ : St} {H : Hp} {s : Shared} (I : Inv X pins σ H s) : interactive X.env = false := by simp [interactive, I.ok.kind]
def tDrop (te : TE) : TS := fun D σ H => te σ H fun _ H1 => D.nx σ H1
theorem ps_expr (he : PE X e te) (hs : swapsWith e none pos.line X.env = pure false := by rfl) : PS X (.Expr e pos) (tDrop te) := by
 intro pins s σ H D I h
 exact wpAny_Expr_any (thn (he pins s σ H _ I h) fun v s1 ⟨x, H1, I1, r1, q1⟩ => ⟨σ, H1, I1, q1⟩) I.quiet hs
def tRet (te : TE) : TS := fun D σ H => te σ H D.rt
theorem ps_ret (he : PE X e te) : PS X (.Return (some e) pos) (tRet te) := by
 intro pins s σ H D I h
 exact wpAny_Return_some (thn (he pins s σ H _ I h) fun v s1 ⟨x, H1, I1, r1, q1⟩ => ⟨x, σ, H1, I1, r1, q1⟩)
def tIfS (c : TT) (t u : TS) : TS := fun D σ H => c σ H fun b H1 => if b = true then t D σ H1 else u D σ H1
theorem ps_if {c : Expr} {a b : List Stmt} {tc : TT} (hc : PT X c tc) (ha : PSs X a t) (hb : PSs X b u) : PS X (.If c a b pos) (tIfS tc t u) := by
 intro pins s σ H D I h
 refine wpAny_If (thn (hc pins s σ H _ I h) fun d s1 ⟨H1, I1, q1⟩ => ?_)
 cases d with
 | true => exact ha pins s1 σ H1 D I1 q1
 | false => exact hb pins s1 σ H1 D I1 q1
def tNever : TS := fun _ _ _ => False
theorem ps_never : PS X st tNever := fun _ _ _ _ _ _ h => h.elim
end
abbrev TG := V -> St -> Hp -> (St -> Hp -> Prop) -> Prop
abbrev TGs := List V -> St -> Hp -> (St -> Hp -> Prop) -> Prop
def PG (X : Cx) (target : Expr) (t : TG) : Prop :=
 ∀ (pins : List (Addr × Obj)) (s : Shared) (σ : St) (H : Hp) (v : V) (u : Value) (Q : St -> Hp -> Prop), Inv X pins σ H s -> RelV v u -> t v σ H Q ->
  wpAny (model X.prog X.w) X.A (assign target X.env u) (fun _ s' => ∃ σ' H', Inv X pins σ' H' s' /\ Q σ' H') X.xe s
def PGs (X : Cx) (ts : List Expr) (t : TGs) : Prop :=
 ∀ (pins : List (Addr × Obj)) (s : Shared) (σ : St) (H : Hp) (vs : List V) (us : List Value) (Q : St -> Hp -> Prop), Inv X pins σ H s -> Vals vs us -> t vs σ H Q ->
  wpAny (model X.prog X.w) X.A (assignInOrder ((assignEach ts X.env).map (·.2)) us) (fun _ s' => ∃ σ' H', Inv X pins σ' H' s' /\ Q σ' H') X.xe s
abbrev TSet := V -> V -> V -> Hp -> (Hp -> Prop) -> Prop
def PSet (X : Cx) (t : TSet) : Prop :=
 ∀ (pins : List (Addr × Obj)) (s : Shared) (σ : St) (H : Hp) (o i v : V) (ov iv u : Value) (Q : Hp -> Prop), Inv X pins σ H s -> RelV o ov -> RelV i iv -> RelV v u -> t o i v H Q ->
  wpAny (model X.prog X.w) X.A (setItem ov iv u) (fun _ s' => ∃ H', Inv X pins σ H' s' /\ Q H') X.xe s
section
variable {X : Cx} {pos : Pos}
def gName (i : Nat) : TG := fun v σ H Q => Q (σ.set i (some v)) H
theorem pg_name {i : Nat} {x : Str} (hN : X.N.Nodup) (hi : X.N[i]? = some x) (hx : Loc X.env.scope x) (hf : X.fn x = true \/ X.env.scope.names.lookup x = some .local := by first | exact .inl rfl | exact .inr rfl | assumption) : PG X (.Name x pos) (gName i) := by
 intro pins s σ H v u Q I r h
 exact wpAny_assign_Name (store_ok I hN hi hx r (fun s' I' => ⟨_, H, I', h⟩) hf)
def gNil : TGs := fun vs σ H Q => vs = [] /\ Q σ H
def gCons (t : TG) (u : TGs) : TGs := fun vs σ H Q => ∃ v r, vs = v :: r /\ t v σ H fun σ' H' => u r σ' H' Q
theorem pgs_nil : PGs X [] gNil := by
 intro pins s σ H vs us Q I r h
 obtain ⟨e, h⟩ := h
 subst e
 cases r
 exact assignInOrder_nil ⟨σ, H, I, h⟩
theorem pgs_cons {e : Expr} {es : List Expr} {t : TG} {u : TGs} (h1 : PG X e t) (h2 : PGs X es u)
  (hs : (assignEach (e :: es) X.env).map (·.2) = assign e X.env :: (assignEach es X.env).map (·.2) := by rfl) : PGs X (e :: es) (gCons t u) := by
 intro pins s σ H vs us Q I r h
 obtain ⟨v, vr, e1, h⟩ := h
 subst e1
 cases r with
 | cons r rr =>
  rw [hs]
  refine assignInOrder_cons (thn (h1 pins s σ H _ _ _ I r h) fun _ s1 ⟨σ1, H1, I1, q1⟩ => ?_)
  exact h2 pins s1 σ1 H1 _ _ Q I1 rr q1
def gTup (K : PySem.W.Frag) (n : Nat) (t : TGs) : TG := fun v σ H Q => ∃ a xs, v = .ref a /\ SqT K H a xs /\ xs.length = n /\ t xs σ H Q
theorem pg_tup {es : List Expr} {k : Nat} {t : TGs} {n : Nat} (hc : X.calm = true) (h : PGs X es t)
  (hn : (assignEach es X.env).length = n := by rfl) (hst : (assignEach es X.env).findIdx? (·.1) = none := by rfl) : PG X (.Tuple es k pos) (gTup X.K n t) := by
 intro pins s σ H v u Q I r hw
 obtain ⟨a, xs, e1, hq, hl, hw⟩ := hw
 subst e1
 cases r
 obtain ⟨its, rv, ht, hz⟩ := I.tuple hq
 refine assign_Tuple_tuple (I.ok.hd hc) ht (by simp [hn, <- hl, rv.length]) hst fun h' hx => ?_
 have I1 : Inv X pins σ H { s with heap := h' } := I.kept (t' := s.toks) fun b o e => hx b o (Nat.ne_of_lt (Heap.lt_size e)) e
 exact h pins _ σ H xs _ Q I1 (by simpa using rv) hw
def gSub (to ti : TE) (t : TSet) : TG := fun v σ H Q => to σ H fun o H1 => ti σ H1 fun i H2 => t o i v H2 fun H3 => Q σ H3
theorem pg_sub {o i : Expr} {to ti : TE} {t : TSet} (ho : PE X o to) (hi : PE X i ti) (hs : PSet X t)
  (ha : ∀ v, assign (.Subscript o i pos) X.env v = (do
   let ov <- holding [v] (eval o X.env)
   let iv <- holding [v, ov] (eval i X.env)
   standAt pos
   holding [v, ov, iv] (setItem ov iv v)
   release [v, ov, iv] []) := by intro _; rfl) : PG X (.Subscript o i pos) (gSub to ti t) := by
 intro pins s σ H v u Q I r h
 rw [ha]
 refine wpAny_bind (wpAny_holding (thn (ho pins s σ H _ I h) fun ov s1 ⟨x, H1, I1, r1, q1⟩ => ?_))
 refine wpAny_bind (wpAny_holding (thn (hi pins s1 σ H1 _ I1 q1) fun iv s2 ⟨y, H2, I2, r2, q2⟩ => ?_))
 refine wpAny_bind (wpAny_standAt (wpAny_bind (wpAny_holding (thn (hs pins s2 σ H2 x y v ov iv u _ I2 r1 r2 r q2) fun _ s3 ⟨H3, I3, q3⟩ => ?_))))
 exact wpAny_release ⟨σ, H3, I3, q3⟩
def tAsg (te : TE) (g : TG) : TS := fun D σ H => te σ H fun x H1 => g x σ H1 D.nx
theorem ps_asg {tg e : Expr} {te : TE} {g : TG} (he : PE X e te) (hg : PG X tg g) (hs : swapsWithSole [tg] e pos.line X.env = pure false := by rfl) (hw : swappedStores [tg] e X.env = pure none := by rfl)
  (h1 : (assignEach [tg] X.env).map (·.2) = [assign tg X.env] := by rfl) : PS X (.Assign [tg] e pos) (tAsg te g) := by
 intro pins s σ H D I h
 refine wpAny_Assign_stores (thn (he pins s σ H _ I h) fun v s1 ⟨x, H1, I1, r1, q1⟩ => ?_) hs hw
 rw [h1]
 exact thn (hg pins s1 σ H1 x v _ I1 r1 q1) fun _ s2 q => q
theorem ps_set {i : Nat} {x : Str} {e : Expr} {te : TE} {pos' : Pos} (hN : X.N.Nodup) (hi : X.N[i]? = some x) (hx : Loc X.env.scope x) (he : PE X e te) (hs : swapsWith e (some (.Name x pos')) pos.line X.env = pure false := by rfl) (hf : X.fn x = true \/ X.env.scope.names.lookup x = some .local := by first | exact .inl rfl | exact .inr rfl | assumption) :
  PS X (.Assign [.Name x pos'] e pos) (tAsg te (gName i)) := by
 intro pins s σ H D I h
 refine wpAny_Assign_Name (thn (he pins s σ H _ I h) fun v s1 ⟨y, H1, I1, r1, q1⟩ => ?_) hs
 exact store_ok I1 hN hi hx r1 (fun s2 I2 => ⟨_, H1, I2, q1⟩) hf
end
section
variable {X : Cx} {pos : Pos}
def tWhile (c : TT) (tb : TS) : TS := fun D σ H => ∃ W : Nat -> St -> Hp -> Prop, (∃ m, W m σ H) /\ ∀ m σ H, W m σ H ->
 c σ H fun b H1 => if b = true then ∃ N : St -> Hp -> Prop, (∀ σ' H', N σ' H' -> ∃ m', m' < m /\ W m' σ' H') /\ tb { D with nx := N, ct := N, bk := D.nx } σ H1 else D.nx σ H1
theorem ps_while {c : Expr} {body : List Stmt} {tc : TT} {tb : TS} (hp : PassesOwn (model X.prog X.w) X.A X.env X.xe) (hc : PT X c tc) (hb : PSs X body tb) : PS X (.While c body [] pos) (tWhile tc tb) := by
 intro pins s σ H D I h
 obtain ⟨W, ⟨m0, w0⟩, turn⟩ := h
 refine wpAny_While (codeAny_whileLoop (fun n s' => ∃ σ' H', Inv X pins σ' H' s' /\ W n σ' H') ?_ m0 ⟨σ, H, I, w0⟩)
 rintro n s1 ⟨σ1, H1, I1, w1⟩
 refine wpAny_passesOwn hp (thn (hc pins s1 σ1 H1 _ I1 (turn n σ1 H1 w1)) fun b s2 ⟨H2, I2, q2⟩ => ?_)
 cases b with
 | true =>
  obtain ⟨N, hN, q2⟩ := q2
  rw [if_pos rfl]
  refine wpAny_passesOwn hp (thn (hb pins s2 σ1 H2 _ I2 q2) fun f s3 q3 => ?_)
  cases f with
  | next =>
   obtain ⟨σ3, H3, I3, n3⟩ := q3
   obtain ⟨m', hm, w3⟩ := hN σ3 H3 n3
   exact ⟨m', hm, σ3, H3, I3, w3⟩
  | cont =>
   obtain ⟨σ3, H3, I3, n3⟩ := q3
   obtain ⟨m', hm, w3⟩ := hN σ3 H3 n3
   exact ⟨m', hm, σ3, H3, I3, w3⟩
  | brk => exact q3
  | ret v => exact q3
 | false =>
  rw [if_neg Bool.false_ne_true]
  exact wpAny_execs_nil ⟨σ1, H2, I2, q2⟩
end
structure It where
 go : Nat -> Hp -> Prop
 yld : Nat -> Hp -> V -> Hp -> Prop
 stop : Nat -> Hp -> Prop
def FpOk (X : Cx) (pins : List (Addr × Obj)) (H : Hp) (b : Addr) : Prop :=
 H b = none /\ b ≠ X.env.locals /\ b ∉ X.fs /\ (b ∈ X.ex \/ X.s₀.heap.objs.size <= b) /\ (∀ x c, X.env.cells.lookup x = some c -> c ≠ b) /\ ∀ p ∈ X.pn ++ pins, p.1 ≠ b
theorem Inv.fpOk {X : Cx} {pins : List (Addr × Obj)} {σ : St} {H H' : Hp} {s : Shared} {b : Addr} (I : Inv X pins σ H s) (hb : s.heap.objs.size <= b) (hn : H' b = none) : FpOk X pins H' b := by
 refine ⟨hn, Nat.ne_of_gt (Nat.lt_of_lt_of_le I.lt hb), I.nofs hb, .inr (Nat.le_trans I.sz hb), fun x c e z => ?_, fun p hp z => ?_⟩
 ·obtain ⟨v, q⟩ := I.cell x c e
  exact absurd (Nat.lt_of_lt_of_le q.lt (by rw [z]; exact hb)) (Nat.lt_irrefl _)
 ·exact absurd (Nat.lt_of_lt_of_le (Heap.lt_size (I.pin p hp).1) (by rw [z]; exact hb)) (Nat.lt_irrefl _)
structure Turn (P : Program) (w : World) (K : PySem.W.Frag) (tg : Expr) (J : It) (fp : List Addr) (it : Addr) (tn : Nat -> Heap -> Prop) : Prop where
 mem : it ∈ fp
 obj : ∀ i h, tn i h -> ∀ b ∈ fp, ∃ o, h.get? b = some o /\ ∀ v, o.data ≠ .cell v
 keep : ∀ i h h', tn i h -> (∀ b ∈ fp, ∀ o, h.get? b = some o -> h'.get? b = some o) -> tn i h'
 item : ∀ (X : Cx), X.prog = P -> X.w = w -> X.K = K -> X.calm = true -> ∀ (i : Nat) (pins : List (Addr × Obj)) (s : Shared) (σ : St) (H : Hp) (E : Value -> Shared -> Prop), Inv X pins σ H s -> (∀ b ∈ fp, FpOk X pins H b) -> tn i s.heap -> J.go i H ->
  wpAny (model P w) X.A (pyNext (.ref it)) (fun r s1 => ∃ u, r = some u /\
   wpAny (model P w) X.A (letOwnedTupleGo tg (.ref it) u) (fun _ s2 => ∃ x H', Inv X pins σ H' s2 /\ RelV x u /\ J.yld i H x H' /\ tn (i + 1) s2.heap /\ ∀ b ∈ fp, H' b = none) E s1) E s
 done : ∀ (X : Cx), X.prog = P -> X.w = w -> X.K = K -> X.calm = true -> ∀ (i : Nat) (pins : List (Addr × Obj)) (s : Shared) (σ : St) (H : Hp) (E : Value -> Shared -> Prop), Inv X pins σ H s -> (∀ b ∈ fp, FpOk X pins H b) -> tn i s.heap -> J.stop i H ->
  wpAny (model P w) X.A (pyNext (.ref it)) (fun r s1 => r = none /\ Inv X pins σ H s1) E s
 self : ∀ (A : Around) (i : Nat) (s : Shared) (Q : Value -> Shared -> Prop) (E : Value -> Shared -> Prop), tn i s.heap -> Q (.ref it) s -> wpAny (model P w) A (pyIter (.ref it)) Q E s
abbrev TI := St -> Hp -> (It -> Hp -> Prop) -> Prop
def PIE (X : Cx) (pins : List (Addr × Obj)) (σ : St) (tg : Expr) (R : It -> Hp -> Prop) (itv : Value) (s2 : Shared) : Prop :=
 ∃ (it : Addr) (fp : List Addr) (tn : Nat -> Heap -> Prop) (J : It) (H' : Hp), itv = .ref it /\ Inv X pins σ H' s2 /\ Turn X.prog X.w X.K tg J fp it tn /\ tn 0 s2.heap /\ (∀ b ∈ fp, FpOk X pins H' b) /\ R J H'
def PI (X : Cx) (tg iter : Expr) (wi : TI) : Prop :=
 ∀ (pins : List (Addr × Obj)) (s : Shared) (σ : St) (H : Hp) (R : It -> Hp -> Prop), Inv X pins σ H s -> wi σ H R ->
  wpAny (model X.prog X.w) X.A (eval iter X.env) (fun v s1 => wpAny (model X.prog X.w) X.A (pyIter v) (PIE X pins σ tg R) X.xe s1) X.xe s
theorem go_of {M : Model} {A : Around} {E : Value -> Shared -> Prop} {s : Shared} {tg : Expr} {it : Addr} {u : Value} {o : Obj} {n : String} {vs : Array Value} {Q : Unit -> Shared -> Prop} (ho : s.heap.get? it = some o) (hc : o.cls = .type n) (hd : o.data = .fields vs)
  (hn : ["enumerate", "zip", "dict_itemiterator", "dict_reverseitemiterator", "odict_iterator", "itertools.zip_longest", "itertools.pairwise"].contains n = false) (hQ : Q () s) : wpAny M A (letOwnedTupleGo tg (.ref it) u) Q E s := by
 unfold letOwnedTupleGo
 cases tg <;> first
  | exact wpAny_pure hQ
  |(cases u <;> first
    | exact wpAny_pure hQ
    |(refine wpAny_bind (wpAny_load ho ?_)
      rw [hc, hd]
      show wpAny M A (if (["enumerate", "zip", "dict_itemiterator", "dict_reverseitemiterator", "odict_iterator", "itertools.zip_longest", "itertools.pairwise"].contains n && vs[0]? == some (rawInt _)) = true then _ else _) Q E s
      rw [if_neg (by intro h; rw [hn, Bool.false_and] at h; cases h)]
      exact wpAny_pure hQ))
def Itl (K : PySem.W.Frag) (a : Addr) : It :=
 ⟨fun i H => ∃ xs x, SqL K H a xs /\ xs[i]? = some x, fun i H x H' => H' = H /\ ∀ xs, SqL K H a xs -> xs[i]? = some x, fun i H => ∃ xs, SqL K H a xs /\ xs.length <= i⟩
def Itr (lo : Int) (n : Nat) : It := ⟨fun i _ => i < n, fun i H x H' => H' = H /\ x = .int (lo + i), fun i _ => n <= i⟩
theorem turn_list {P : Program} {w : World} {K : PySem.W.Frag} {tg : Expr} (a it : Addr) : Turn P w K tg (Itl K a) [it] it (fun i h => h.IsListIter it a i) where
 mem := by simp
 obj := fun i h st b hb => by
  have e : b = it := by simpa using hb
  subst e
  obtain ⟨o, e, c, d⟩ := st
  exact ⟨o, e, fun v z => by rw [d] at z; cases z⟩
 keep := fun i h h' st k => st.at fun o e => k it (by simp) o e
 item := by
  intro X hP hw hK hc i pins s σ H E I hf st hg
  subst hP hw hK
  obtain ⟨xs, x, hq, hx⟩ := hg
  obtain ⟨its, rv, p, hz⟩ := I.list hq
  obtain ⟨u, hu, ru⟩ := rv.get hx
  obtain ⟨f0, f1, f2, f3, f4, f5⟩ := hf it (by simp)
  refine wpAny_pyNext_list_item st p.isList (x := u) (by simpa using hu) fun h' st' sb => ?_
  have I1 : Inv X pins σ H { s with heap := h' } := I.turned (t' := s.toks) (fun b o hb e => (sb.2 b hb).trans e) f0 f1 f3 f4 f5
  obtain ⟨o, e, c, d⟩ := id st'
  exact ⟨u, rfl, go_of (s := { s with heap := h' }) e c d (by decide) ⟨x, H, I1, ru, ⟨rfl, fun ys hy => by rw [I.list_inj hy hq]; exact hx⟩, st', fun b hb => (hf b hb).1⟩⟩
 done := by
  intro X hP hw hK hc i pins s σ H E I hf st hg
  subst hP hw hK
  obtain ⟨xs, hq, hx⟩ := hg
  obtain ⟨its, rv, p, hz⟩ := I.list hq
  obtain ⟨f0, f1, f2, f3, f4, f5⟩ := hf it (by simp)
  have hl := rv.length
  exact wpAny_pyNext_list_end (I.ok.hd hc) st p.isList (by simp; omega) fun h' eb => ⟨rfl, I.turned (t' := s.toks) (fun b o hb e => eb b o hb e) f0 f1 f3 f4 f5⟩
 self := fun _ _ _ _ _ st h => wpAny_pyIter_listiter st h
theorem turn_range {P : Program} {w : World} {K : PySem.W.Frag} {tg : Expr} (it : Addr) (lo : Int) (n : Nat) : Turn P w K tg (Itr lo n) [it] it (fun i h => IsRangeIter h it (lo + (i : Nat) * 1) ((n : Int) - (i : Nat)) 1) where
 mem := by simp
 obj := fun i h st b hb => by
  have e : b = it := by simpa using hb
  subst e
  exact ⟨_, st, fun v z => by
   have z' : Data.fields _ = Data.cell v := z
   cases z'⟩
 keep := fun i h h' st k => k it (by simp) _ st
 item := by
  intro X hP hw hK hc i pins s σ H E I hf st hg
  subst hP hw hK
  obtain ⟨f0, f1, f2, f3, f4, f5⟩ := hf it (by simp)
  have W := Walks.range (prog := X.prog) (w := X.w) (I.ok.hd hc) it lo 1 n
  refine W.item i s _ _ hg st fun v h' tk hv st' kk => ?_
  obtain ⟨t, rfl⟩ := hv
  have I1 : Inv X pins σ H { s with heap := h', toks := tk } := I.turned (fun b o hb e => kk b o (by simpa using hb) e) f0 f1 f3 f4 f5
  refine ⟨_, rfl, go_of (s := { s with heap := h', toks := tk }) (n := "range_iterator") st' rfl rfl (by decide) ⟨.int (lo + i), H, I1, ⟨t, ?_⟩, ⟨rfl, rfl⟩, st', fun b hb => (hf b hb).1⟩⟩
  rw [Int.mul_one]
 done := by
  intro X hP hw hK hc i pins s σ H E I hf st hg
  subst hP hw hK
  obtain ⟨f0, f1, f2, f3, f4, f5⟩ := hf it (by simp)
  exact wpAny_pyNext_range_end (I.ok.hd hc) st (by have : n <= i := hg; omega) fun h' eb => ⟨rfl, I.turned (t' := s.toks) (fun b o hb e => eb b o hb e) f0 f1 f3 f4 f5⟩
 self := fun _ _ _ _ _ st h => wpAny_pyIter_rangeiter st h
end L2
namespace L2
open PySem PySem.Spec PyProof.Rows
section
variable {X : Cx} {tg : Expr}
def iList (K : PySem.W.Frag) (tl : TE) : TI := fun σ H R => tl σ H fun x H1 => ∃ a, x = .ref a /\ (∃ xs, SqL K H1 a xs) /\ R (Itl K a) H1
theorem pi_list {l : Expr} {tl : TE} (hl : PE X l tl) : PI X tg l (iList X.K tl) := by
 intro pins s σ H R I h
 refine thn (hl pins s σ H _ I h) fun v s1 ⟨x, H1, I1, r1, q1⟩ => ?_
 obtain ⟨a, e, ⟨xs, hq⟩, q⟩ := q1
 subst e
 cases r1
 obtain ⟨its, rv, p, hz⟩ := I1.list hq
 refine wpAny_pyIter_list p.isList ?_
 refine ⟨s1.heap.objs.size, [s1.heap.objs.size], _, _, H1, rfl, I1.kept (t' := s1.toks) fun b o e => Heap.get?_push_of_some _ e, turn_list a _, ⟨_, Heap.get?_push_size _ rfl, rfl, rfl⟩, fun b hb => ?_, q⟩
 have e : b = s1.heap.objs.size := by simpa using hb
 subst e
 exact I1.fpOk (Nat.le_refl _) (I1.hok.fresh (Nat.le_refl _))
theorem range_it {pins : List (Addr × Obj)} {σ : St} {H : Hp} {s : Shared} {R : It -> Hp -> Prop} {E : Value -> Shared -> Prop} {lo hi : Int} {t u v : Tok} {tk : Nat} (I : Inv X pins σ H s) (h1 : -(2 ^ 62) <= lo) (h2 : lo < 2 ^ 62) (h3 : -(2 ^ 62) <= hi) (h4 : hi < 2 ^ 62)
  (q : R (Itr lo (hi - lo).toNat) H) : wpAny (model X.prog X.w) X.A (pyIter (.ref s.heap.objs.size)) (PIE X pins σ tg R) E { s with heap := s.heap.push { cls := .type "range", data := .fields #[.int lo t, .int hi u, .int 1 v] }, toks := tk } := by
 refine wpAny_pyIter_range (IsRange.new ..) (small_one h1 h2 h3 h4) ?_
 have I1 : Inv X pins σ H { s with heap := s.heap.push { cls := .type "range", data := .fields #[.int lo t, .int hi u, .int 1 v] }, toks := tk } := I.kept fun b o e => Heap.get?_push_of_some _ e
 refine ⟨(s.heap.push { cls := .type "range", data := .fields #[.int lo t, .int hi u, .int 1 v] }).objs.size, [(s.heap.push { cls := .type "range", data := .fields #[.int lo t, .int hi u, .int 1 v] }).objs.size], _, _, H, rfl,
  I1.kept (t' := tk) fun b o e => Heap.get?_push_of_some _ e, turn_range _ lo (hi - lo).toNat, ?_, fun b hb => ?_, q⟩
 ·have e1 : lo + ((0 : Nat) : Int) * 1 = lo := by simp
  have e2 : (((hi - lo).toNat : Nat) : Int) - ((0 : Nat) : Int) = Builtin.Range.rangeSize lo hi 1 := by rw [rangeSize_one]; split <;> omega
  show IsRangeIter _ _ (lo + ((0 : Nat) : Int) * 1) ((((hi - lo).toNat : Nat) : Int) - ((0 : Nat) : Int)) 1
  rw [e1, e2]
  exact Heap.get?_push_size _ rfl
 ·have e : b = (s.heap.push { cls := .type "range", data := .fields #[.int lo t, .int hi u, .int 1 v] }).objs.size := by simpa using hb
  subst e
  exact I1.fpOk (Nat.le_refl _) (I1.hok.fresh (Nat.le_refl _))
def iRng1 (ta : TA) : TI := fun σ H R => ta σ H fun vs H1 => ∃ j : Int, vs = [.int j] /\ -(2 ^ 62) <= j /\ j < 2 ^ 62 /\ R (Itr 0 j.toNat) H1
def iRng2 (ta : TA) : TI := fun σ H R => ta σ H fun vs H1 => ∃ i j : Int, vs = [.int i, .int j] /\ (-(2 ^ 62) <= i /\ i < 2 ^ 62 /\ -(2 ^ 62) <= j /\ j < 2 ^ 62) /\ R (Itr i (j - i).toNat) H1
theorem pi_range1 {a : Expr} {ta : TA} {p pos : Pos} (hg : Gl X "range") (hm : X.mg "range" = none) (ha : PA X [a] ta) (hs : starEach [a] X.env = [(false, eval a X.env)] := by rfl) : PI X tg (.Call (.Name "range" p) [a] [] pos) (iRng1 ta) := by
 intro pins s σ H R I h
 refine Call_ (ld_blt I hg hm boot_range (PyProof.Rows.callWith_type1 (thn (ha pos pins s σ H _ I h) fun us s1 ⟨vs, H1, I1, r1, q1⟩ => ?_) hs rfl))
 obtain ⟨j, e, q1, q2, q⟩ := q1
 subst e
 cases r1 with
 | cons r rr =>
  cases rr
  obtain ⟨t, rfl⟩ := r
  exact call_range_1 (range_it I1 (by omega) (by omega) q1 q2 (by simpa using q))
theorem pi_range2 {a b : Expr} {ta : TA} {p pos : Pos} (hg : Gl X "range") (hm : X.mg "range" = none) (ha : PA X [a, b] ta) (hs : starEach [a, b] X.env = [(false, eval a X.env), (false, eval b X.env)] := by rfl) (hs2 : starEach [b] X.env = [(false, eval b X.env)] := by rfl) :
  PI X tg (.Call (.Name "range" p) [a, b] [] pos) (iRng2 ta) := by
 intro pins s σ H R I h
 refine Call_ (ld_blt I hg hm boot_range (PyProof.Rows.callWith_type1 (thn (ha pos pins s σ H _ I h) fun us s1 ⟨vs, H1, I1, r1, q1⟩ => ?_) (by rw [hs, hs2]) (by rw [hs2]; rfl)))
 obtain ⟨i, j, e, ⟨q1, q2, q3, q4⟩, q⟩ := q1
 subst e
 cases r1 with
 | cons r rr =>
  cases rr with
  | cons r' rr =>
   cases rr
   obtain ⟨t, rfl⟩ := r
   obtain ⟨t', rfl⟩ := r'
   exact call_range_2 (range_it I1 q1 q2 q3 q4 q)
def tFor (wi : TI) (g : TG) (tb : TS) : TS := fun D σ H => wi σ H fun J H1 => ∃ W : Nat -> Nat -> St -> Hp -> Prop, (∃ m, W 0 m σ H1) /\ ∀ i m σ H, W i m σ H ->
 (J.stop i H /\ D.nx σ H) \/ (J.go i H /\ ∃ N : St -> Hp -> Prop, (∀ σ' H', N σ' H' -> ∃ m', m' < m /\ W (i + 1) m' σ' H') /\ ∀ x H', J.yld i H x H' -> g x σ H' fun σ2 H2 => tb { D with nx := N, ct := N, bk := D.nx } σ2 H2)
def pinsAt (fp : List Addr) (h : Heap) : List (Addr × Obj) := fp.filterMap fun b => (h.get? b).map fun o => (b, o)
theorem mem_pinsAt {fp : List Addr} {h : Heap} {b : Addr} {o : Obj} (hb : b ∈ fp) (e : h.get? b = some o) : (b, o) ∈ pinsAt fp h := List.mem_filterMap.mpr ⟨b, hb, by rw [e]; rfl⟩
theorem of_pinsAt {fp : List Addr} {h : Heap} {p : Addr × Obj} (hp : p ∈ pinsAt fp h) : p.1 ∈ fp /\ h.get? p.1 = some p.2 := by
 obtain ⟨b, hb, e⟩ := List.mem_filterMap.mp hp
 cases q : h.get? b with
 | none => rw [q] at e; cases e
 | some o =>
  rw [q] at e
  have e' : (b, o) = p := Option.some.inj e
  subst e'
  exact ⟨hb, q⟩
theorem Inv.pinned {pins : List (Addr × Obj)} {σ : St} {H : Hp} {s : Shared} {fp : List Addr} (I : Inv X pins σ H s) (hf : ∀ b ∈ fp, FpOk X pins H b) (ho : ∀ b ∈ fp, ∃ o, s.heap.get? b = some o /\ ∀ v, o.data ≠ .cell v) : Inv X (pins ++ pinsAt fp s.heap) σ H s :=
 I.pins_of fun p hp => (List.mem_append.mp hp).elim (fun z => I.pin p (List.mem_append_right _ z)) fun z => by
  obtain ⟨hb, e⟩ := of_pinsAt z
  obtain ⟨f0, f1, f2, _⟩ := hf p.1 hb
  obtain ⟨o, e', d⟩ := ho p.1 hb
  rw [e] at e'; cases e'
  exact ⟨e, f0, f1, f2, d⟩
theorem Inv.unpinned {pins pl : List (Addr × Obj)} {σ : St} {H : Hp} {s : Shared} (I : Inv X (pins ++ pl) σ H s) : Inv X pins σ H s := I.pins_of fun p hp => I.pin p (List.mem_append_right _ (List.mem_append_left _ hp))
theorem ps_for {iter : Expr} {body : List Stmt} {wi : TI} {g : TG} {tb : TS} {pos : Pos} (hp : PassesOwn (model X.prog X.w) X.A X.env X.xe) (hc : X.calm = true) (hi : PI X tg iter wi) (hg : PG X tg g) (hb : PSs X body tb)
  (hs : ∀ x, foldedSetIterable iter X.env x = pure x := by intro _; rfl) : PS X (.For tg iter body [] pos) (tFor wi g tb) := by
 intro pins s σ H D I h
 refine wpAny_For (thn (hi pins s σ H _ I h) fun v s1 h1 => thn h1 fun itv s2 h2 => ?_) hs
 obtain ⟨it, fp, tn, J, H2, e, I2, T, st2, f2, W, ⟨m0, w0⟩, turn⟩ := h2
 subst e
 have stat : ∀ {H' : Hp}, (∀ b ∈ fp, H' b = none) -> ∀ b ∈ fp, FpOk X pins H' b := fun hn b hb => ⟨hn b hb, (f2 b hb).2⟩
 refine codeAny_forLoop_any (fun n s' => ∃ i σ' H', Inv X pins σ' H' s' /\ tn i s'.heap /\ (∀ b ∈ fp, H' b = none) /\ W i n σ' H') ?_ m0 ⟨0, σ, H2, I2, st2, fun b hb => (f2 b hb).1, w0⟩
 rintro n s3 ⟨i, σ3, H3, I3, st3, fr3, w3⟩
 rcases turn i n σ3 H3 w3 with ⟨stop, qn⟩ | ⟨go, N, hN, step⟩
 ·refine wpAny_passesOwn hp (thn (T.done X rfl rfl rfl hc i pins s3 σ3 H3 X.xe I3 (stat fr3) st3 stop) fun r s4 ⟨hr, I4⟩ => ?_)
  subst hr
  exact wpAny_execs_nil ⟨σ3, H3, I4, qn⟩
 ·refine wpAny_passesOwn hp (thn (T.item X rfl rfl rfl hc i pins s3 σ3 H3 X.xe I3 (stat fr3) st3 go) fun r s4 ⟨u, hr, h4⟩ => ?_)
  subst hr
  refine wpAny_passesOwn hp (thn h4 fun _ s5 ⟨x, H5, I5, r5, y5, st5, fr5⟩ => ?_)
  have I5' := I5.pinned (stat fr5) (T.obj _ _ st5)
  refine wpAny_passesOwn hp (thn (hg _ s5 σ3 H5 x u _ I5' r5 (step x H5 y5)) fun _ s6 ⟨σ6, H6, I6, q6⟩ => ?_)
  refine wpAny_passesOwn hp (thn (hb _ s6 σ6 H6 _ I6 q6) fun f s7 q7 => ?_)
  have again : ∀ {σ7 : St} {H7 : Hp}, Inv X (pins ++ pinsAt fp s5.heap) σ7 H7 s7 -> N σ7 H7 -> ∃ m, m < n /\ ∃ i σ' H', Inv X pins σ' H' s7 /\ tn i s7.heap /\ (∀ b ∈ fp, H' b = none) /\ W i m σ' H' := fun {σ7 H7} I7 n7 => by
   obtain ⟨m', hm, w7⟩ := hN σ7 H7 n7
   refine ⟨m', hm, i + 1, σ7, H7, I7.unpinned, T.keep _ _ _ st5 fun b hb o e => (I7.pin (b, o) (List.mem_append_right _ (List.mem_append_right _ (mem_pinsAt hb e)))).1, fun b hb => ?_, w7⟩
   obtain ⟨o, e, d⟩ := T.obj _ _ st5 b hb
   exact (I7.pin (b, o) (List.mem_append_right _ (List.mem_append_right _ (mem_pinsAt hb e)))).2.1
  cases f with
  | next => obtain ⟨σ7, H7, I7, n7⟩ := q7; exact again I7 n7
  | cont => obtain ⟨σ7, H7, I7, n7⟩ := q7; exact again I7 n7
  | brk => obtain ⟨σ7, H7, I7, q7⟩ := q7; exact ⟨σ7, H7, I7.unpinned, q7⟩
  | ret v => obtain ⟨x7, σ7, H7, I7, r7, q7⟩ := q7; exact ⟨x7, σ7, H7, I7.unpinned, r7, q7⟩
end
theorem for_list {K : PySem.W.Frag} {a : Addr} {xs : List V} {g : TG} {tb : TS} {D : Ends} {σ : St} {H : Hp} (Pv : Nat -> St -> Hp -> Prop) (h0 : Pv 0 σ H) (hl : ∀ i σ H, i <= xs.length -> Pv i σ H -> SqL K H a xs)
  (hs : ∀ i x σ H, xs[i]? = some x -> Pv i σ H -> g x σ H fun σ2 H2 => tb { D with nx := Pv (i + 1), ct := Pv (i + 1), bk := D.nx } σ2 H2) (hd : ∀ σ H, Pv xs.length σ H -> D.nx σ H) :
  ∃ W : Nat -> Nat -> St -> Hp -> Prop, (∃ m, W 0 m σ H) /\ ∀ i m σ H, W i m σ H ->
   ((Itl K a).stop i H /\ D.nx σ H) \/ ((Itl K a).go i H /\ ∃ N : St -> Hp -> Prop, (∀ σ' H', N σ' H' -> ∃ m', m' < m /\ W (i + 1) m' σ' H') /\ ∀ x H', (Itl K a).yld i H x H' -> g x σ H' fun σ2 H2 => tb { D with nx := N, ct := N, bk := D.nx } σ2 H2) := by
 refine ⟨fun i m σ H => m = xs.length - i /\ i <= xs.length /\ Pv i σ H, ⟨xs.length, by simp, Nat.zero_le _, h0⟩, ?_⟩
 rintro i m σ H ⟨rfl, hi, p⟩
 have q := hl i σ H hi p
 by_cases hlt : i < xs.length
 ·refine .inr ⟨⟨xs, xs[i], q, by simp [hlt]⟩, Pv (i + 1), fun σ' H' p' => ⟨xs.length - (i + 1), by omega, rfl, hlt, p'⟩, fun x H' y => ?_⟩
  obtain ⟨e, y⟩ := y
  subst e
  exact hs i x σ _ (y xs q) p
 ·have e : i = xs.length := by omega
  subst e
  exact .inl ⟨⟨xs, q, Nat.le_refl _⟩, hd σ H p⟩
theorem for_range {lo : Int} {n : Nat} {g : TG} {tb : TS} {D : Ends} {σ : St} {H : Hp} (Pv : Nat -> St -> Hp -> Prop) (h0 : Pv 0 σ H)
  (hs : ∀ i σ H, i < n -> Pv i σ H -> g (.int (lo + i)) σ H fun σ2 H2 => tb { D with nx := Pv (i + 1), ct := Pv (i + 1), bk := D.nx } σ2 H2) (hd : ∀ σ H, Pv n σ H -> D.nx σ H) :
  ∃ W : Nat -> Nat -> St -> Hp -> Prop, (∃ m, W 0 m σ H) /\ ∀ i m σ H, W i m σ H ->
   ((Itr lo n).stop i H /\ D.nx σ H) \/ ((Itr lo n).go i H /\ ∃ N : St -> Hp -> Prop, (∀ σ' H', N σ' H' -> ∃ m', m' < m /\ W (i + 1) m' σ' H') /\ ∀ x H', (Itr lo n).yld i H x H' -> g x σ H' fun σ2 H2 => tb { D with nx := N, ct := N, bk := D.nx } σ2 H2) := by
 refine ⟨fun i m σ H => m = n - i /\ i <= n /\ Pv i σ H, ⟨n, by simp, Nat.zero_le _, h0⟩, ?_⟩
 rintro i m σ H ⟨rfl, hi, p⟩
 by_cases hlt : i < n
 ·refine .inr ⟨hlt, Pv (i + 1), fun σ' H' p' => ⟨n - (i + 1), by omega, rfl, hlt, p'⟩, fun x H' y => ?_⟩
  obtain ⟨e, y⟩ := y
  subst e y
  exact hs i σ _ hlt p
 ·have e : i = n := by omega
  subst e
  exact .inl ⟨Nat.le_refl _, hd σ H p⟩
end L2
namespace L2
open PySem PySem.Spec PyProof.Rows
abbrev R2 := V -> V -> Hp -> VK -> Prop
def OpR (X : Cx) (f : Value -> Value -> Sem Value) (r : R2) : Prop :=
 ∀ (pins : List (Addr × Obj)) (s : Shared) (σ : St) (H : Hp) (x y : V) (v u : Value) (Q : VK), Inv X pins σ H s -> RelV x v -> RelV y u -> r x y H Q ->
  wpAny (model X.prog X.w) X.A (f v u) (EP X pins σ Q) X.xe s
def UnR (X : Cx) (f : Value -> Sem Value) (r : V -> Hp -> VK -> Prop) : Prop :=
 ∀ (pins : List (Addr × Obj)) (s : Shared) (σ : St) (H : Hp) (x : V) (v : Value) (Q : VK), Inv X pins σ H s -> RelV x v -> r x H Q ->
  wpAny (model X.prog X.w) X.A (f v) (EP X pins σ Q) X.xe s
def CallR (X : Cx) (f : Value) (r : List V -> Hp -> VK -> Prop) : Prop :=
 ∀ (pins : List (Addr × Obj)) (s : Shared) (σ : St) (H : Hp) (xs : List V) (us : List Value) (Q : VK), Inv X pins σ H s -> Vals xs us -> r xs H Q ->
  wpAny (model X.prog X.w) X.A (call f us) (EP X pins σ Q) X.xe s
def TruR (X : Cx) (r : V -> Hp -> (Bool -> Hp -> Prop) -> Prop) : Prop :=
 ∀ (pins : List (Addr × Obj)) (s : Shared) (σ : St) (H : Hp) (x : V) (v : Value) (Q : Bool -> Hp -> Prop), Inv X pins σ H s -> RelV x v -> r x H Q ->
  wpAny (model X.prog X.w) X.A (truthy v) (TP X pins σ Q) X.xe s
def tOp (r : R2) (ta tb : TE) : TE := fun σ H Q => ta σ H fun x H1 => tb σ H1 fun y H2 => r x y H2 Q
def tUn (r : V -> Hp -> VK -> Prop) (ta : TE) : TE := fun σ H Q => ta σ H fun x H1 => r x H1 Q
def rI (C : Int -> Int -> Prop) (g : Int -> Int -> V) : R2 := fun x y H Q => ∃ i j, x = .int i /\ y = .int j /\ C i j /\ Q (g i j) H
def rI0 (g : Int -> Int -> V) : R2 := fun x y H Q => ∃ i j, x = .int i /\ y = .int j /\ Q (g i j) H
def rU (g : Int -> V) : V -> Hp -> VK -> Prop := fun x H Q => ∃ i, x = .int i /\ Q (g i) H
section
variable {X : Cx} {a b c : Expr} {ta tb tc : TE} {pos : Pos}
theorem binT (ha : PE X a ta) (hb : PE X b tb) {pins : List (Addr × Obj)} {s : Shared} {σ : St} {H : Hp} {R : V -> V -> Hp -> Prop} (I : Inv X pins σ H s)
  (h : ta σ H fun x H1 => tb σ H1 fun y H2 => R x y H2) {Q : Value -> Shared -> Prop} {f : Value -> Value -> Sem Value}
  (hf : ∀ v u s2 x y H2, Inv X pins σ H2 s2 -> RelV x v -> RelV y u -> R x y H2 -> wpAny (model X.prog X.w) X.A (f v u) Q X.xe s2) :
  wpAny (model X.prog X.w) X.A (eval a X.env) (fun v s₁ => wpAny (model X.prog X.w) X.A (eval b X.env) (fun u s₂ => wpAny (model X.prog X.w) X.A (f v u) Q X.xe s₂) X.xe s₁) X.xe s := by
 refine thn (ha pins s σ H _ I h) fun v s1 ⟨x, H1, I1, r1, q1⟩ => ?_
 refine thn (hb pins s1 σ H1 _ I1 q1) fun u s2 ⟨y, H2, I2, r2, q2⟩ => ?_
 exact hf v u s2 x y H2 I2 r1 r2 q2
theorem pe_op {op : Operator} {r : R2} (ho : OpR X (binaryOp op) r) (ha : PE X a ta) (hb : PE X b tb) : PE X (.BinOp a op b pos) (tOp r ta tb) := by
 intro pins s σ H Q I h
 exact wpAny_BinOp (binT ha hb I h fun v u s2 x y H2 I2 rx ry q => ho pins s2 σ H2 x y v u Q I2 rx ry q)
theorem pe_un {op : UnaryOp} {r : V -> Hp -> VK -> Prop} (ho : UnR X (unaryOp op) r) (ha : PE X a ta) : PE X (.UnaryOp op a pos) (tUn r ta) := by
 intro pins s σ H Q I h
 exact UnaryOp_ (thn (ha pins s σ H _ I h) fun v s1 ⟨x, H1, I1, r1, q1⟩ => ho pins s1 σ H1 x v Q I1 r1 q1)
theorem opI {f : Value -> Value -> Sem Value} {C : Int -> Int -> Prop} {g : Int -> Int -> Int}
  (rule : ∀ (i j : Int) (t u : Tok) (s : Shared) (Q : Value -> Shared -> Prop) (E : Value -> Shared -> Prop), C i j -> Q (.int (g i j) s.toks) { s with toks := s.toks + 1 } -> wpAny (model X.prog X.w) X.A (f (.int i t) (.int j u)) Q E s) :
  OpR X f (rI C fun i j => .int (g i j)) := by
 intro pins s σ H x y v u Q I rx ry h
 obtain ⟨i, j, rfl, rfl, hc, q⟩ := h
 obtain ⟨t, rfl⟩ := rx
 obtain ⟨t', rfl⟩ := ry
 exact rule i j t t' s _ _ hc ⟨.int (g i j), H, I.tok _, ⟨_, rfl⟩, q⟩
theorem opI0 {f : Value -> Value -> Sem Value} {g : Int -> Int -> Int}
  (rule : ∀ (i j : Int) (t u : Tok) (s : Shared) (Q : Value -> Shared -> Prop) (E : Value -> Shared -> Prop), Q (.int (g i j) s.toks) { s with toks := s.toks + 1 } -> wpAny (model X.prog X.w) X.A (f (.int i t) (.int j u)) Q E s) :
  OpR X f (rI0 fun i j => .int (g i j)) := by
 intro pins s σ H x y v u Q I rx ry h
 obtain ⟨i, j, rfl, rfl, q⟩ := h
 obtain ⟨t, rfl⟩ := rx
 obtain ⟨t', rfl⟩ := ry
 exact rule i j t t' s _ _ ⟨.int (g i j), H, I.tok _, ⟨_, rfl⟩, q⟩
theorem opB0 {f : Value -> Value -> Sem Value} {g : Int -> Int -> Bool}
  (rule : ∀ (i j : Int) (t u : Tok) (s : Shared) (Q : Value -> Shared -> Prop) (E : Value -> Shared -> Prop), Q (.bool (g i j)) s -> wpAny (model X.prog X.w) X.A (f (.int i t) (.int j u)) Q E s) :
  OpR X f (rI0 fun i j => .bl (g i j)) := by
 intro pins s σ H x y v u Q I rx ry h
 obtain ⟨i, j, rfl, rfl, q⟩ := h
 obtain ⟨t, rfl⟩ := rx
 obtain ⟨t', rfl⟩ := ry
 exact rule i j t t' s _ _ ⟨.bl (g i j), H, I, rfl, q⟩
def CDiv (i j : Int) : Prop := 0 < j /\ j < 1073741824
def CPow (i j : Int) : Prop := 0 <= j /\ j <= 1000000 /\ i.natAbs < 2 ^ 64
def CMul (i j : Int) : Prop := (-(2 ^ 64) < i /\ i < 2 ^ 64) \/ (-(2 ^ 64) < j /\ j < 2 ^ 64)
theorem CMul.ok {i j : Int} (h : CMul i j) : IntMulOk i j := by
 rcases h with ⟨h1, h2⟩ | ⟨h1, h2⟩
 ·exact .of_left (intBits_le_64 h1 h2)
 ·exact .of_right (intBits_le_64 h1 h2)
theorem op_add : OpR X (binaryOp .Add) (rI0 fun i j => .int (i + j)) := opI0 fun _ _ _ _ _ _ _ q => add_int q
theorem op_sub : OpR X (binaryOp .Sub) (rI0 fun i j => .int (i - j)) := opI0 fun _ _ _ _ _ _ _ q => sub_int q
theorem op_mul : OpR X (binaryOp .Mult) (rI CMul fun i j => .int (i * j)) := opI fun _ _ _ _ _ _ _ hc q => mul_int q hc.ok
theorem op_fdiv : OpR X (binaryOp .FloorDiv) (rI CDiv fun i j => .int (i / j)) := opI fun i j _ _ _ _ _ hc q => by
 have h1 : (0 : Int) < j := hc.1
 have h2 : j < 1073741824 := hc.2
 exact floordiv_int (by omega) (by rw [Int.fdiv_eq_ediv_of_nonneg i (by omega)]; exact q) (.inl (PyProof.noPylong_small (by omega)))
theorem op_mod : OpR X (binaryOp .Mod) (rI (fun _ j => 0 < j) fun i j => .int (i % j)) := opI fun i j _ _ _ _ _ hc q => by
 have h1 : (0 : Int) < j := hc
 exact mod_int' (by omega) (by rw [Int.fmod_eq_emod_of_nonneg i (by omega)]; exact q)
theorem op_pow : OpR X (binaryOp .Pow) (rI CPow fun i j => .int (i ^ j.toNat)) := opI fun _ _ _ _ _ _ _ hc q => pow_int_small hc.1 hc.2.1 hc.2.2 q
theorem unI {f : Value -> Sem Value} {g : Int -> Int}
  (rule : ∀ (i : Int) (t : Tok) (s : Shared) (Q : Value -> Shared -> Prop) (E : Value -> Shared -> Prop), Q (.int (g i) s.toks) { s with toks := s.toks + 1 } -> wpAny (model X.prog X.w) X.A (f (.int i t)) Q E s) :
  UnR X f (rU fun i => .int (g i)) := by
 intro pins s σ H x v Q I rx h
 obtain ⟨i, rfl, q⟩ := h
 obtain ⟨t, rfl⟩ := rx
 exact rule i t s _ _ ⟨.int (g i), H, I.tok _, ⟨_, rfl⟩, q⟩
theorem un_neg : UnR X (unaryOp .USub) (rU fun i => .int (-i)) := unI fun _ _ _ _ _ q => neg_int q
end
def scal : V -> V -> Bool
 | .non, .non => true | .non, .int _ => true | .int _, .non => true | .non, .bl _ => true | .bl _, .non => true | .non, .str _ => true | .str _, .non => true
 | .int _, .int _ => true | .bl _, .bl _ => true | .str _, .str _ => true | .byt _, .byt _ => true
 | .int _, .str _ => true | .str _, .int _ => true | .bl _, .str _ => true | .str _, .bl _ => true
 | _, _ => false
def rEq : R2 := fun x y H Q => scal x y = true /\ Q (.bl (decide (x = y))) H
def rNe : R2 := fun x y H Q => scal x y = true /\ Q (.bl (!decide (x = y))) H
theorem dec_int {i j : Int} : decide (V.int i = V.int j) = (i == j) := by
 rw [Bool.eq_iff_iff]
 simp
theorem dec_bl {i j : Bool} : decide (V.bl i = V.bl j) = (i == j) := by
 rw [Bool.eq_iff_iff]
 simp
theorem dec_str {i j : Str} : decide (V.str i = V.str j) = (i == j) := by
 rw [Bool.eq_iff_iff]
 simp
theorem dec_byt {i j : Array UInt8} : decide (V.byt i = V.byt j) = (i.toList == j.toList) := by
 rw [Bool.eq_iff_iff]
 cases i
 cases j
 simp
section
variable {X : Cx} {a b c : Expr} {ta tb tc : TE} {pos : Pos}
theorem fin_bl {pins : List (Addr × Obj)} {σ : St} {H : Hp} {s : Shared} {Q : VK} {k k' : Bool} (I : Inv X pins σ H s) (q : Q (.bl k) H) (e : k = k') : EP X pins σ Q (.bool k') s := by
 subst e
 exact ⟨.bl k, H, I, rfl, q⟩
theorem op_eq : OpR X (compareOp .Eq) rEq := by
 intro pins s σ H x y v u Q I rx ry h
 obtain ⟨hs, q⟩ := h
 cases x with
 | non =>
  cases rx
  cases y with
  | non => cases ry; exact PySem.EqNone.eq_none_none (fin_bl I q (by simp))
  | bl j => cases ry; exact PySem.EqNone.eq_none_bool (fin_bl I q (by simp))
  | int j => obtain ⟨t', rfl⟩ := ry; exact PySem.EqNone.eq_none_int (fin_bl I q (by simp))
  | str j => obtain ⟨t', rfl⟩ := ry; exact PySem.EqNone.eq_none_str (fin_bl I q (by simp))
  | _ => exact absurd (show false = true from hs) Bool.false_ne_true
 | bl i =>
  cases rx
  cases y with
  | non => cases ry; exact PySem.EqNone.eq_bool_none (fin_bl I q (by simp))
  | bl j => cases ry; exact eq_bool (fin_bl I q dec_bl)
  | str j => obtain ⟨t', rfl⟩ := ry; exact PySem.EqMixed.eq_bool_str (fin_bl I q (by simp))
  | _ => exact absurd (show false = true from hs) Bool.false_ne_true
 | int i =>
  obtain ⟨t, rfl⟩ := rx
  cases y with
  | non => cases ry; exact PySem.EqNone.eq_int_none (fin_bl I q (by simp))
  | int j => obtain ⟨t', rfl⟩ := ry; exact eq_int (fin_bl I q dec_int)
  | str j => obtain ⟨t', rfl⟩ := ry; exact PySem.EqMixed.eq_int_str (fin_bl I q (by simp))
  | _ => exact absurd (show false = true from hs) Bool.false_ne_true
 | str i =>
  obtain ⟨t, rfl⟩ := rx
  cases y with
  | non => cases ry; exact PySem.EqNone.eq_str_none (fin_bl I q (by simp))
  | bl j => cases ry; exact PySem.EqMixed.eq_str_bool (fin_bl I q (by simp))
  | int j => obtain ⟨t', rfl⟩ := ry; exact PySem.EqMixed.eq_str_int (fin_bl I q (by simp))
  | str j => obtain ⟨t', rfl⟩ := ry; exact eq_str (fin_bl I q dec_str)
  | _ => exact absurd (show false = true from hs) Bool.false_ne_true
 | byt i =>
  obtain ⟨t, rfl⟩ := rx
  cases y with
  | byt j => obtain ⟨t', rfl⟩ := ry; exact PySem.W.eq_bytes (fin_bl I q dec_byt)
  | _ => exact absurd (show false = true from hs) Bool.false_ne_true
 | _ => cases y <;> exact absurd (show false = true from hs) Bool.false_ne_true
theorem op_ne : OpR X (compareOp .NotEq) rNe := by
 intro pins s σ H x y v u Q I rx ry h
 obtain ⟨hs, q⟩ := h
 cases x with
 | non =>
  cases rx
  cases y with
  | non => cases ry; exact PySem.EqNone.ne_none_none (fin_bl I q (by simp))
  | bl j => cases ry; exact PySem.EqNone.ne_none_bool (fin_bl I q (by simp))
  | int j => obtain ⟨t', rfl⟩ := ry; exact PySem.EqNone.ne_none_int (fin_bl I q (by simp))
  | str j => obtain ⟨t', rfl⟩ := ry; exact PySem.EqNone.ne_none_str (fin_bl I q (by simp))
  | _ => exact absurd (show false = true from hs) Bool.false_ne_true
 | bl i =>
  cases rx
  cases y with
  | non => cases ry; exact PySem.EqNone.ne_bool_none (fin_bl I q (by simp))
  | bl j => cases ry; exact ne_bool (fin_bl I q (congrArg not dec_bl))
  | str j => obtain ⟨t', rfl⟩ := ry; exact PySem.EqMixed.ne_bool_str (fin_bl I q (by simp))
  | _ => exact absurd (show false = true from hs) Bool.false_ne_true
 | int i =>
  obtain ⟨t, rfl⟩ := rx
  cases y with
  | non => cases ry; exact PySem.EqNone.ne_int_none (fin_bl I q (by simp))
  | int j => obtain ⟨t', rfl⟩ := ry; exact ne_int (fin_bl I q (congrArg not dec_int))
  | str j => obtain ⟨t', rfl⟩ := ry; exact PySem.EqMixed.ne_int_str (fin_bl I q (by simp))
  | _ => exact absurd (show false = true from hs) Bool.false_ne_true
 | str i =>
  obtain ⟨t, rfl⟩ := rx
  cases y with
  | non => cases ry; exact PySem.EqNone.ne_str_none (fin_bl I q (by simp))
  | bl j => cases ry; exact PySem.EqMixed.ne_str_bool (fin_bl I q (by simp))
  | int j => obtain ⟨t', rfl⟩ := ry; exact PySem.EqMixed.ne_str_int (fin_bl I q (by simp))
  | str j => obtain ⟨t', rfl⟩ := ry; exact ne_str (fin_bl I q (congrArg not dec_str))
  | _ => exact absurd (show false = true from hs) Bool.false_ne_true
 | byt i =>
  obtain ⟨t, rfl⟩ := rx
  cases y with
  | byt j => obtain ⟨t', rfl⟩ := ry; exact PySem.W.ne_bytes (fin_bl I q (congrArg not dec_byt))
  | _ => exact absurd (show false = true from hs) Bool.false_ne_true
 | _ => cases y <;> exact absurd (show false = true from hs) Bool.false_ne_true
theorem op_lt : OpR X (compareOp .Lt) (rI0 fun i j => .bl (decide (i < j))) := opB0 fun _ _ _ _ _ _ _ q => lt_int q
theorem op_gt : OpR X (compareOp .Gt) (rI0 fun i j => .bl (decide (j < i))) := opB0 fun _ _ _ _ _ _ _ q => gt_int q
theorem op_ge : OpR X (compareOp .GtE) (rI0 fun i j => .bl (decide (j <= i))) := opB0 fun _ _ _ _ _ _ _ q => ge_int q
theorem op_isN : OpR X (compareOp .Is) (fun x y H Q => y = .non /\ Q (.bl (decide (x = .non))) H) := by
 intro pins s σ H x y v u Q I rx ry h
 obtain ⟨rfl, q⟩ := h
 cases ry
 refine is_none_gen (fin_bl I q ?_)
 cases x <;> first
  |(cases rx; rfl)
  |(obtain ⟨t, rfl⟩ := rx; rfl)
theorem op_notN : OpR X (compareOp .IsNot) (fun x y H Q => y = .non /\ Q (.bl (!decide (x = .non))) H) := by
 intro pins s σ H x y v u Q I rx ry h
 obtain ⟨rfl, q⟩ := h
 cases ry
 refine isnot_none_gen (fin_bl I q ?_)
 cases x <;> first
  |(cases rx; rfl)
  |(obtain ⟨t, rfl⟩ := rx; rfl)
theorem nomark (b : Expr) {op : CmpOp} (h : op ≠ .In := by decide) (h2 : op ≠ .NotIn := by decide) : behindInMarks op b = false := by
 have e1 : (op == CmpOp.In) = false := by cases op <;> first | rfl | exact absurd rfl h
 have e2 : (op == CmpOp.NotIn) = false := by cases op <;> first | rfl | exact absurd rfl h2
 cases b <;> simp [behindInMarks, e1, e2]
theorem pe_cmpR {op : CmpOp} {r : R2} (ho : OpR X (compareOp op) r) (ha : PE X a ta) (hb : PE X b tb) (hm : behindInMarks op b = false) : PE X (.Compare a [op] [b] pos) (tOp r ta tb) := by
 intro pins s σ H Q I h
 exact wpAny_Compare1 (binT ha hb I h fun v u s2 x y H2 I2 rx ry q => ho pins s2 σ H2 x y v u Q I2 rx ry q) hm
def tTest (t : TE) : TT := fun σ H Q => t σ H fun x H' => ∃ k, x = .bl k /\ Q k H'
theorem pt_cmpR {op : CmpOp} {r : R2} (ho : OpR X (compareOp op) r) (ha : PE X a ta) (hb : PE X b tb) (hm : behindInMarks op b = false) : PT X (.Compare a [op] [b] pos) (tTest (tOp r ta tb)) := by
 intro pins s σ H Q I h
 refine wpAny_isTrue_Compare1 (thn (ha pins s σ H _ I h) fun v s1 ⟨x, H1, I1, r1, q1⟩ => thn (hb pins s1 σ H1 _ I1 q1) fun u s2 ⟨y, H2, I2, r2, q2⟩ =>
  thn (ho pins s2 σ H2 x y v u _ I2 r1 r2 q2) fun c s3 ⟨z, H3, I3, r3, k, e, q3⟩ => ?_) hm
 subst e
 cases r3
 exact wpAny_truthy_bool ⟨H3, I3, q3⟩
def TruV (K : PySem.W.Frag) (x : V) (H : Hp) (k : Bool) : Prop :=
 match x with
 | .non => k = false
 | .bl b => k = b
 | .int i => k = (i != 0)
 | .str y => y.length <= sizeLine /\ k = ((y.length : Int) != 0)
 | .byt y => y.size <= sizeLine /\ k = ((y.size : Int) != 0)
 | .ref p => (∃ xs, SqL K H p xs /\ k = !xs.isEmpty) \/ (∃ xs, SqT K H p xs /\ k = !xs.isEmpty) \/ ∃ kvs, H p = some (.dK kvs) /\ k = !kvs.isEmpty
 | _ => False
theorem isEmpty_kv {κ : Type} {kvs : List (κ × V)} {vs : List (κ × Value)} (r : KV kvs vs) : (!vs.isEmpty) = !kvs.isEmpty := by
 cases r <;> rfl
theorem isEmpty_of {xs : List V} {its : List Value} (r : Vals xs its) : (!its.toArray.isEmpty) = !xs.isEmpty := by
 cases r <;> simp
theorem line63 : (sizeLine : Nat) < 2 ^ 63 := by rw [sizeLine_eq]; decide
theorem tru_ok : TruR X (fun x H Q => ∃ k, TruV X.K x H k /\ Q k H) := by
 intro pins s σ H x v Q I rx h
 obtain ⟨k, e, q⟩ := h
 have hl := line63
 have hs : sizeLine = 16777216 := sizeLine_eq
 cases x with
 | non =>
  cases rx
  have e' : k = false := e
  subst e'
  exact truthy_none ⟨H, I, q⟩
 | bl b =>
  cases rx
  have e' : k = b := e
  subst e'
  exact wpAny_truthy_bool ⟨H, I, q⟩
 | int i =>
  obtain ⟨t, rfl⟩ := rx
  have e' : k = (i != 0) := e
  subst e'
  exact PySem.P.truthy_int ⟨H, I, q⟩
 | str y =>
  obtain ⟨t, rfl⟩ := rx
  obtain ⟨hy, e'⟩ : y.length <= sizeLine /\ k = ((y.length : Int) != 0) := e
  subst e'
  exact PySem.P.truthy_str (by omega) ⟨H, I.tok _, q⟩
 | byt y =>
  obtain ⟨t, rfl⟩ := rx
  obtain ⟨hy, e'⟩ : y.size <= sizeLine /\ k = ((y.size : Int) != 0) := e
  subst e'
  exact PySem.W.truthy_bytes (by omega) ⟨H, I.tok _, q⟩
 | ref p =>
  cases rx
  have e' : (∃ xs, SqL X.K H p xs /\ k = !xs.isEmpty) \/ (∃ xs, SqT X.K H p xs /\ k = !xs.isEmpty) \/ ∃ kvs, H p = some (.dK kvs) /\ k = !kvs.isEmpty := e
  rcases e' with ⟨xs, hx, e'⟩ | ⟨xs, hx, e'⟩ | ⟨kvs, hx, e'⟩
  ·subst e'
   obtain ⟨its, r, pl, hz⟩ := I.list hx
   have hlen := r.length
   exact wpAny_truthy_list pl.isList (by simp only [List.size_toArray]; omega) ⟨H, I.tok _, by rw [isEmpty_of r]; exact q⟩
  ·subst e'
   obtain ⟨its, r, pl, hz⟩ := I.tuple hx
   have hlen := r.length
   exact truthy_tuple pl (by simp only [List.size_toArray]; omega) ⟨H, I.tok _, by rw [isEmpty_of r]; exact q⟩
  ·subst e'
   obtain ⟨hz, hS, vs, r, m⟩ : kvs.length <= sizeLine /\ (p == sysModules) = false /\ ∃ vs, KV kvs vs /\ s.heap.DictOf (mixKind X.prog X.w) p vs := I.hok p _ hx
   have hlen : kvs.length = vs.length := Paired.length r
   exact wpAny_truthy_dict hS m (by omega) ⟨H, I.tok _, by rw [isEmpty_kv r]; exact q⟩
 | _ => exact (show False from e).elim
theorem pt_truth (ha : PE X a ta) (he : ∀ whole, isTrue a X.env whole = (do let v <- whole; standAt a.pos; holding [v] (truthy v))) :
  PT X a (fun σ H Q => ta σ H fun x H' => ∃ k, TruV X.K x H' k /\ Q k H') := by
 intro pins s σ H Q I h
 exact isTrue_plain (thn (ha pins s σ H _ I h) fun v s1 ⟨x, H1, I1, r1, q1⟩ => tru_ok pins s1 σ H1 x v Q I1 r1 q1) (he _)
theorem vals1 {x : V} {us : List Value} (r : Vals [x] us) : ∃ u, us = [u] /\ RelV x u := by
 cases r with
 | cons r1 r2 => cases r2; exact ⟨_, rfl, r1⟩
theorem vals2 {x y : V} {us : List Value} (r : Vals [x, y] us) : ∃ u w', us = [u, w'] /\ RelV x u /\ RelV y w' := by
 cases r with
 | cons r1 r2 =>
  cases r2 with
  | cons r3 r4 => cases r4; exact ⟨_, _, rfl, r1, r3⟩
end
end L2
namespace L2
open PySem PySem.Spec PyProof.Rows
structure ObjM (h : Heap) (x dx C : Addr) (mA : Str -> Option Value) : Prop where
 obj : h.get? x = some (PySem.W.instObj C dx)
 ns : h.Ns1 dx mA
 ne : dx ≠ x
theorem lookIn_ns {h : Heap} {dx : Addr} {mA : Str -> Option Value} (n : h.Ns1 dx mA) : ∃ od, h.get? dx = some od /\ ∀ name, PySem.W.lookIn name od = some (mA name) := by
 obtain ⟨o, es, ep, ho, hd, hk, _, hm⟩ := n
 refine ⟨o, ho, fun name => ?_⟩
 have e := hm name
 unfold nsFind findBy at e
 rw [<- Array.find?_toList] at e
 unfold PySem.W.lookIn
 rw [hd]
 dsimp only
 split
 ·rename_i y q
  rw [q] at e
  exact congrArg some e
 ·rename_i q
  rw [q] at e
  have a : es.toList.any (·.refKey) = false := by
   rw [List.any_eq_false]
   intro y hy
   obtain ⟨z, t, hkey⟩ := hk y (Array.mem_toList_iff.mp hy)
   simp [DictEntry.refKey, hkey]
  have a' : ¬ es.toList.any (·.refKey) = true := by rw [a]; exact Bool.false_ne_true
  rw [if_neg a']
  exact congrArg some e
theorem ObjM.look {h : Heap} {x dx C : Addr} {mA : Str -> Option Value} (I : ObjM h x dx C mA) : ∃ od, PySem.W.InstAt h x (PySem.W.instObj C dx) C (some od) /\ ∀ name, PySem.W.lookIn name od = some (mA name) :=
 let ⟨od, ho, hl⟩ := lookIn_ns I.ns
 ⟨od, ⟨I.obj, rfl, rfl, ho⟩, hl⟩
section
variable {prog : Program} {w : World} {A : Around} {E : Value -> Shared -> Prop} {s : Shared} {K : PySem.W.Frag} {x dx C f : Addr} {mA : Str -> Option Value} {name : Str} {v : Value}
end
section
variable {P : Program} {w : World} {H H' : Hp} {h h' : Heap} {a C dx : Addr} {fs fs' : List (Str × V)}
theorem ins_get (hok : HOk P w H h) (e : H a = some (.ins C dx fs)) : ∃ mA, ObjM h a dx C mA /\ (∀ f, RelO (fs.lookup f) (mA f)) /\ PySem.Within mA (fs.map (·.1)) /\ fs.length <= 1000 /\ H dx = some (.own a) := by
 obtain ⟨d, z, ne, ob, mA, n, r, q⟩ := (show ObjOk P w H h a (.ins C dx fs) from hok a _ e)
 exact ⟨mA, ⟨ob, n, ne⟩, r, q, z, d⟩
end
structure Cls (K : PySem.W.Frag) (C : Addr) : Prop where
 pg : PySem.W.plainGet K C Str.empty = true
 hd : PySem.W.hasDictIn K C = true
 po : PySem.W.plainOver K C = true
 sa : PySem.W.findIn K (.ref C) "__setattr__" = some (some (.builtin "object.__setattr__"))
theorem Cls.get {K : PySem.W.Frag} {C : Addr} (c : Cls K C) (f : Str) : PySem.W.plainGet K C f = true := c.pg
section
variable {X : Cx} {pins : List (Addr × Obj)} {σ : St} {H : Hp} {s : Shared} {a C dx : Addr} {fs : List (Str × V)} {f : Str} {v : V} {A : Around} {E : Value -> Shared -> Prop}
end
section
variable {X : Cx} {o e value : Expr} {f : Str} {pos pos' tpos : Pos} {ta tv : TE}
end
section
variable {X : Cx} {pins : List (Addr × Obj)} {σ : St} {H : Hp} {s : Shared} {A : Around} {E : Value -> Shared -> Prop} {Q : Value -> Shared -> Prop} {c : Value} {b : Bool}
inductive TyOf (K : PySem.W.Frag) (H : Hp) : V -> Value -> Prop where
 | non : TyOf K H .non (.type "NoneType")
 | bl (x : Bool) : TyOf K H (.bl x) (.type "bool")
 | int (i : Int) : TyOf K H (.int i) (.type "int")
 | str (x : Str) : TyOf K H (.str x) (.type "str")
 | flt (x : UInt64) : TyOf K H (.flt x) (.type "float")
 | lst {a : Addr} {xs : List V} (e : H a = some (.lst xs)) : TyOf K H (.ref a) (.type "list")
 | frz {a : Addr} {o : Obj} {xs : List V} (e : H a = some (.frz o (.lst xs))) : TyOf K H (.ref a) (.type "list")
 | tup {a : Addr} {xs : List V} (e : H a = some (.tup xs)) : TyOf K H (.ref a) (.type "tuple")
 | dK {a : Addr} {kvs : List (Key × V)} (e : H a = some (.dK kvs)) : TyOf K H (.ref a) (.type "dict")
 | dT {a : Addr} {kvs : List (List Key × V)} (e : H a = some (.dT kvs)) : TyOf K H (.ref a) (.type "dict")
 | ins {a C dx : Addr} {fs : List (Str × V)} (e : H a = some (.ins C dx fs)) (cl : Cls K C) (ha : PySem.W.findIn K (.ref C) "__class__" = some (some (.builtin "object.__class__")))
   (hn : PySem.W.specialIn K (.builtin "object.__class__") "__get__" = some (some (.builtin "getset_descriptor.__get__"))) (htk : PySem.W.takesIn K (.builtin "object.__class__") = some true)
   (hm : PySem.W.mroIn K C (.type "object") = some true) : TyOf K H (.ref a) (.ref C)
theorem isinst_ok {x : V} {u t : Value} (I : Inv X pins σ H s) (rx : RelV x u) (ty : TyOf X.K H x t) (e : PySem.W.kitOne X.K t c = some b) (h : ∀ tk, Q (.bool b) { s with toks := tk }) :
  wpAny (model X.prog X.w) A (call (.builtin "isinstance") [u, c]) Q E s := by
 cases ty with
 | non => cases (show u = Value.none from rx); exact PySem.W.kia_one PySem.W.kitx_none I.kIn True.intro e (fun z => nomatch z) h
 | bl y => cases (show u = Value.bool y from rx); exact PySem.W.kia_one PySem.W.kitx_bool I.kIn True.intro e (fun z => nomatch z) h
 | int i => obtain ⟨t, q⟩ := (show ∃ t, u = Value.int i t from rx); cases q; exact PySem.W.kia_one PySem.W.kitx_int I.kIn True.intro e (fun z => nomatch z) h
 | str y => obtain ⟨t, q⟩ := (show ∃ t, u = Value.str y t from rx); cases q; exact PySem.W.kia_one PySem.W.kitx_str I.kIn True.intro e (fun z => nomatch z) h
 | flt y => obtain ⟨t, q⟩ := (show ∃ t, u = Value.float y t from rx); cases q; exact PySem.W.kia_one PySem.W.kitx_float I.kIn True.intro e (fun z => nomatch z) h
 | @lst a xs ea =>
  cases (show u = Value.ref a from rx)
  obtain ⟨_, _, n, _, h1⟩ := (show ObjOk X.prog X.w H s.heap a (.lst xs) from I.hok a _ ea)
  exact PySem.W.kia_one PySem.W.kitx_list I.kIn ⟨_, h1, rfl⟩ e (fun z => nomatch z) h
 | @frz a ob xs ea =>
  cases (show u = Value.ref a from rx)
  obtain ⟨_, _, _, n, _, h1⟩ := (show ObjOk X.prog X.w H s.heap a (.frz ob (.lst xs)) from I.hok a _ ea)
  exact PySem.W.kia_one PySem.W.kitx_list I.kIn ⟨_, h1, rfl⟩ e (fun z => nomatch z) h
 | @tup a xs ea =>
  cases (show u = Value.ref a from rx)
  obtain ⟨_, _, _, p⟩ := (show ObjOk X.prog X.w H s.heap a (.tup xs) from I.hok a _ ea)
  obtain ⟨o, h1, h2, _⟩ := p
  exact PySem.W.kia_one PySem.W.kitx_tuple I.kIn ⟨o, h1, h2⟩ e (fun z => nomatch z) h
 | @dK a kvs ea =>
  cases (show u = Value.ref a from rx)
  obtain ⟨_, _, vs, _, p⟩ := (show ObjOk X.prog X.w H s.heap a (.dK kvs) from I.hok a _ ea)
  obtain ⟨o, es, ep, h1, h2, _⟩ := p
  exact PySem.W.kia_one PySem.W.kitx_dict I.kIn ⟨o, h1, h2.1⟩ e (fun z => nomatch z) h
 | @dT a kvs ea =>
  cases (show u = Value.ref a from rx)
  obtain ⟨_, _, xs, _, o, es, ep, h1, h2, _⟩ := (show ObjOk X.prog X.w H s.heap a (.dT kvs) from I.hok a _ ea)
  exact PySem.W.kia_one PySem.W.kitx_dict I.kIn ⟨o, h1, h2.1⟩ e (fun z => nomatch z) h
 | @ins a C dx fs ea cl ha hn htk hm =>
  cases (show u = Value.ref a from rx)
  obtain ⟨mA, O, _⟩ := ins_get I.hok ea
  obtain ⟨od, J, _⟩ := O.look
  exact PySem.W.kia_one (PySem.W.kitx_own (cl.get _) cl.hd ha hn htk hm) I.kIn J e (fun z => nomatch z) h
end
end L2
namespace L2
open PySem PySem.Spec PyProof.Rows
structure Room (k : Nat) (A : Around) : Prop where
 hd : A.handled = none
 dp : A.depth + 3 * k + 5 < recursionLimit
 un : A.units + 16 * k + 200 < cLine
theorem Room.mono {j k : Nat} {A : Around} (r : Room k A) (h : j <= k) : Room j A := ⟨r.hd, by have := r.dp; omega, by have := r.un; omega⟩
theorem Room.deeper {k : Nat} {A : Around} (r : Room (k + 1) A) (env : Env) : Room k (A.deeper env) :=
 ⟨r.hd, by have := r.dp; show A.depth + 1 + 3 * k + 5 < _; omega, by have := r.un; show A.units + 3 + 16 * k + 200 < _; omega⟩
theorem Room.depth {k : Nat} {A : Around} (r : Room k A) : A.depth < recursionLimit := by have := r.dp; omega
theorem Room.units {k : Nat} {A : Around} (r : Room k A) : A.units + 64 < cLine := by have := r.un; omega
def tNil : TA := fun _ H Q => Q [] H
def tCons (ta : TE) (tr : TA) : TA := fun σ H Q => ta σ H fun x H1 => tr σ H1 fun xs H2 => Q (x :: xs) H2
section
variable {X : Cx} {e : Expr} {es : List Expr} {te : TE} {t : TA} {pos : Pos}
theorem pa_nil : PA X [] tNil := fun _ _ _ _ H Q I h => Calls.spliced_nil ⟨[], H, I, .nil, h⟩
theorem pa_cons (ha : PE X e te) (hr : PA X es t) (hs : starEach (e :: es) X.env = (false, eval e X.env) :: starEach es X.env := by rfl) : PA X (e :: es) (tCons te t) := by
 intro pos pins s σ H Q I h
 rw [hs]
 show wpAny _ _ (spliced ((false, eval e X.env) :: backTo pos (starEach es X.env))) _ _ s
 refine Calls.spliced_cons (thn (ha pins s σ H _ I h) fun u s1 ⟨x, H1, I1, r1, q1⟩ => ?_)
 exact thn (hr pos pins s1 σ H1 _ I1 q1) fun us s2 ⟨xs, H2, I2, r2, q2⟩ => ⟨x :: xs, H2, I2, .cons r1 r2, q2⟩
def tLst (t : TA) : TE := fun σ H Q => t σ H fun xs H1 => xs.length <= sizeLine /\ ∀ p, H1 p = none -> Q (.ref p) (upd H1 p (.lst xs))
theorem pe_lst (h : PA X es t) : PE X (.List es pos) (tLst t) := by
 intro pins s σ H Q I hq
 refine wpAny_List_spliced (thn (h pos pins s σ H _ I hq) fun us s1 ⟨xs, H1, I1, r, z, q⟩ => ⟨by rw [<- r.length]; exact z, ?_⟩)
 have hf : H1 s1.heap.objs.size = none := I1.hok.fresh (Nat.le_refl _)
 refine ⟨.ref s1.heap.objs.size, upd H1 s1.heap.objs.size (.lst xs), I1.laid (t' := s1.toks) (fun b u e => Heap.get?_push_of_some _ e) (Nat.le_refl _) ?_, rfl, q _ hf⟩
 exact ⟨z, us, 0, r, Heap.get?_push_size _ rfl⟩
end
abbrev Sp := List V -> Hp -> VK -> XK -> Prop
abbrev CXT := List Env -> Hp -> Shared -> XK -> Value -> Shared -> Prop
structure Env0 (P : Program) (w : World) (K : PySem.W.Frag) (mg : Str -> Option Value) (base : Heap) (A : Around) (outer : List Env) (s : Shared) (H : Hp) : Prop where
 frames : A.frames = some outer
 mod : Mod K mg base
 bs : ∀ b o, base.get? b = some o -> s.heap.get? b = some o /\ H b = none
 bsz : base.objs.size <= s.heap.objs.size
 funs : s.heap.FunFrames base outer
 frf : ∀ b ∈ frs outer, H b = none
 hok : HOk P w H s.heap
 bare : AllBare s.gens
def CE (outer : List Env) (P : Program) (w : World) (H : Hp) (s : Shared) (Q : VK) (u : Value) (s' : Shared) : Prop :=
 ∃ v H', s'.os = s.os /\ AllBare s'.gens /\ Un (frs outer) [] H H' s.heap s'.heap /\ HOk P w H' s'.heap /\ RelV v u /\ Q v H'
def CR (CX : CXT) (outer : List Env) (P : Program) (w : World) (H : Hp) (s : Shared) (Q : VK) (E : XK) (r : Result) (s' : Shared) : Prop :=
 match r with
 | .ok (.ret u) => CE outer P w H s Q u s'
 | .ok _ => False
 | .error e => CX outer H s E e s'
structure FnOk (P : Program) (w : World) (K : PySem.W.Frag) (mg : Str -> Option Value) (base : Heap) (CX : CXT) (k : Nat) (f : Addr) (fd : FuncData) (ps : List Str) (sp : Sp) : Prop where
 len : ∀ vs H Q E, sp vs H Q E -> vs.length = ps.length
 run : ∀ (A : Around) (outer : List Env) (s : Shared) (H : Hp) (args : Args) (us : List Value) (vs : List V) (Q : VK) (E : XK), Room k A -> Env0 P w K mg base A outer s H -> BindsTo s fd args (ps.zip us) -> Vals vs us -> sp vs H Q E ->
  codeAny (model P w) A (.call (.ref f) args) (CR CX outer P w H s Q E) s
section
variable {X : Cx} {pins : List (Addr × Obj)} {σ : St} {H : Hp} {s s' : Shared}
theorem Inv.env0 (I : Inv X pins σ H s) : Env0 X.prog X.w X.K X.mg X.base X.A X.stack s H :=
 ⟨I.ok.frames, I.ok.mod, I.bs, Nat.le_trans I.ok.bsz I.sz, I.stack, I.stkFree, I.hok, I.bare⟩
theorem Inv.after {Q : VK} {u : Value} (I : Inv X pins σ H s) (h : CE X.stack X.prog X.w H s Q u s') : EP X pins σ Q u s' := by
 obtain ⟨v, H', os, bare, un, hok, r, q⟩ := h
 obtain ⟨hh, g, d, t, os'⟩ := s'
 obtain rfl : os' = s.os := os
 exact ⟨v, H', I.call (h' := hh) (g' := g) (d' := d) (t' := t) (ch := []) un hok bare (fun b z => absurd z (by simp)), r, q⟩
end
def tCall (sp : Sp) (dvs : List V) (E : XK) (t : TA) : TE := fun σ H Q => t σ H fun vs H1 => sp (vs ++ dvs) H1 Q E
def Binds (K : PySem.W.Frag) (fd : FuncData) (ps : List Str) (ds : List Value) : Prop :=
 ∀ (s : Shared) (us : List Value), K.In s.heap -> (us ++ ds).length = ps.length -> BindsTo s fd ⟨us, []⟩ (ps.zip (us ++ ds))
theorem Binds.all {K : PySem.W.Frag} {fd : FuncData} {ps : List Str} (h : ∀ us : List Value, us.length = ps.length -> bindArgs fd ⟨us, []⟩ = pure (ps.zip us)) : Binds K fd ps [] := fun s us _ hl => by
 rw [List.append_nil] at hl ⊢
 exact .of_eq (h us hl)
def Passes (CX : CXT) (X : Cx) (E : XK) : Prop := ∀ (pins : List (Addr × Obj)) (σ : St) (H : Hp) (s : Shared) (e : Value) (s' : Shared), Inv X pins σ H s -> CX X.stack H s E e s' -> X.xe e s'
section
variable {X : Cx} {CX : CXT} {k : Nat} {f C : Addr} {fd : FuncData} {ps : List Str} {sp : Sp} {dvs : List V} {ds : List Value} {E : XK} {x m : Str} {p pos apos : Pos} {e o : Expr} {es : List Expr} {ta : TE} {t : TA}
theorem run_fn {pins : List (Addr × Obj)} {σ : St} {H : Hp} {s : Shared} {Q : VK} {us : List Value} {vs : List V} (F : FnOk X.prog X.w X.K X.mg X.base CX k f fd ps sp) (hr : Room k X.A) (hb : Binds X.K fd ps ds) (hd : Vals dvs ds) (hx : Passes CX X E)
  (I : Inv X pins σ H s) (r : Vals vs us) (h : sp (vs ++ dvs) H Q E) : wpAny (model X.prog X.w) X.A (call (.ref f) us) (EP X pins σ Q) X.xe s := by
 have r2 : Vals (vs ++ dvs) (us ++ ds) := r.append hd
 have hl : (us ++ ds).length = ps.length := by rw [<- r2.length]; exact F.len _ _ _ _ h
 refine wpAny_call (codeAny_mono (F.run X.A X.stack s H ⟨us, []⟩ (us ++ ds) (vs ++ dvs) Q E hr I.env0 (hb s us I.kIn hl) r2 h) fun r s' hq => ?_)
 cases r with
 | error e => exact hx pins σ H s e s' I hq
 | ok fl =>
  cases fl with
  | ret u => exact I.after hq
  | next => exact False.elim hq
  | brk => exact False.elim hq
  | cont => exact False.elim hq
theorem pe_call (F : FnOk X.prog X.w X.K X.mg X.base CX k f fd ps sp) (hr : Room k X.A) (hg : Gl X x) (hm : X.mg x = some (.ref f)) (hk : PySem.W.keepIn X.K (.ref f) = true) (hb : Binds X.K fd ps ds) (hd : Vals dvs ds) (hx : Passes CX X E)
  (ha : PA X (e :: es) t) (hdb : (x == ("__debug__" : Str)) = false := by decide) (he : starEach (e :: es) X.env = (false, eval e X.env) :: starEach es X.env := by rfl) (hpl : (backTo pos (starEach es X.env)).any (·.1) = false := by rfl) :
  PE X (.Call (.Name x p) (e :: es) [] pos) (tCall sp dvs E t) := by
 intro pins s σ H Q I h
 refine wpAny_Call_Name_kw (ld_glob I hg hm ?_ hdb)
 refine PySem.W.callWith_K (h₀ := X.base) I.ok.mod.kin hk (thn (ha pos pins s σ H _ I h) fun us s1 ⟨vs, H1, I1, r, q⟩ => ⟨I1.kIn, ?_⟩) he hpl
 exact run_fn F hr hb hd hx I1 r q
end
section
variable {X : Cx} {CX : CXT} {k : Nat} {f C : Addr} {fd : FuncData} {ps ks : List Str} {sp : Sp} {E : XK} {x m : Str} {p pos apos kpos : Pos} {e o : Expr} {es : List Expr} {kws : List Keyword} {te ta : TE} {t tk : TA} {nm : Option Str}
variable {g : List Value -> List Value -> List Value} {gV : List V -> List V -> List V}
end
structure FnScope (N P : List Str) (sc : Scope) : Prop where
 kind : sc.kind = .function
 co : sc.isCoroutine = false
 gen : sc.isGenerator = false
 nd : N.Nodup
 pre : N.take P.length = P
 par : ∀ x ∈ P, sc.names.lookup x = some .local \/ sc.names.lookup x = some .cell
 nofree : ∀ y ∈ sc.names, y.2 ≠ .free
theorem bindL_out {kindOf : Str -> Option NameKind} {x : Str} : ∀ {binds : List (Str × Value)} {m : Str -> Option Value}, (∀ v, (x, v) ∉ binds) -> bindL kindOf binds m x = m x
 | [], _, _ => rfl
 |(n, v) :: r, m, h => by
  unfold bindL
  rw [bindL_out fun w hw => h w (List.mem_cons_of_mem _ hw)]
  split
  ·have : x ≠ n := by rintro rfl; exact h v List.mem_cons_self
   simp [this]
  ·rfl
theorem bindC_out {kindOf : Str -> Option NameKind} {x : Str} : ∀ {binds : List (Str × Value)} {m : Str -> Option Value}, (∀ v, (x, v) ∉ binds) -> bindC kindOf binds m x = m x
 | [], _, _ => rfl
 |(n, v) :: r, m, h => by
  unfold bindC
  rw [bindC_out fun w hw => h w (List.mem_cons_of_mem _ hw)]
  split
  ·rfl
  ·have : x ≠ n := by rintro rfl; exact h v List.mem_cons_self
   simp [this]
theorem bindL_get {kindOf : Str -> Option NameKind} {x : Str} {v : Value} : ∀ {P : List Str} {vs : List Value} {i : Nat} {m : Str -> Option Value}, P.Nodup -> P[i]? = some x -> vs[i]? = some v -> kindOf x = some .local ->
  bindL kindOf (P.zip vs) m x = some v
 | [], _, _, _, _, h, _, _ => by simp at h
 | _ :: _, [], _, _, _, _, h, _ => by simp at h
 | p :: P, w :: vs, 0, m, nd, h1, h2, hk => by
  simp at h1 h2; subst h1; subst h2
  show bindL kindOf ((p, w) :: P.zip vs) m p = _
  unfold bindL
  rw [bindL_out fun v hv => (List.nodup_cons.mp nd).1 (List.of_mem_zip hv).1, if_pos hk]
  simp
 | p :: P, w :: vs, i + 1, m, nd, h1, h2, hk => by
  show bindL kindOf ((p, w) :: P.zip vs) m x = _
  unfold bindL
  exact bindL_get (i := i) (List.nodup_cons.mp nd).2 (by simpa using h1) (by simpa using h2) hk
theorem bindC_get {kindOf : Str -> Option NameKind} {x : Str} {v : Value} : ∀ {P : List Str} {vs : List Value} {i : Nat} {m : Str -> Option Value}, P.Nodup -> P[i]? = some x -> vs[i]? = some v -> kindOf x ≠ some .local ->
  bindC kindOf (P.zip vs) m x = some v
 | [], _, _, _, _, h, _, _ => by simp at h
 | _ :: _, [], _, _, _, _, h, _ => by simp at h
 | p :: P, w :: vs, 0, m, nd, h1, h2, hk => by
  simp at h1 h2; subst h1; subst h2
  show bindC kindOf ((p, w) :: P.zip vs) m p = _
  unfold bindC
  rw [bindC_out fun v hv => (List.nodup_cons.mp nd).1 (List.of_mem_zip hv).1, if_neg hk]
  simp
 | p :: P, w :: vs, i + 1, m, nd, h1, h2, hk => by
  show bindC kindOf ((p, w) :: P.zip vs) m x = _
  unfold bindC
  exact bindC_get (i := i) (List.nodup_cons.mp nd).2 (by simpa using h1) (by simpa using h2) hk
def start (N : List Str) (vs : List V) : St := vs.map some ++ List.replicate (N.length - vs.length) none
def cxOf (CX : CXT) (P : Program) (w : World) (K : PySem.W.Frag) (mg : Str -> Option Value) (base : Heap) (N : List Str) (qual : Str) (scope : Scope) (f : Addr) (cd : Value) (A : Around) (outer : List Env) (s : Shared) (H : Hp) (E : XK) : Cx where
 prog := P
 w := w
 K := K
 mg := mg
 base := base
 A := A.deeper (envOfC qual scope s.heap.objs.size f cd)
 N := N
 s₀ := s
 H₀ := H
 env := envOfC qual scope s.heap.objs.size f cd
 outer := outer
 stack := envOfC qual scope s.heap.objs.size f cd :: outer
 ex := []
 calm := true
 fn := fun _ => true
 pn := []
 xe := fun e s' => wpAny (model P w) (A.deeper (envOfC qual scope s.heap.objs.size f cd)) (leaving (envOfC qual scope s.heap.objs.size f cd) e) (fun _ s'' => CX outer H s E e s'') (fun e' s'' => CX outer H s E e' s'') s'
theorem cell_has {sc : Scope} {n : Nat} {x : Str} (h : sc.names.lookup x = some .cell) : ∃ c, (cellsFrom n sc.names []).lookup x = some c := by
 have q := PySem.W.cellsFrom_some sc.names n [] (.inl h)
 exact Option.isSome_iff_exists.mp q
theorem inv_start {CX : CXT} {P : Program} {w : World} {K : PySem.W.Frag} {mg : Str -> Option Value} {base : Heap} {N ps : List Str} {qual : Str} {scope : Scope} {f : Addr} {cd : Value} {A : Around} {outer : List Env} {s s1 : Shared} {H : Hp} {E : XK} {us : List Value} {vs : List V}
  (S : FnScope N ps scope) (hd : A.handled = none) (e0 : Env0 P w K mg base A outer s H) (hl : vs.length = ps.length) (r : Vals vs us)
  (x : InCallC s s.heap.objs.size (bindL (envOfC qual scope s.heap.objs.size f cd).kindOf (ps.zip us) fun _ => none) (cellsFrom (s.heap.objs.size + 1) scope.names []) (bindC (envOfC qual scope s.heap.objs.size f cd).kindOf (ps.zip us) fun _ => none) s1) :
  Inv (cxOf CX P w K mg base N qual scope f cd A outer s H E) [] (start N vs) H s1 := by
 have hpl : ps.length <= N.length := by have := congrArg List.length S.pre; rw [List.length_take] at this; omega
 obtain ⟨h1, tk, rfl, hk⟩ := x.done
 have noA : ∀ b : Addr, b ∉ (cxOf CX P w K mg base N qual scope f cd A outer s H E).ex := fun b z => absurd (show b ∈ ([] : List Addr) from z) (by simp)
 refine ⟨⟨e0.mod, S.kind, rfl, rfl, Nat.le_refl _, fun y z c h1 h2 => ?_, fun y hy => ?_, fun y c _ h => ?_, fun _ => hd, Around.frames_deeper e0.frames, .inr ⟨rfl, rfl⟩, fun b z => absurd z (noA b), e0.bs, e0.bsz, fun b _ _ => noA b, fun b z => absurd z (noA b), e0.funs, e0.frf⟩,
  rfl, e0.bare, Un.kept hk, ⟨_, x.toInCall.ns, fun i y v h1 h2 h3 => ?_⟩, fun y c h => ⟨_, x.cell y c h⟩, e0.hok.fresh (Nat.le_refl _), fun y c h => ?_, fun p hp => absurd (show p ∈ ([] : List (Addr × Obj)) from hp) (by simp), e0.hok.kept hk, ?_⟩
 ·exact name_of_addr x.apart (PySem.mem_of_lookup h1) (PySem.mem_of_lookup h2)
 ·have hy : scope.names.lookup y = some .cell \/ scope.names.lookup y = some .free := hy
  rcases hy with hy | hy
  ·exact cell_has hy
  ·exact absurd rfl (S.nofree _ (PySem.mem_of_lookup hy))
 ·exact Nat.le_of_lt (x.above y c (PySem.mem_of_lookup h))
 ·have hi : i < vs.length := by
   unfold start at h2
   by_cases hi : i < vs.length
   ·exact hi
   ·rw [List.getElem?_append_right (by simpa using hi)] at h2
    rw [List.getElem?_replicate] at h2
    split at h2 <;> cases h2
  have ha : vs[i]? = some v := by
   unfold start at h2
   rw [List.getElem?_append_left (by simpa using hi), List.getElem?_map] at h2
   cases e : vs[i]? with
   | none => rw [e] at h2; cases h2
   | some a => rw [e] at h2; cases h2; rfl
  obtain ⟨u, hu, rv⟩ := r.get ha
  have hp : ps[i]? = some y := by
   rw [<- S.pre, List.getElem?_take_of_lt (by omega)]; exact h1
  have ndP : ps.Nodup := by rw [<- S.pre]; exact S.nd.sublist (List.take_sublist _ _)
  refine ⟨u, rv, ?_⟩
  rcases S.par y (List.mem_of_getElem? hp) with k | k
  ·exact .inl ⟨k, bindL_get ndP hp hu k⟩
  ·obtain ⟨c, e⟩ := cell_has (n := s.heap.objs.size + 1) k
   refine .inr ⟨.inl k, c, e, ?_⟩
   have q := x.cell y c e
   rw [bindC_get ndP hp hu (by show scope.names.lookup y ≠ _; rw [k]; decide)] at q
   exact q
 ·exact e0.hok.fresh (Nat.le_of_lt (x.above y c (PySem.mem_of_lookup h)))
 ·unfold start
  show _ = N.length
  rw [List.length_append, List.length_map, List.length_replicate]
  omega
theorem fn_of {CX : CXT} {P : Program} {w : World} {K : PySem.W.Frag} {mg : Str -> Option Value} {base : Heap} {k : Nat} {f : Addr} {name qual : Str} {params : Arguments} {body : List Stmt} {scope : Scope} {dV kV doc pm cdv ct oc : Value} {an od : Option Addr}
  {osl : Array (Option Value)} {N ps : List Str} {sp : Sp} (lk : K.lookup f = some ⟨oc, od, .func (PySem.W.fnOf name qual params body scope dV kV doc pm an cdv ct), osl⟩) (hcd : PySem.W.codeIn K cdv qual = true) (S : FnScope N ps scope)
  (len : ∀ vs H Q E, sp vs H Q E -> vs.length = ps.length)
  (hbody : ∀ (A : Around) (outer : List Env) (s : Shared) (H : Hp) (vs : List V) (Q : VK) (E : XK), Room k (A.deeper (envOfC qual scope s.heap.objs.size f cdv)) -> sp vs H Q E ->
   ∃ t, PSs (cxOf CX P w K mg base N qual scope f cdv A outer s H E) body t /\ t { nx := fun _ H' => Q .non H', rt := Q } (start N vs) H) :
  FnOk P w K mg base CX (k + 1) f (PySem.W.fnOf name qual params body scope dV kV doc pm an cdv ct) ps sp := by
 refine ⟨len, fun A outer s H args us vs Q E hr e0 hb r hsp => ?_⟩
 have hl := len _ _ _ _ hsp
 have KX : K.In s.heap := e0.mod.kin.keeps fun b o e => (e0.bs b o e).1
 have lim : s.heap.NoLimit := e0.mod.nolimit.keeps fun b o e => (e0.bs b o e).1
 have hkind : ∀ y ∈ ps.zip us, scope.names.lookup y.1 = some .local \/ (scope.names.lookup y.1 = some .cell /\ ((cellsFrom (s.heap.objs.size + 1) scope.names []).lookup y.1).isSome = true) := fun ⟨n, v⟩ hy => by
  rcases S.par n (List.of_mem_zip hy).1 with q | q
  ·exact .inl q
  ·exact .inr ⟨q, PySem.W.cellsFrom_some _ _ _ (.inl q)⟩
 refine codeAny_call_function hr.depth (KX _ _ lk) rfl S.co S.gen rfl (PySem.W.codeRec_of KX hcd) (hb _ _ _ _ ?_)
 refine wpAny_newFunctionEnv_cells S.kind hkind fun env he s1 x => ?_
 subst he
 refine ⟨lim.keeps x.toInCall.keep, codeAny_func ?_⟩
 obtain ⟨t, ht, hq⟩ := hbody A outer s H vs Q E (hr.deeper _) hsp
 have I : Inv (cxOf CX P w K mg base N qual scope f cdv A outer s H E) [] (start N vs) H s1 := inv_start S hr.hd e0 hl r x
 refine wpAny_mono (ht [] s1 (start N vs) H _ I hq) (fun fl s' hs => ?_) fun e s' hs => hs
 have fin : ∀ {σ' : St} {H' : Hp} {v : V} {u : Value}, Inv (cxOf CX P w K mg base N qual scope f cdv A outer s H E) [] σ' H' s' -> RelV v u -> Q v H' -> CE outer P w H s Q u s' :=
  fun {σ' H' v u} J rv q => ⟨v, H', J.os, J.bare, J.base, J.hok, rv, q⟩
 cases fl with
 | ret u =>
  obtain ⟨v, σ', H', J, rv, q⟩ := hs
  exact fin J rv q
 | next =>
  obtain ⟨σ', H', J, q⟩ := hs
  exact fin (v := V.non) (u := Value.none) J rfl q
 | brk =>
  obtain ⟨_, _, _, q⟩ := hs
  exact False.elim q
 | cont =>
  obtain ⟨_, _, _, q⟩ := hs
  exact False.elim q
end L2
namespace L2
open PySem PySem.Spec PyProof.Rows
section
variable {X : Cx} {x : Str} {p pos : Pos} {e : Expr} {es : List Expr} {t : TA} {id T : String} {r : List V -> Hp -> VK -> Prop}
def tCB (r : List V -> Hp -> VK -> Prop) (t : TA) : TE := fun σ H Q => t σ H fun vs H1 => r vs H1 Q
theorem pe_callB (hc : CallR X (.builtin id) r) (hg : Gl X x) (hm : X.mg x = none) (hv : bootBuiltins x = some (.builtin id)) (ha : PA X (e :: es) t) (hn : x ≠ "__name__" := by decide) (hdb : (x == ("__debug__" : Str)) = false := by decide)
  (he : starEach (e :: es) X.env = (false, eval e X.env) :: starEach es X.env := by rfl) (hpl : (backTo pos (starEach es X.env)).any (·.1) = false := by rfl) : PE X (.Call (.Name x p) (e :: es) [] pos) (tCB r t) := by
 intro pins s σ H Q I h
 refine wpAny_Call_Name_kw (ld_blt I hg hm hv ?_ hn hdb)
 exact PyProof.Rows.callWith_builtin1 (thn (ha pos pins s σ H _ I h) fun us s1 ⟨vs, H1, I1, r1, q1⟩ => hc pins s1 σ H1 vs us Q I1 r1 q1) he hpl
theorem pe_callTy (hc : CallR X (.type T) r) (hg : Gl X x) (hm : X.mg x = none) (hv : bootBuiltins x = some (.type T)) (ha : PA X (e :: es) t) (hn : x ≠ "__name__" := by decide) (hdb : (x == ("__debug__" : Str)) = false := by decide)
  (he : starEach (e :: es) X.env = (false, eval e X.env) :: starEach es X.env := by rfl) (hpl : (backTo pos (starEach es X.env)).any (·.1) = false := by rfl) : PE X (.Call (.Name x p) (e :: es) [] pos) (tCB r t) := by
 intro pins s σ H Q I h
 refine wpAny_Call_Name_kw (ld_blt I hg hm hv ?_ hn hdb)
 exact PyProof.Rows.callWith_type1 (thn (ha pos pins s σ H _ I h) fun us s1 ⟨vs, H1, I1, r1, q1⟩ => hc pins s1 σ H1 vs us Q I1 r1 q1) he hpl
end
end L2
namespace HT
open PySem PyProof.Rows
section
open PySem.SeqAt
open PySem.AutoSeq1 (wpAny_loadPart')
open PySem.MeetsSeq PySem.MeetsSeq2 PySem.MeetsSeq3
end
section
variable {prog : Program} {w : World} {A : Around} {E : Value -> Shared -> Prop} {s : Shared}
def sIx (n d : Nat) : Option Int -> Nat
 | none => d
 | some v => if v < 0 then (v + (n : Int)).toNat else min v.toNat n
theorem sIx_none (n d : Nat) : sIx n d none = d := rfl
theorem sIx_nat (n d k : Nat) : sIx n d (some (k : Int)) = min k n := by
 show (if (k : Int) < 0 then ((k : Int) + (n : Int)).toNat else min (k : Int).toNat n) = min k n
 rw [if_neg (by omega), Int.toNat_natCast]
end
end HT
namespace L2
open PySem PySem.Spec PyProof.Rows
abbrev TO := St -> Hp -> (Option Int -> Hp -> Prop) -> Prop
def PO (X : Cx) (e : Option Expr) (t : TO) : Prop :=
 ∀ (pins : List (Addr × Obj)) (s : Shared) (σ : St) (H : Hp) (Q : Option Int -> Hp -> Prop), Inv X pins σ H s -> t σ H Q ->
  wpAny (model X.prog X.w) X.A (evalPart e X.env) (fun u s' => ∃ o H', Inv X pins σ H' s' /\ IsPart u o /\ Q o H') X.xe s
def tNoPart : TO := fun _ H Q => Q none H
def tPart (t : TE) : TO := fun σ H Q => t σ H fun x H1 => ∃ i, x = .int i /\ Q (some i) H1
section
variable {X : Cx} {e : Expr} {te : TE} {lo hi : Option Expr} {tl th : TO} {pos p2 : Pos}
theorem po_none : PO X none tNoPart := by
 intro pins s σ H Q I h
 rw [evalPart_none]
 exact wpAny_pure ⟨none, H, I, .none, h⟩
theorem po_some (h : PE X e te) : PO X (some e) (tPart te) := by
 intro pins s σ H Q I hw
 rw [evalPart_some]
 refine thn (h pins s σ H _ I hw) fun u s1 ⟨x, H1, I1, r1, q1⟩ => ?_
 obtain ⟨i, rfl, q⟩ := q1
 obtain ⟨t, rfl⟩ := r1
 exact ⟨some i, H1, I1, .int i t, q⟩
def SlR (X : Cx) (r : V -> Option Int -> Option Int -> Hp -> VK -> Prop) : Prop :=
 ∀ (pins : List (Addr × Obj)) (s : Shared) (σ : St) (H : Hp) (x : V) (v vl vu : Value) (lo hi : Option Int) (sl : Addr) (Q : VK), Inv X pins σ H s -> RelV x v -> s.heap.IsSliceOf sl vl vu .none -> IsPart vl lo -> IsPart vu hi -> r x lo hi H Q ->
  ∃ T id, typeLookup (.type T) "__getitem__" = pure (some (.builtin id)) /\ s.TypeIs v T /\ wpAny (model X.prog X.w) X.A (getItem v (.ref sl)) (EP X pins σ Q) X.xe s
def tSl (r : V -> Option Int -> Option Int -> Hp -> VK -> Prop) (te : TE) (tl th : TO) : TE := fun σ H Q => te σ H fun x H1 => tl σ H1 fun l H2 => th σ H2 fun u H3 => r x l u H3 Q
theorem pe_slice {r : V -> Option Int -> Option Int -> Hp -> VK -> Prop} (hr : SlR X r) (he : PE X e te) (hl : PO X lo tl) (hu : PO X hi th) : PE X (.Subscript e (.Slice lo hi none p2) pos) (tSl r te tl th) := by
 intro pins s σ H Q I h
 refine Subscript_ (thn (he pins s σ H _ I h) fun v s1 ⟨x, H1, I1, r1, q1⟩ => ?_)
 refine wpAny_Slice (thn (hl pins s1 σ H1 _ I1 q1) fun vl s2 ⟨l, H2, I2, pl, q2⟩ => thn (hu pins s2 σ H2 _ I2 q2) fun vu s3 ⟨u, H3, I3, pu, q3⟩ => ?_)
 rw [evalPart_none]
 refine wpAny_pure ?_
 have I4 : Inv X pins σ H3 { s3 with heap := s3.heap.push { cls := .type "slice", data := .fields #[vl, vu, .none] } } := I3.kept (t' := s3.toks) fun b ob q => Heap.get?_push_of_some _ q
 obtain ⟨T, id, hT, ht, hg⟩ := hr pins { s3 with heap := s3.heap.push { cls := .type "slice", data := .fields #[vl, vu, .none] } } σ H3 x v vl vu l u s3.heap.objs.size Q I4 r1 (Heap.IsSliceOf.new ..) pl pu q3
 show wpAny (model X.prog X.w) X.A (subscriptTail e (.Slice lo hi none p2) v (.ref s3.heap.objs.size)) (EP X pins σ Q) X.xe { s3 with heap := s3.heap.push { cls := .type "slice", data := .fields #[vl, vu, .none] } }
 exact tail_any (ops := [.ref s3.heap.objs.size, v]) ht hT hg (by with_unfolding_all rfl)
def cutV (xs : List V) (lo hi : Option Int) : List V := (xs.drop (HT.sIx xs.length 0 lo)).take (HT.sIx xs.length xs.length hi - HT.sIx xs.length 0 lo)
theorem cutV_length (xs : List V) (lo hi : Option Int) : (cutV xs lo hi).length <= xs.length := by
 unfold cutV
 rw [List.length_take, List.length_drop]
 omega
end
end L2
namespace L2
open PySem PySem.Spec PyProof.Rows
def ixN (n : Nat) (i : Int) : Option Nat := if 0 <= i then (if i < n then some i.toNat else none) else if -(n : Int) <= i then some (i + n).toNat else none
def atI {α : Type} (xs : List α) (i : Int) : Option α := (ixN xs.length i).bind fun j => xs[j]?
theorem ixN_seq {n : Nat} {i : Int} {j : Nat} (h : ixN n i = some j) : seqIndex? i n = some j /\ j < n /\ -(n : Int) <= i /\ i < n := by
 unfold ixN at h
 by_cases h0 : 0 <= i
 ·rw [if_pos h0] at h
  by_cases h1 : i < n
  ·rw [if_pos h1] at h
   have e : i.toNat = j := Option.some.inj h
   exact ⟨by rw [seqIndex_of h0 h1, e], by omega, by omega, h1⟩
  ·rw [if_neg h1] at h; cases h
 ·rw [if_neg h0] at h
  by_cases h1 : -(n : Int) <= i
  ·rw [if_pos h1] at h
   have e : (i + n).toNat = j := Option.some.inj h
   exact ⟨by rw [seqIndex_neg (by omega) h1, e], by omega, h1, by omega⟩
  ·rw [if_neg h1] at h; cases h
theorem atI_get {α : Type} {xs : List α} {i : Int} {v : α} (h : atI xs i = some v) : ∃ j, seqIndex? i xs.length = some j /\ xs[j]? = some v /\ j < xs.length /\ -(xs.length : Int) <= i /\ i < xs.length := by
 unfold atI at h
 cases e : ixN xs.length i with
 | none => rw [e] at h; cases h
 | some j =>
  rw [e] at h
  obtain ⟨h1, h2, h3, h4⟩ := ixN_seq e
  exact ⟨j, h1, h, h2, h3, h4⟩
theorem atI_nat {α : Type} {xs : List α} {j : Nat} {v : α} (h : xs[j]? = some v) : atI xs (j : Int) = some v := by
 have hj : j < xs.length := (List.getElem?_eq_some_iff.mp h).1
 have e : ixN xs.length (j : Int) = some j := by
  unfold ixN
  rw [if_pos (by omega), if_pos (by omega)]; simp
 unfold atI; rw [e]; exact h
def PlainIx (b : Expr) : Prop := ∀ o i, subscripted b false o i = operate [o, i] (getItem o i)
def IxR (X : Cx) (r : R2) : Prop :=
 ∀ (value slice : Expr) (pins : List (Addr × Obj)) (s : Shared) (σ : St) (H : Hp) (x y : V) (v u : Value) (Q : VK), Inv X pins σ H s -> RelV x v -> RelV y u -> r x y H Q ->
  subscripted slice false v u = operate [v, u] (getItem v u) -> wpAny (model X.prog X.w) X.A (subscriptTail value slice v u) (EP X pins σ Q) X.xe s
def MtR (X : Cx) (id : String) (r : V -> List V -> Hp -> VK -> Prop) : Prop :=
 ∀ (pins : List (Addr × Obj)) (s : Shared) (σ : St) (H : Hp) (x : V) (xs : List V) (v : Value) (us : List Value) (Q : VK), Inv X pins σ H s -> RelV x v -> Vals xs us -> r x xs H Q ->
  wpAny (model X.prog X.w) X.A (call (.builtin id) (v :: us)) (EP X pins σ Q) X.xe s
section
variable {X : Cx} {a b : Expr} {ta tb : TE} {pos : Pos}
theorem pe_ix {r : R2} (hr : IxR X r) (ha : PE X a ta) (hb : PE X b tb) (hs : PlainIx b) : PE X (.Subscript a b pos) (tOp r ta tb) := by
 intro pins s σ H Q I h
 exact Subscript_ (binT ha hb I h fun v u s2 x y H2 I2 rx ry q => hr a b pins s2 σ H2 x y v u Q I2 rx ry q (hs _ _))
def rIxL (K : PySem.W.Frag) : R2 := fun x y H Q => ∃ p xs i v, x = .ref p /\ y = .int i /\ SqL K H p xs /\ atI xs i = some v /\ Q v H
theorem ix_list : IxR X (rIxL X.K) := by
 intro value slice pins s σ H x y v u Q I rx ry h hs
 obtain ⟨p, xs, i, z, rfl, rfl, hq, he, q⟩ := h
 cases rx
 obtain ⟨t, rfl⟩ := ry
 obtain ⟨its, r, pl, hz⟩ := I.list hq
 obtain ⟨j, h1, h2, h3, h4, h5⟩ := atI_get he
 obtain ⟨w, ew, rw'⟩ := r.get h2
 have hl := r.length
 have hn := line63
 have fin : EP X pins σ Q w s := ⟨z, H, I, rw', q⟩
 by_cases h0 : 0 <= i
 ·have hj : i.toNat = j := by
   rw [seqIndex_of h0 h5] at h1
   exact Option.some.inj h1
  exact item_listR pl.isList h0 (by omega) (by rw [hj]; simpa using ew) fin hs
 ·have hj : (i + (its.toArray.size : Int)).toNat = j := by
   rw [seqIndex_neg (by omega) h4] at h1
   rw [List.size_toArray, <- hl]
   exact Option.some.inj h1
  exact subscriptTail_builtinR (x := w) pl.isList.typeIs slot_list_getitem.lookup
   (wpAny_getItem_list_neg (Q := fun r s' => r = w /\ EP X pins σ Q r s') pl.isList (by omega) (by rw [List.size_toArray] <;> omega) (by omega) (by rw [hj]; simpa using ew) ⟨rfl, fin⟩) hs
theorem mapSeq_set (its : List Value) (n j : Nat) (u : Value) : Obj.mapSeq (·.setIfInBounds j u) { cls := .type "list", data := .seq its.toArray n } = { cls := .type "list", data := .seq (its.set j u).toArray n } := by
 simp [Obj.mapSeq]
theorem Inv.lst {pins : List (Addr × Obj)} {σ : St} {H : Hp} {s : Shared} {p : Addr} {xs : List V} (I : Inv X pins σ H s) (h : H p = some (.lst xs)) :
  ∃ (its : List Value) (n : Nat), Vals xs its /\ s.heap.get? p = some { cls := .type "list", data := .seq its.toArray n } /\ xs.length <= sizeLine := by
 obtain ⟨z, its, n, r, e⟩ := I.hok p _ h
 exact ⟨its, n, r, e, z⟩
theorem Inv.lstUpd {pins : List (Addr × Obj)} {σ : St} {H : Hp} {s : Shared} {p : Addr} {xs ys : List V} {its its' : List Value} {n n' : Nat} {f : Obj -> Obj} (I : Inv X pins σ H s) (h : H p = some (.lst xs))
  (ho : s.heap.get? p = some { cls := .type "list", data := .seq its.toArray n }) (hf : f { cls := .type "list", data := .seq its.toArray n } = { cls := .type "list", data := .seq its'.toArray n' }) (r : Vals ys its') (hz : ys.length <= sizeLine) (t : Nat) :
  Inv X pins σ (upd H p (.lst ys)) { s with heap := s.heap.update p f, toks := t } := by
 have e : (s.heap.update p f).get? p = some { cls := .type "list", data := .seq its'.toArray n' } := by
  rw [Heap.get?_update_self f ho (by rw [hf] <;> rfl), hf]
 refine I.write (x := p) (e := p) (by rw [h]; trivial) (.inl rfl) (fun b u hb q => (Heap.get?_update_other _ _ (Ne.symm hb)).trans q) ⟨_, e⟩ ?_
 exact ⟨hz, its', n', r, e⟩
def rSetL : V -> V -> V -> Hp -> (Hp -> Prop) -> Prop := fun o i v H Q => ∃ p xs k j, o = .ref p /\ i = .int k /\ H p = some (.lst xs) /\ ixN xs.length k = some j /\ Q (upd H p (.lst (xs.set j v)))
theorem set_list : PSet X rSetL := by
 intro pins s σ H o i v ov iv u Q I ro ri rv h
 obtain ⟨p, xs, k, j, rfl, rfl, hp, hj, q⟩ := h
 cases ro
 obtain ⟨t, rfl⟩ := ri
 obtain ⟨its, n, r, ho, hz⟩ := I.lst hp
 obtain ⟨h1, h2, h3, h4⟩ := ixN_seq hj
 have hl := r.length
 have hn := line63
 have I' : Inv X pins σ (upd H p (.lst (xs.set j v))) { s with heap := s.heap.update p (Obj.mapSeq (·.setIfInBounds j u)) } :=
  I.lstUpd hp ho (mapSeq_set its n j u) (r.set rv j) (by rw [List.length_set]; exact hz) s.toks
 by_cases h0 : 0 <= k
 ·have hk : k.toNat = j := by
   rw [seqIndex_of h0 h4] at h1
   exact Option.some.inj h1
  exact PySem.W.ki_setAt ho h0 (by omega) (by rw [List.size_toArray, <- hl]; exact h4) (by rw [hk]; exact ⟨_, I', q⟩)
 ·have hk : (k + (its.toArray.size : Int)).toNat = j := by
   rw [seqIndex_neg (by omega) h3] at h1
   rw [List.size_toArray, <- hl]
   exact Option.some.inj h1
  exact PySem.W.ki_setBack ho (by omega) (by rw [List.size_toArray, <- hl]; exact h3) (by omega) (by rw [hk]; exact ⟨_, I', q⟩)
theorem slice_bounds (lo hi : Option Int) (n : Nat) : (sliceBounds lo hi none n).1 = ((HT.sIx n 0 lo : Nat) : Int) /\ (sliceBounds lo hi none n).2.1 = ((HT.sIx n n hi : Nat) : Int) /\ (sliceBounds lo hi none n).2.2 = 1 := by
 refine ⟨?_, ?_, rfl⟩
 ·cases lo with
  | none => simp [sliceBounds, HT.sIx]
  | some i =>
   simp only [sliceBounds, HT.sIx, Option.getD_none, show (1 : Int) > 0 by decide, if_true]
   by_cases h : i < 0
   ·simp only [h, if_true] <;> omega
   ·simp only [h, if_false] <;> omega
 ·cases hi with
  | none => simp [sliceBounds, HT.sIx]
  | some i =>
   simp only [sliceBounds, HT.sIx, Option.getD_none, show (1 : Int) > 0 by decide, if_true]
   by_cases h : i < 0
   ·simp only [h, if_true] <;> omega
   ·simp only [h, if_false] <;> omega
theorem slicePick_cut (its : List Value) (lo hi : Option Int) : slicePick its.toArray lo hi none = ((its.drop (HT.sIx its.length 0 lo)).take (HT.sIx its.length its.length hi - HT.sIx its.length 0 lo)).toArray := by
 obtain ⟨h1, h2, h3⟩ := slice_bounds lo hi its.toArray.size
 unfold slicePick
 rw [h1, h2, h3]
 simp only [sliceRange_one, pick_run, List.size_toArray] <;> rfl
def rSlL (K : PySem.W.Frag) : V -> Option Int -> Option Int -> Hp -> VK -> Prop := fun x lo hi H Q => ∃ a xs, x = .ref a /\ SqL K H a xs /\ ∀ p, H p = none -> Q (.ref p) (upd H p (.lst (cutV xs lo hi)))
theorem sl_list : SlR X (rSlL X.K) := by
 intro pins s σ H x v vl vu lo hi sl Q I rx hs pl pu h
 obtain ⟨a, xs, rfl, hx, q⟩ := h
 cases rx
 obtain ⟨its, r, ht, hz⟩ := I.list hx
 have hlen := r.length
 refine ⟨"list", _, slot_list_getitem.lookup, ht.isList.typeIs, ?_⟩
 refine wpAny_getItem_list_slice ht.isList hs pl pu .none (by simp) ?_ (by rw [List.size_toArray] <;> omega)
 rw [slicePick_cut, <- hlen]
 refine ⟨.ref s.heap.objs.size, _, I.laid (t' := s.toks) (o := .lst (cutV xs lo hi)) (fun b ob q => Heap.get?_push_of_some _ q) (Nat.le_refl _) ?_, rfl, q _ (I.hok.fresh (Nat.le_refl _))⟩
 exact ⟨Nat.le_trans (cutV_length xs lo hi) hz, _, 0, (r.drop (HT.sIx xs.length 0 lo)).take (HT.sIx xs.length xs.length hi - HT.sIx xs.length 0 lo), Heap.get?_push_size _ rfl⟩
theorem call_len_seq : CallR X (.builtin "len") (fun xs H Q => ∃ p ys, xs = [.ref p] /\ (SqL X.K H p ys \/ SqT X.K H p ys) /\ Q (.int ys.length) H) := by
 intro pins s σ H xs us Q I r h
 obtain ⟨p, ys, rfl, hq, q⟩ := h
 obtain ⟨u, rfl, rx⟩ := vals1 r
 cases rx
 have hn := line63
 rcases hq with hq | hq
 ·obtain ⟨its, r', pl, hz⟩ := I.list hq
  have hlen := r'.length
  exact Calls.call_len_list pl.isList (by simp only [List.size_toArray] <;> omega) ⟨.int ys.length, H, I.tok _, ⟨s.toks + 1, by rw [List.size_toArray, hlen]⟩, q⟩
 ·obtain ⟨its, r', pl, hz⟩ := I.tuple hq
  have hlen := r'.length
  exact len_tuple pl (by simp only [List.size_toArray] <;> omega) ⟨.int ys.length, H, I.tok _, ⟨s.toks + 1, by rw [List.size_toArray, hlen]⟩, q⟩
theorem call_list_of : CallR X (.type "list") (fun xs H Q => ∃ p ys, xs = [.ref p] /\ (SqL X.K H p ys \/ SqT X.K H p ys) /\ ∀ l, H l = none -> Q (.ref l) (upd H l (.lst ys))) := by
 intro pins s σ H xs us Q I r h
 obtain ⟨p, ys, rfl, hq, q⟩ := h
 obtain ⟨u, rfl, rx⟩ := vals1 r
 cases rx
 have fin : ∀ (its : List Value), Vals ys its -> ys.length <= sizeLine -> ∀ (h' : Heap) (c' : Nat), (∀ b o', s.heap.get? b = some o' -> h'.get? b = some o') ->
   h'.get? s.heap.objs.size = some { cls := .type "list", dict := none, data := .seq its.toArray c', slots := #[] } -> EP X pins σ Q (.ref s.heap.objs.size) { s with heap := h' } := fun its r' hz h' c' kp e =>
  ⟨.ref s.heap.objs.size, _, I.laid (t' := s.toks) kp (Nat.le_refl _) (show ObjOk X.prog X.w _ h' _ (.lst ys) from ⟨hz, its, c', r', e⟩), rfl, q _ (I.hok.fresh (Nat.le_refl _))⟩
 rcases hq with hq | hq
 ·obtain ⟨its, r', pl, hz⟩ := I.list hq
  have hlen := r'.length
  obtain ⟨o, ho, hc, n, hd⟩ := pl.isList
  exact call_list_seq p (.inl rfl) ho hc hd (fun h' c' kp e => fin its r' hz h' c' kp e) (by simp only [List.size_toArray] <;> omega)
 ·obtain ⟨its, r', pl, hz⟩ := I.tuple hq
  have hlen := r'.length
  obtain ⟨o, ho, hc, n, hd⟩ := pl
  exact call_list_seq p (.inr rfl) ho hc hd (fun h' c' kp e => fin its r' hz h' c' kp e) (by simp only [List.size_toArray] <;> omega)
def tyV (K : PySem.W.Frag) (T : String) (x : V) (H : Hp) : Prop := match x with
 | .str _ => T = "str"
 | .int _ => T = "int"
 | .ref p => (T = "list" /\ ∃ xs, SqL K H p xs) \/ (T = "tuple" /\ ∃ o, K.lookup p = some o /\ o.cls = .type "tuple" /\ o.dict = none) \/
   (T = "dict" /\ ((∃ kvs, H p = some (.dK kvs)) \/ ∃ kvs, H p = some (.dT kvs))) \/ (T = "set" /\ ∃ S n, H p = some (.set S n))
 | _ => False
theorem tyV_is {pins : List (Addr × Obj)} {σ : St} {H : Hp} {s : Shared} {T : String} {x : V} {v : Value} (I : Inv X pins σ H s) (r : RelV x v) (ty : tyV X.K T x H) :
  s.TypeIs v T /\ ∀ a, v = .ref a -> ∃ ob, s.heap.get? a = some ob /\ ob.dict = none := by
 cases x with
 | str z =>
  obtain ⟨t, rfl⟩ := r
  cases (show T = "str" from ty)
  exact ⟨typeIs_str s z t, fun _ e => nomatch e⟩
 | int i =>
  obtain ⟨t, rfl⟩ := r
  cases (show T = "int" from ty)
  exact ⟨typeIs_int s i t, fun _ e => nomatch e⟩
 | ref p =>
  cases r
  rcases ty with ⟨rfl, xs, hq⟩ | ⟨rfl, o, hk, hc, hd⟩ | ⟨rfl, hk⟩ | ⟨rfl, S, n, hk⟩
  ·obtain ⟨its, _, pl, _⟩ := I.list hq
   refine ⟨pl.isList.typeIs, fun a e => ?_⟩
   cases e
   obtain ⟨o, n, e, c, hd, _⟩ := pl
   exact ⟨o, e, hd⟩
  ·refine ⟨⟨o, I.kIn p o hk, hc⟩, fun a e => ?_⟩
   cases e
   exact ⟨o, I.kIn _ o hk, hd⟩
  ·have z : ∃ o, s.heap.get? p = some o /\ o.ExactDict := by
    rcases hk with ⟨kvs, hk⟩ | ⟨kvs, hk⟩
    ·obtain ⟨_, _, _, _, o, _, _, e, ex, _⟩ := I.hok p _ hk
     exact ⟨o, e, ex⟩
    ·obtain ⟨_, _, _, _, o, _, _, e, ex, _⟩ := I.hok p _ hk
     exact ⟨o, e, ex⟩
   obtain ⟨o, e, ex⟩ := z
   refine ⟨⟨o, e, ex.1⟩, fun a e2 => ?_⟩
   cases e2
   exact ⟨o, e, ex.2.1⟩
  ·obtain ⟨o, _, _, _, e, ex, _⟩ := I.hok p _ hk
   refine ⟨⟨o, e, ex.1⟩, fun a e2 => ?_⟩
   cases e2
   exact ⟨o, e, ex.2.1⟩
 | _ => exact False.elim ty
def tBM (K : PySem.W.Frag) (T : String) (r : V -> List V -> Hp -> VK -> Prop) (to : TE) (t : TA) : TE := fun σ H Q => to σ H fun x H1 => tyV K T x H1 /\ t σ H1 fun xs H2 => r x xs H2 Q
variable {o e : Expr} {es : List Expr} {to : TE} {t : TA} {name : Str} {apos cpos : Pos} {T id : String} {r : V -> List V -> Hp -> VK -> Prop}
theorem pe_bm (pa : PlainAttrs T) (slot : Slot T name id) (hty : typeOf (.builtin id) = pure (.type "method_descriptor")) (hm : MtR X id r) (ho : PE X o to) (ha : PA X (e :: es) t)
  (hbase : attributeBase o name X.env (eval o X.env) = eval o X.env := by rfl)
  (hfew : ((backTo cpos (starEach (e :: es) X.env)).all (fun x => !x.1) && (backToKw cpos (keywordEach [] X.env)).all (fun x => x.1.isSome)
   && decide ((e :: es).length + ([] : List Keyword).length + (if ([] : List Keyword).isEmpty then 0 else 1) < 30)) = true := by rfl)
  (hline : (apos.endLine == cpos.line) = true := by rfl) (hs : starEach (e :: es) X.env = (false, eval e X.env) :: starEach es X.env := by rfl) (hplain : (backTo cpos (starEach es X.env)).any (·.1) = false := by rfl) :
  PE X (.Call (.Attribute o name apos) (e :: es) [] cpos) (tBM X.K T r to t) := by
 intro pins s σ H Q I h
 refine wpAny_Call_method_late hbase hfew hline rfl (thn (ho pins s σ H _ I h) fun v s1 ⟨x, H1, I1, r1, ty, q1⟩ => ?_)
 obtain ⟨h1, h2⟩ := tyV_is I1 r1 ty
 refine ⟨T, id, pa, slot, hty, h1, h2, ?_⟩
 have hA := ha cpos pins s1 σ H1 _ I1 q1
 rw [hs] at hA ⊢
 refine Calls.callWith_builtin (by show (false || (backTo cpos (starEach es X.env)).any (·.1)) = false; rw [hplain] <;> rfl) (Calls.evalArgs_plain ?_)
 exact thn hA fun us s2 ⟨vs, H2, I2, r2, q2⟩ => hm pins s2 σ H2 x vs v us Q I2 r1 r2 q2
end
end L2
namespace L2
open PySem PySem.Spec PyProof.Rows
def MtM (X : Cx) (id : String) (r : V -> List V -> Hp -> VK -> Prop) : Prop :=
 ∀ (pins : List (Addr × Obj)) (s : Shared) (σ : St) (H : Hp) (x : V) (xs : List V) (v : Value) (us : List Value) (Q : VK), Inv X pins σ H s -> RelV x v -> Vals xs us -> r x xs H Q ->
  wpAny (model X.prog X.w) X.A (call (.builtin id) (v :: us)) (EP X pins σ Q) X.xe s
theorem Vals.one : ∀ {x : V} {us : List Value}, Vals [x] us -> ∃ u, us = [u] /\ RelV x u
 | _, _, .cons r .nil => ⟨_, rfl, r⟩
theorem Vals.eraseIdx : ∀ {xs : List V} {us : List Value} (i : Nat), Vals xs us -> Vals (xs.eraseIdx i) (us.eraseIdx i)
 | _, _, _, .nil => .nil
 | _, _, 0, .cons _ t => t
 | _, _, i + 1, .cons r t => .cons r (Vals.eraseIdx i t)
theorem Vals.rep {xs : List V} {us : List Value} (h : Vals xs us) : ∀ k : Nat, Vals (List.replicate k xs).flatten (List.replicate k us).flatten
 | 0 => .nil
 | k + 1 => by
  rw [List.replicate_succ, List.replicate_succ, List.flatten_cons, List.flatten_cons]
  exact Vals.append h (Vals.rep h k)
theorem len_erase {α : Type} : ∀ (l : List α) (i : Nat), (l.eraseIdx i).length <= l.length
 | [], _ => Nat.le_refl _
 | _ :: _, 0 => Nat.le_succ _
 | _ :: r, i + 1 => Nat.succ_le_succ (len_erase r i)
theorem foldl_rep (its : List Value) : ∀ (k : Nat) (acc : List Value),
  List.foldl (fun x1 x2 => x1 ++ x2) acc.toArray (List.replicate k its.toArray) = (acc ++ (List.replicate k its).flatten).toArray
 | 0, acc => by simp
 | k + 1, acc => by
  have e : acc.toArray ++ its.toArray = (acc ++ its).toArray := by simp
  have e2 : (acc ++ its) ++ (List.replicate k its).flatten = acc ++ (List.replicate (k + 1) its).flatten := by
   rw [List.replicate_succ, List.flatten_cons, List.append_assoc]
  rw [<- e2, <- foldl_rep its k (acc ++ its), <- e, List.replicate_succ, List.foldl_cons]
section
variable {X : Cx} {pins : List (Addr × Obj)} {σ : St} {H : Hp} {s : Shared} {l b : Addr} {xs ys zs : List V}
theorem Inv.lset {its its' : List Value} {n : Nat} {f : Array Value -> Array Value} {t' : Nat} (I : Inv X pins σ H s) (hH : H l = some (.lst xs))
  (e : s.heap.get? l = some { cls := .type "list", data := .seq its.toArray n }) (hf : f its.toArray = its'.toArray) (hv : Vals ys its') (hz : ys.length <= sizeLine) :
  Inv X pins σ (upd H l (.lst ys)) { s with heap := s.heap.update l (Obj.mapSeq f), toks := t' } := by
 have q := PySem.IsL.update e f
 rw [hf] at q
 refine I.write (x := l) (e := l) (by rw [hH]; exact trivial) (.inl rfl) (fun b' u hb hu => (Heap.get?_update_other s.heap (Obj.mapSeq f) (Ne.symm hb)).trans hu) ⟨_, q⟩ ?_
 exact ⟨hz, its', _, hv, q⟩
theorem Inv.lnew {its : List Value} {t' : Nat} (I : Inv X pins σ H s) (hv : Vals ys its) (hz : ys.length <= sizeLine) :
  Inv X pins σ (upd H s.heap.objs.size (.lst ys)) { s with heap := s.heap.push { cls := .type "list", data := .seq its.toArray }, toks := t' } :=
 I.laid (fun _ _ q => Heap.get?_push_of_some _ q) (Nat.le_refl _) ⟨hz, its, 0, hv, Heap.get?_push_size _ rfl⟩
theorem Inv.fresh (I : Inv X pins σ H s) : H s.heap.objs.size = none := I.hok.fresh (Nat.le_refl _)
theorem Inv.lstM (I : Inv X pins σ H s) (hH : H l = some (.lst xs)) : xs.length <= sizeLine /\ ∃ (its : List Value) (n : Nat), Vals xs its /\ xs.length = its.length /\ s.heap.get? l = some { cls := .type "list", data := .seq its.toArray n } := by
 obtain ⟨z, its, n, r, e⟩ := I.hok l _ hH
 exact ⟨z, its, n, r, r.length, e⟩
theorem notLongL {n : Nat} (h : n <= sizeLine) : Builtin.List.listTooLong n = false := by
 unfold Builtin.List.listTooLong
 exact decide_eq_false (by omega)
end
section
variable {X : Cx}
def rAppend : V -> List V -> Hp -> VK -> Prop := fun x vs H Q => ∃ l xs y, x = .ref l /\ vs = [y] /\ H l = some (.lst xs) /\ xs.length < sizeLine /\ Q .non (upd H l (.lst (xs ++ [y])))
theorem mt_append : MtM X "list.append" rAppend := by
 intro pins s σ H x vs v us Q I rx rv h
 obtain ⟨l, xs, y, rfl, rfl, hH, hz, q⟩ := h
 cases rx
 obtain ⟨u, rfl, ru⟩ := rv.one
 obtain ⟨z, its, n, r, hl, e⟩ := I.lstM hH
 refine call_meets F.slot_list_append ⟨_, e, rfl⟩ F.entry_list_append (F.args_list_append_2 _ _) (PySem.list_append l its.toArray n u (by rw [List.size_toArray]; omega)) ⟨e, ?_⟩
 refine ⟨.non, _, I.lset (its' := its ++ [u]) hH e (by simp) (r.append (.cons ru .nil)) ?_, rfl, q⟩
 rw [List.length_append, List.length_singleton]
 omega
def rExtend : V -> List V -> Hp -> VK -> Prop := fun x vs H Q => ∃ l b xs zs, x = .ref l /\ vs = [.ref b] /\ H l = some (.lst xs) /\ H b = some (.lst zs) /\ xs.length + zs.length <= sizeLine /\ Q .non (upd H l (.lst (xs ++ zs)))
theorem mt_extend : MtM X "list.extend" rExtend := by
 intro pins s σ H x vs v us Q I rx rv h
 obtain ⟨l, b, xs, zs, rfl, rfl, hH, hB, hz, q⟩ := h
 cases rx
 obtain ⟨u, rfl, ru⟩ := rv.one
 cases ru
 obtain ⟨z, its, n, r, hl, e⟩ := I.lstM hH
 obtain ⟨z2, its2, n2, r2, hl2, e2⟩ := I.lstM hB
 have hsz : its.toArray.size + its2.toArray.size <= sizeLine := by rw [List.size_toArray, List.size_toArray]; omega
 have hlong : ¬ (!its.toArray.isEmpty && Builtin.List.listTooLong (its.toArray.size + its2.toArray.size)) = true := by
  rw [notLongL hsz, Bool.and_false]
  exact Bool.false_ne_true
 refine call_meets F.slot_list_extend ⟨_, e, rfl⟩ F.entry_list_extend (F.args_list_extend_2 _ _)
  (AutoSeq1.list_extend_list_list_0 l its.toArray n b its2.toArray n2 hlong (by rw [List.size_toArray]; omega) (by omega)) ⟨e, e2, ?_⟩
 refine ⟨.non, _, I.lset (its' := its ++ its2) hH e (by simp) (r.append r2) ?_, rfl, q⟩
 rw [List.length_append]
 omega
def rPopAt : V -> List V -> Hp -> VK -> Prop := fun x vs H Q => ∃ l xs i k y, x = .ref l /\ vs = [.int i] /\ H l = some (.lst xs) /\ -(2 ^ 63) <= i /\ i < 2 ^ 63 /\ seqIndex? i xs.length = some k /\ xs[k]? = some y /\ Q y (upd H l (.lst (xs.eraseIdx k)))
theorem mt_popAt : MtM X "list.pop" rPopAt := by
 intro pins s σ H x vs v us Q I rx rv h
 obtain ⟨l, xs, i, k, y, rfl, rfl, hH, h1, h2, hk, hy, q⟩ := h
 cases rx
 obtain ⟨u, rfl, ru⟩ := rv.one
 obtain ⟨t, rfl⟩ := ru
 obtain ⟨z, its, n, r, hl, e⟩ := I.lstM hH
 obtain ⟨w, hw, rw'⟩ := r.get hy
 refine call_meets F.slot_list_pop ⟨_, e, rfl⟩ F.entry_list_pop (F.args_list_pop_2 _ _)
  (MeetsSeq.list_pop_at l its.toArray n i t k w (fitsIndex_both h1 h2) (by rw [List.size_toArray, <- hl]; exact hk) (by rw [<- Array.getElem?_toList]; exact hw) (by rw [List.size_toArray]; omega)) ⟨e, ?_⟩
 refine ⟨y, _, I.lset (its' := its.eraseIdx k) hH e ?_ (r.eraseIdx k) ?_, rw', q⟩
 ·show its.toArray.eraseIdxIfInBounds k = (its.eraseIdx k).toArray
  rw [List.eraseIdxIfInBounds_toArray]
 ·have := len_erase xs k
  omega
def rCat : R2 := fun x y H Q => ∃ l b xs zs, x = .ref l /\ y = .ref b /\ H l = some (.lst xs) /\ H b = some (.lst zs) /\ xs.length + zs.length <= sizeLine /\ ∀ p, H p = none -> Q (.ref p) (upd H p (.lst (xs ++ zs)))
theorem op_cat : OpR X (binaryOp .Add) rCat := by
 intro pins s σ H x y v u Q I rx ry h
 obtain ⟨l, b, xs, zs, rfl, rfl, hH, hB, hz, q⟩ := h
 cases rx
 cases ry
 obtain ⟨z, its, n, r, hl, e⟩ := I.lstM hH
 obtain ⟨z2, its2, n2, r2, hl2, e2⟩ := I.lstM hB
 refine PySem.P.add_list e e2 ?_ (by rw [List.size_toArray, List.size_toArray]; omega)
 have ea : its.toArray ++ its2.toArray = (its ++ its2).toArray := by simp
 rw [ea]
 exact ⟨.ref _, _, I.lnew (t' := s.toks) (r.append r2) (by rw [List.length_append]; omega), rfl, q _ I.fresh⟩
def rRep : R2 := fun x y H Q => ∃ l k xs, x = .ref l /\ y = .int k /\ H l = some (.lst xs) /\ -(2 ^ 63) <= k /\ k < 2 ^ 63 /\ xs.length * k.toNat <= sizeLine /\
 ∀ p, H p = none -> Q (.ref p) (upd H p (.lst (List.replicate k.toNat xs).flatten))
theorem len_rep {α : Type} (xs : List α) (k : Nat) : (List.replicate k xs).flatten.length = k * xs.length := by
 induction k with
 | zero => simp
 | succ k ih => rw [List.replicate_succ, List.flatten_cons, List.length_append, ih, Nat.succ_mul, Nat.add_comm]
theorem op_rep : OpR X (binaryOp .Mult) rRep := by
 intro pins s σ H x y v u Q I rx ry h
 obtain ⟨l, k, xs, rfl, rfl, hH, h1, h2, hz, q⟩ := h
 cases rx
 obtain ⟨t, rfl⟩ := ry
 obtain ⟨z, its, n, r, hl, e⟩ := I.lstM hH
 have hlen : its.toArray.size * k.toNat <= sizeLine := by rw [List.size_toArray, <- hl]; exact hz
 have hcap : ¬ its.toArray.size * k.toNat > (2 ^ 63 - 1) / 8 := by
  have : (sizeLine : Nat) <= (2 ^ 63 - 1) / 8 := by decide
  omega
 have hfit : ¬ (!Builtin.List.listFitsIndex k) = true := by
  rw [fitsIndex_both h1 h2]
  exact Bool.false_ne_true
 have hlong : ¬ Builtin.List.listTooLong (its.toArray.size * k.toNat) = true := by
  rw [notLongL hlen]
  exact Bool.false_ne_true
 have hnew : List.foldl (fun x1 x2 => x1 ++ x2) #[] (List.replicate (if its.toArray.isEmpty = true then 0 else k.toNat) its.toArray) = (List.replicate k.toNat its).flatten.toArray := by
  have f0 : ∀ m : Nat, List.foldl (fun x1 x2 => x1 ++ x2) #[] (List.replicate m its.toArray) = (List.replicate m its).flatten.toArray := fun m => by
   have := foldl_rep its m []
   rw [List.nil_append] at this
   exact this
  rw [f0]
  cases its with
  | nil => simp
  | cons a r' => rw [if_neg (by simp)]
 refine wpAny_binaryOp_repeat_ref (T := "list") (U := "int") (by decide) ⟨_, e, rfl⟩ (fun s' => typeIs_int s' k t) noFill_list_mul F.fills_int_mul F.slot_int_rmul repeat_list F.slot_int_index.lookup
  (call_meets F.slot_int_rmul (typeIs_int s k t) F.entry_int_rmul (F.args_int_rmul_2 _ _) (int___rmul___int_list k t l its.toArray n)
   ⟨e, rfl, ⟨_, e, rfl⟩, call_meets F.slot_list_mul ⟨_, e, rfl⟩ F.entry_list_mul (F.args_list_mul_2 _ _) (AutoListH.list___mul___list_int_3 l its.toArray n k t hfit hcap hlong) ⟨e, ?_⟩⟩)
 rw [hnew]
 exact ⟨.ref _, _, I.lnew (t' := s.toks) (r.rep k.toNat) (by rw [len_rep, Nat.mul_comm]; exact hz), rfl, q _ I.fresh⟩
end
section
variable {prog : Program} {w : World} {A : Around} {E : Value -> Shared -> Prop} {s : Shared}
set_option maxRecDepth 100000 in
end
section
variable {X : Cx}
end
end L2
namespace Att
open PySem PySem.W PySem.Calls PyProof.Rows
theorem ints_of_wellAll {P : Params} {h : Heap} : ∀ (ns : List Int) (vs : List Value), WellAll P h vs (ns.map WData.int) -> IntsAre vs ns := by
 intro ns
 induction ns with
 | nil =>
  intro vs w
  rw [List.map_nil] at w
  cases w
  exact .nil
 | cons n ns ih =>
  intro vs w
  rw [List.map_cons] at w
  cases w with
  | cons a b =>
   cases a
   exact .cons _ _ (ih _ b)
theorem script_of {l : OpenLaw} {n : Nat} (hn : l.most = some n) {P : Params} {h : Heap} {args : List WData} {vals : List Value}
  (hpre : l.row.toRowW.claim.pre args = true) (hwl : WellAll P h vals args) :
  ∃ a vs ns, vals = [Value.ref a] /\ args = [WData.list (ns.map WData.int)] /\ h.get? a = some { cls := .type "list", data := .seq vs.toArray } /\ IntsAre vs ns /\ ns.length <= n := by
 have hsh : WShape.hasAll [] args [.list .int] = true := (pre_splitW hpre).1
 have hc : l.pre.holds [] { args := args } = true := (pre_splitW hpre).2
 obtain ⟨d, r, rfl, h1, h2⟩ := hasAllW_cons hsh
 obtain rfl := hasAllW_nil h2
 obtain ⟨xs, rfl, h3⟩ := hasW_list h1
 obtain ⟨ns, rfl⟩ := items_int h3
 have hlen : ns.length <= n := by
  unfold OpenLaw.pre at hc
  have h4 : (WTm.not (.lt (.lit (.int (n : Int))) (.len (.arg 0)))).holds [] { args := [.list (ns.map .int)] } = true := by
   have h4 := (holds_andW hc).1
   rw [hn] at h4
   exact h4
  have h5 := condW_of h4 (w_not (w_lt w_lit (w_len_list (w_arg rfl))))
  rw [List.length_map] at h5
  refine Nat.le_of_not_lt fun q => ?_
  have q' : (n : Int) < ((ns.length : Nat) : Int) := by omega
  first
   |(rw [decide_eq_true q'] at h5; exact absurd h5 (by decide))
   |(simp at h5; omega)
 cases hwl with
 | cons w1 w2 =>
  cases w2
  cases w1 with
  | list ho hall => exact ⟨_, _, ns, rfl, rfl, ho, ints_of_wellAll ns _ hall, hlen⟩
theorem post_true (l : OpenLaw) (args : List WData) : l.row.toRowW.claim.post args (.bool true) args = true :=
 postW_of (r := l.row.toRowW) (X := (true == true))
  (show WShape.has [] (.bool true) .bool = true by first | rfl | decide | simp [WShape.has, WShape.arms, WShape.armsAll])
  (show (WTm.eq .res (.lit (.bool true))).value [] { args := args, res := some (.bool true), after := args } = some (.bool (true == true)) from w_eq_bool (w_res rfl) w_lit) rfl
theorem attach_call {l : OpenLaw} {n : Nat} {q : Program} {loose : List Str} {XP : (Str -> Option Value) -> Heap -> Prop} {YP : World -> Heap -> Prop} {d : DefRec}
  (hn : l.most = some n) (hdf : d.params.defaults = [])
  (call : ∀ (w : World) (s₀ s₁ : Shared) (mg mb : Str -> Option Value) (fa : Addr) (o : Obj) (pm cd doc : Value) (a : Addr) (vs : List Value) (ns : List Int),
   Ground q loose [] XP w s₀ mg mb s₁.heap -> YP w s₁.heap ->
   s₁.heap.get? fa = some o -> o.data = .func (docDef d.name d.params d.body d.scope pm cd doc) -> s₁.heap.CodeRec cd d.name -> mg d.name = some (.ref fa) ->
   s₁.heap.get? a = some { cls := .type "list", data := .seq vs.toArray } -> IntsAre vs ns -> ns.length <= n -> s₁.gens = #[] ->
   codeAny (model l.prog w) callerA (.call (.ref fa) ⟨[.ref a], []⟩) (fun r s' => r = .ok (.ret (.bool true)) /\ OldK s₁.heap s'.heap /\ s'.os = s₁.os /\ AllBare s'.gens) s₁) :
  WalkO q loose XP YP l.row.toRowW d [] (fun f vs => PySem.call f vs) := by
 intro w s₀ s₁ mg mb G Y fa o pm cd doc dV kV ho hd hcd hD hmg hg args vals as hpre hlay hrd hwl hlo
 obtain rfl : dV = .none := Dflts.none hD hdf
 obtain rfl : kV = .none := Dflts.noKw hD
 obtain ⟨a, vs, ns, rfl, rfl, hobj, hints, hlen⟩ := script_of hn hpre hwl
 refine enter_call (codeAny_mono (call w s₀ s₁ mg mb fa o pm cd doc a vs ns G Y ho (fd_plain hd) hcd hmg hobj hints hlen hg) fun r s' hq => ?_)
 obtain ⟨rfl, h2, h3, h4⟩ := hq
 exact ⟨.inl ⟨.bool true, .bool true, [], rfl, fun _ => rfl, .bool true, post_true l _, fun _ => ⟨List.Pairwise.nil, fun _ hm => (nomatch hm)⟩⟩, h2, h3, h4⟩
section
variable {prog : Program} {w : World} {A : Around} {E : Value -> Shared -> Prop} {s : Shared} {K : Frag}
end
end Att
namespace L2
open PySem PySem.Spec PyProof.Rows
theorem vals_ints : ∀ {vs : List Value} {ns : List Int}, IntsAre vs ns -> Vals (ns.map V.int) vs
 | _, _, .nil => .nil
 | _, _, .cons n t h => .cons ⟨t, rfl⟩ (vals_ints h)
def Only (H : Hp) : Prop := ∀ b, H b = none \/ ∃ o xs, H b = some (.frz o (.lst xs))
theorem law_call {P : Program} {w : World} {K : PySem.W.Frag} {mg mb : Str -> Option Value} {CX : CXT} {k : Nat} {fa a : Addr} {fd : FuncData} {x : Str} {sp : Sp} {s₁ : Shared} {vs : List Value} {ns : List Int}
  (KX : K.In s₁.heap) (hns : s₁.heap.Ns mainGlobals mg) (hb : s₁.heap.Ns builtinsNs mb) (hbb : ∀ x : Str, x ≠ "__name__" -> mb x = bootBuiltins x) (hlim : s₁.heap.NoLimit) (hg : s₁.gens = #[])
  (ha : s₁.heap.get? a = some { cls := .type "list", data := .seq vs.toArray }) (hi : IntsAre vs ns) (hl : ns.length <= sizeLine) (hr : Room k callerA)
  (F : ∀ base : Heap, K.In base -> base.Ns mainGlobals mg -> FnOk P w K mg base CX k fa fd [x] sp) (hbind : ∀ (s : Shared) (u : Value), BindsTo s fd ⟨[u], []⟩ [(x, u)])
  (hsp : ∀ H : Hp, Only H -> SqL K H a (ns.map V.int) -> sp [.ref a] H (fun v _ => v = .bl true) fun _ _ _ => False)
  (hCX : ∀ H e s', CX [] H s₁ (fun _ _ _ => False) e s' -> False) :
  codeAny (model P w) callerA (.call (.ref fa) ⟨[.ref a], []⟩) (fun r s' => r = .ok (.ret (.bool true)) /\ OldK s₁.heap s'.heap /\ s'.os = s₁.os /\ AllBare s'.gens) s₁ := by
 have rv := vals_ints hi
 have lenV := hi.length
 have core : ∀ H : Hp, Only H -> SqL K H a (ns.map V.int) -> HOk P w H s₁.heap -> (∀ b, H b ≠ none -> b = a) -> (H a ≠ none -> K.lookup a = none) ->
   codeAny (model P w) callerA (.call (.ref fa) ⟨[.ref a], []⟩) (fun r s' => r = .ok (.ret (.bool true)) /\ OldK s₁.heap s'.heap /\ s'.os = s₁.os /\ AllBare s'.gens) s₁ := by
  intro H hO hS hok hA hK
  have base_of : ∀ {b : Addr} {o : Obj}, s₁.heap.get? b = some o -> H b = none -> (hidT s₁.heap H).get? b = some o := fun e n => hidT_get e n
  have noA : ∀ {b : Addr} {o : Obj} {es : Array DictEntry} {ep : Nat}, s₁.heap.get? b = some o -> o.data = .dict es ep -> H b = none := fun {b o es ep} e d => by
   cases q : H b with
   | none => rfl
   | some u =>
    have e' : b = a := hA b (by rw [q]; simp)
    subst e'
    rw [ha] at e; cases e
    have d' : Data.seq vs.toArray _ = Data.dict es ep := d
    cases d'
  have nsK : ∀ {b : Addr} {m : Str -> Option Value}, s₁.heap.Ns b m -> (hidT s₁.heap H).Ns b m := fun {b m} ⟨o, es, ep, e, d, r⟩ => ⟨o, es, ep, base_of e (noA e d), d, r⟩
  have hKb : K.In (hidT s₁.heap H) := fun b o e => base_of (KX b o e) (by
   cases q : H b with
   | none => rfl
   | some u =>
    have e' : b = a := hA b (by rw [q]; simp)
    subst e'
    rw [hK (by rw [q]; simp)] at e; cases e)
  have hM : Mod K mg (hidT s₁.heap H) := ⟨hKb, nsK hns, ⟨mb, nsK hb, hbb⟩, let ⟨mc, h1, h2⟩ := hlim; ⟨mc, nsK h1, h2⟩⟩
  have e0 : Env0 P w K mg (hidT s₁.heap H) callerA [] s₁ H := ⟨rfl, hM, fun b o e => of_hidT e, Nat.le_of_eq (hidT_size _ _), trivial, fun b hb => absurd (show b ∈ ([] : List Addr) from hb) (by simp), hok, .of_eq hg⟩
  refine codeAny_mono ((F _ hKb (nsK hns)).run callerA [] s₁ H ⟨[.ref a], []⟩ [.ref a] [.ref a] _ _ hr e0 (hbind s₁ (.ref a)) (.cons rfl .nil) (hsp H hO hS)) fun r s' h => ?_
  cases r with
  | error e => exact (hCX H e s' h).elim
  | ok fl =>
   cases fl with
   | next => exact False.elim h
   | brk => exact False.elim h
   | cont => exact False.elim h
   | ret u =>
    obtain ⟨v, H', os, bare, un, hok', r', q⟩ := h
    have q' : v = .bl true := q
    subst q'
    obtain rfl : u = Value.bool true := r'
    refine ⟨rfl, OldK.of_keep fun b o e => ?_, os, bare⟩
    cases q : H b with
    | none => exact un.keep b o e q (by intro z; exact absurd (show b ∈ ([] : List Addr) from z) (by simp)) (by simp)
    | some u =>
     rcases hO b with z | ⟨ob, xs, z⟩
     ·rw [q] at z; cases z
     ·have z2 := un.frzs b ob _ z
      obtain ⟨e1, _⟩ := hok b _ z
      obtain ⟨e2, _⟩ := hok' b _ z2
      rw [e] at e1; cases e1
      exact e2
 cases hk : K.lookup a with
 | some o =>
  have e := KX a o hk
  rw [ha] at e
  cases e
  refine core (fun _ => none) (fun _ => .inl rfl) (.inr ⟨_, vs.toArray, _, hk, rfl, rfl, rfl, by rw [List.size_toArray, lenV]; exact hl, by simpa using rv⟩) (fun b u z => by have z' : (none : Option HO) = some u := z; cases z') (fun b z => absurd rfl z) fun z => absurd rfl z
 | none =>
  refine core (fun b => if b = a then some (.frz { cls := .type "list", data := .seq vs.toArray } (.lst (ns.map V.int))) else none) (fun b => ?_) (.inl (.inr ⟨{ cls := .type "list", data := .seq vs.toArray }, if_pos rfl⟩)) (fun b u z => ?_) (fun b z => ?_) fun _ => hk
  ·by_cases hb : b = a
   ·exact .inr ⟨_, _, if_pos hb⟩
   ·exact .inl (if_neg hb)
  ·by_cases hb : b = a
   ·have z' := (if_pos hb).symm.trans z
    cases z'
    subst hb
    exact ⟨ha, by rw [List.length_map]; exact hl, vs, _, rv, ha⟩
   ·have z' := (if_neg hb).symm.trans z
    cases z'
  ·by_cases hb : b = a
   ·exact hb
   ·exact absurd (if_neg hb) z
end L2
namespace L2
open PySem PySem.Spec PyProof.Rows
theorem walk_of {l : PySem.W.OpenLaw} {n k : Nat} {q : Program} {loose : List Str} {XP : (Str -> Option Value) -> Heap -> Prop} {YP : World -> Heap -> Prop} {d : DefRec} {K : Params -> PySem.W.Frag} {CX : World -> CXT} {sp : World -> Sp} {x : Str}
  (hn : l.most = some n) (hn2 : n <= sizeLine) (hdf : d.params.defaults = []) (hr : Room k callerA)
  (hY : ∀ (w : World) (h : Heap), YP w h -> (K w.params).In h)
  (F : ∀ (w : World) (mg : Str -> Option Value) (fa : Addr) (h : Heap), (K w.params).In h -> h.Ns mainGlobals mg -> mg d.name = some (.ref fa) ->
   ∃ fd : FuncData, (∀ (s : Shared) (u : Value), BindsTo s fd ⟨[u], []⟩ [(x, u)]) /\
    ∀ base : Heap, (K w.params).In base -> base.Ns mainGlobals mg -> FnOk l.prog w (K w.params) mg base (CX w) k fa fd [x] (sp w))
  (hsp : ∀ (w : World) (H : Hp) (a : Addr) (ns : List Int), ns.length <= n -> Only H -> SqL (K w.params) H a (ns.map V.int) -> sp w [.ref a] H (fun v _ => v = .bl true) fun _ _ _ => False)
  (hCX : ∀ (w : World) (H : Hp) (s : Shared) (e : Value) (s' : Shared), CX w [] H s (fun _ _ _ => False) e s' -> False) :
  PySem.W.WalkO q loose XP YP l.row.toRowW d [] (fun f vs => PySem.call f vs) := by
 refine Att.attach_call hn hdf fun w s₀ s₁ mg mb fa o pm cd doc a vs ns G Y ho hd hcd hmg hobj hints hlen hg => ?_
 have KX := hY w _ Y
 obtain ⟨fd, hb, hF⟩ := F w mg fa _ KX G.T.g hmg
 exact law_call KX G.T.g G.T.b G.T.builtins G.T.nolimit hg hobj hints (Nat.le_trans hlen hn2) hr hF hb (fun H hO hS => hsp w H a ns hlen hO hS) fun H e s' => hCX w H s₁ e s'
end L2
namespace L2
open PySem PySem.Spec PyProof.Rows
def defArgs (s : Stmt) : Arguments := match s with
 | .FunctionDef _ a _ _ _ _ _ _ _ _ => a
 | _ => { posonlyargs := [], args := [], vararg := none, kwonlyargs := [], kw_defaults := [], kwarg := none, defaults := [] }
def defBody (s : Stmt) : List Stmt := match s with
 | .FunctionDef _ _ b _ _ _ _ _ _ _ => b
 | _ => []
def defScope (s : Stmt) : Scope := match s with
 | .FunctionDef _ _ _ _ _ _ sc _ _ _ => sc
 | _ => { kind := .function, names := [], isGenerator := false, isCoroutine := false }
abbrev CX0 : CXT := fun _ _ _ _ _ _ => False
abbrev E0 : XK := fun _ _ _ => False
theorem pass0 {X : Cx} : Passes CX0 X E0 := fun _ _ _ _ _ _ _ h => h.elim
structure Fun (K : PySem.W.Frag) (x qual : Str) (st : Stmt) (f : Addr) (fd : FuncData) : Prop where
 ex : ∃ (oc : Value) (od : Option Addr) (kV doc pm : Value) (an : Option Addr) (cdv ct : Value) (osl : Array (Option Value)),
  fd = PySem.W.fnOf x qual (defArgs st) (defBody st) (defScope st) .none kV doc pm an cdv ct /\ K.lookup f = some ⟨oc, od, .func fd, osl⟩ /\ PySem.W.codeIn K cdv qual = true
 kp : PySem.W.keepIn K (.ref f) = true
section
variable {P : Program} {w : World} {K : PySem.W.Frag} {mg : Str -> Option Value} {base : Heap}
theorem Fun.ok {x qual : Str} {st : Stmt} {f : Addr} {fd : FuncData} {N ps : List Str} {k : Nat} {sp : Sp} (F : Fun K x qual st f fd) (S : FnScope N ps (defScope st)) (len : ∀ vs H Q E, sp vs H Q E -> vs.length = ps.length)
  (hbody : ∀ (cdv : Value) (A : Around) (outer : List Env) (s : Shared) (H : Hp) (vs : List V) (Q : VK) (E : XK), Room k (A.deeper (envOfC qual (defScope st) s.heap.objs.size f cdv)) -> sp vs H Q E ->
   ∃ t, PSs (cxOf CX0 P w K mg base N qual (defScope st) f cdv A outer s H E).nox (defBody st) t /\ t { nx := fun _ H' => Q .non H', rt := Q } (start N vs) H) : FnOk P w K mg base CX0 (k + 1) f fd ps sp := by
 obtain ⟨oc, od, kV, doc, pm, an, cdv, ct, osl, rfl, lk, hcd⟩ := F.ex
 refine fn_of lk hcd S len fun A outer s H vs Q E hr hsp => ?_
 obtain ⟨t, h, q⟩ := hbody cdv A outer s H vs Q E hr hsp
 exact ⟨t, h.nox, q⟩
theorem Fun.binds {x qual : Str} {st : Stmt} {f : Addr} {fd : FuncData} {ps : List Str} (F : Fun K x qual st f fd)
  (h : ∀ (kV doc pm : Value) (an : Option Addr) (cdv ct : Value) (us : List Value), us.length = ps.length -> bindArgs (PySem.W.fnOf x qual (defArgs st) (defBody st) (defScope st) .none kV doc pm an cdv ct) ⟨us, []⟩ = pure (ps.zip us)) : Binds K fd ps [] := by
 obtain ⟨oc, od, kV, doc, pm, an, cdv, ct, osl, rfl, lk, hcd⟩ := F.ex
 exact .all (h kV doc pm an cdv ct)
theorem fun_mk {x qual : Str} {st : Stmt} {f : Addr} {oc : Value} {od an : Option Addr} {osl : Array (Option Value)} {kV doc pm cdv ct : Value} (l : K.lookup f = some ⟨oc, od, .func (PySem.W.fnOf x qual (defArgs st) (defBody st) (defScope st) .none kV doc pm an cdv ct), osl⟩)
  (c : PySem.W.codeIn K cdv qual = true) (k : PySem.W.keepIn K (.ref f) = true) : Fun K x qual st f (PySem.W.fnOf x qual (defArgs st) (defBody st) (defScope st) .none kV doc pm an cdv ct) := ⟨⟨oc, od, kV, doc, pm, an, cdv, ct, osl, rfl, l, c⟩, k⟩
end
section
variable {X : Cx}
theorem pv (i : Nat) {x : Str} {pos : Pos} (hN : X.N[i]? = some x := by rfl) (hv : Vis X.env.scope x := by first | exact Or.inl rfl | exact Or.inr (Or.inl rfl) | exact Or.inr (Or.inr rfl)) (hd : (x == ("__debug__" : Str)) = false := by decide)
  (hcd : (x == ("__classdict__" : Str)) = false := by decide) : PE X (.Name x pos) (tVar i) := pe_var hN hv hd hcd
end
theorem iteF {A B : Prop} (h : B) : if false = true then A else B := by
 rw [if_neg Bool.false_ne_true]
 exact h
theorem iteT {A B : Prop} (h : A) : if true = true then A else B := by
 rw [if_pos rfl]
 exact h
theorem ite2 {c A B : Prop} [Decidable c] (h1 : c -> A) (h2 : ¬ c -> B) : if c then A else B := by
 by_cases h : c
 ·rw [if_pos h]
  exact h1 h
 ·rw [if_neg h]
  exact h2 h
theorem iteNS {c A B : Prop} [Decidable c] (hc : c) (h : B) : if (!decide c) = true then A else B := by
 rw [decide_eq_true hc]
 exact iteF h
def Same (H H' : Hp) : Prop := ∀ b o, H b = some o -> H' b = some o
theorem Same.trans {H H1 H2 : Hp} (a : Same H H1) (b : Same H1 H2) : Same H H2 := fun c o h => b c o (a c o h)
theorem Same.free {H H' : Hp} (e : Same H H') {l : Addr} (h : H' l = Option.none) : H l = Option.none := by
 cases q : H l with
 | none => rfl
 | some o =>
  rw [e l o q] at h
  cases h
theorem Same.seq {K : PySem.W.Frag} {H H' : Hp} {a : Addr} {xs : List V} (e : Same H H') (h : SqL K H a xs) : SqL K H' a xs := by
 rcases h with (h | ⟨o, h⟩) | h
 ·exact .inl (.inl (e _ _ h))
 ·exact .inl (.inr ⟨o, e _ _ h⟩)
 ·exact .inr h
end L2
set_option Elab.async false
set_option linter.all false
set_option maxRecDepth 100000
namespace L2
open PySem PySem.Spec PyProof.Rows
end L2
namespace L2
open PySem PySem.Spec PyProof.Rows
section
variable (P : Program) (w : World)
end
section
variable {P : Program} {w : World} {H H' : Hp} {h h' : Heap} {a : Addr} {o : HO}
end
section
variable {P : Program} {w : World} {H : Hp} {h h' : Heap} {x e : Addr} {o' : HO}
end
section
variable {fs fs' ex ex' : List Addr} {H H1 H2 : Hp} {h h1 h2 h' : Heap} {a x e : Addr} {o : HO}
end
end L2
namespace L2
open PySem PySem.Spec PyProof.Rows
section
variable {X : Cx} {pins : List (Addr × Obj)} {σ : List (Option V)} {H H' : Hp} {s : Shared} {h' : Heap}
end
end L2
namespace L2
open PySem PySem.Spec PyProof.Rows
section
variable {X : Cx}
variable {a b : Expr} {ta tb : TE} {pos : Pos}
variable {tA tB' : TT} {rest : List Expr}
end
end L2
namespace L2
open PySem PySem.Spec PyProof.Rows
section
variable {X : Cx} {pins : List (Addr × Obj)} {σ : St} {H : Hp} {s : Shared} {a : Addr} {xs ys : List V}
end
section
variable {X : Cx} {pins : List (Addr × Obj)} {σ : St} {H : Hp} {s : Shared} {E : Value -> Shared -> Prop}
end
section
variable {X : Cx} {st : Stmt} {rest : List Stmt} {t u : TS} {e : Expr} {te : TE} {pos : Pos}
end
section
variable {X : Cx} {pos : Pos}
end
section
variable {X : Cx} {pos : Pos}
end
end L2
namespace L2
open PySem PySem.Spec PyProof.Rows
section
variable {X : Cx} {tg : Expr}
end
end L2
namespace L2
open PySem PySem.Spec PyProof.Rows
section
variable {X : Cx} {a b c : Expr} {ta tb tc : TE} {pos : Pos}
end
section
variable {X : Cx} {a b c : Expr} {ta tb tc : TE} {pos : Pos}
end
end L2
namespace L2
open PySem PySem.Spec PyProof.Rows
section
variable {prog : Program} {w : World} {A : Around} {E : Value -> Shared -> Prop} {s : Shared} {K : PySem.W.Frag} {x dx C f : Addr} {mA : Str -> Option Value} {name : Str} {v : Value}
end
section
variable {P : Program} {w : World} {H H' : Hp} {h h' : Heap} {a C dx : Addr} {fs fs' : List (Str × V)}
end
section
variable {X : Cx} {pins : List (Addr × Obj)} {σ : St} {H : Hp} {s : Shared} {a C dx : Addr} {fs : List (Str × V)} {f : Str} {v : V} {A : Around} {E : Value -> Shared -> Prop}
end
section
variable {X : Cx} {o e value : Expr} {f : Str} {pos pos' tpos : Pos} {ta tv : TE}
end
section
variable {X : Cx} {pins : List (Addr × Obj)} {σ : St} {H : Hp} {s : Shared} {A : Around} {E : Value -> Shared -> Prop} {Q : Value -> Shared -> Prop} {c : Value} {b : Bool}
end
end L2
namespace L2
open PySem PySem.Spec PyProof.Rows
section
variable {X : Cx} {e : Expr} {es : List Expr} {te : TE} {t : TA} {pos : Pos}
end
section
variable {X : Cx} {pins : List (Addr × Obj)} {σ : St} {H : Hp} {s s' : Shared}
end
section
variable {X : Cx} {CX : CXT} {k : Nat} {f C : Addr} {fd : FuncData} {ps : List Str} {sp : Sp} {dvs : List V} {ds : List Value} {E : XK} {x m : Str} {p pos apos : Pos} {e o : Expr} {es : List Expr} {ta : TE} {t : TA}
end
section
variable {X : Cx} {CX : CXT} {k : Nat} {f C : Addr} {fd : FuncData} {ps ks : List Str} {sp : Sp} {E : XK} {x m : Str} {p pos apos kpos : Pos} {e o : Expr} {es : List Expr} {kws : List Keyword} {te ta : TE} {t tk : TA} {nm : Option Str}
variable {g : List Value -> List Value -> List Value} {gV : List V -> List V -> List V}
end
end L2
namespace L2
open PySem PySem.Spec PyProof.Rows
section
variable {X : Cx} {x : Str} {p pos : Pos} {e : Expr} {es : List Expr} {t : TA} {id T : String} {r : List V -> Hp -> VK -> Prop}
end
end L2
namespace L2
open PySem PySem.Spec PyProof.Rows
section
variable {κ : Type} [DecidableEq κ]
end
section
variable {P : Program} {w : World} {H : Hp} {h : Heap} {a : Addr}
end
section
variable {X : Cx} {pins : List (Addr × Obj)} {σ : St} {H : Hp} {s : Shared} {a : Addr} {y v : V} {u r : Value} {o : Option V} {A : Around} {E : Value -> Shared -> Prop}
end
section
variable {X : Cx} {pins : List (Addr × Obj)} {σ : St} {H : Hp} {s : Shared} {a : Addr} {kvs : List (Key × V)} {k : Key} {u : Value} {A : Around} {E : Value -> Shared -> Prop}
end
section
variable {X : Cx} {o i e value : Expr} {pos pos' tpos : Pos} {td ty tv : TE}
end
section
variable {X : Cx} {pos : Pos}
end
section
variable {X : Cx} {pins : List (Addr × Obj)} {σ : St} {H : Hp} {s : Shared} {a : Addr} {y d : V} {u r : Value} {o : Option V} {A : Around} {E : Value -> Shared -> Prop}
end
section
variable {X : Cx} {o e f : Expr} {apos cpos : Pos} {td ty tx : TE}
end
section
variable {X : Cx} {pins : List (Addr × Obj)} {σ : St} {H : Hp} {s : Shared} {a : Addr} {kvs : List (Key × V)} {A : Around} {E : Value -> Shared -> Prop}
end
section
variable {X : Cx} {pins : List (Addr × Obj)} {σ : St} {H : Hp} {s : Shared} {a : Addr} {y : V} {u : Value} {A : Around} {E : Value -> Shared -> Prop}
end
end L2
namespace Att
open PySem PySem.W PySem.Calls PyProof.Rows
section
variable {prog : Program} {w : World} {A : Around} {E : Value -> Shared -> Prop} {s : Shared} {K : Frag}
end
end Att
namespace L2
open PySem PySem.Spec PyProof.Rows
end L2
namespace L2
open PySem PySem.Spec PyProof.Rows
end L2
namespace L2
open PySem PySem.Spec PyProof.Rows
section
variable {P : Program} {w : World} {K : PySem.W.Frag} {mg : Str -> Option Value} {base : Heap}
end
section
variable {X : Cx}
end
section
variable {κ : Type} [DecidableEq κ]
end
end L2
set_option Elab.async false
set_option linter.all false
set_option maxRecDepth 100000
set_option maxHeartbeats 4000000
namespace L2
open PySem PySem.Spec PyProof.Rows
def Fn (P : Program) (w : World) (K : PySem.W.Frag) (mg : Str -> Option Value) (base : Heap) (k : Nat) (x : Str) (ps : List Str) (sp : Sp) : Prop :=
 ∃ (f : Addr) (fd : FuncData), FnOk P w K mg base CX0 k f fd ps sp /\ Binds K fd ps [] /\ PySem.W.keepIn K (.ref f) = true /\ mg x = some (.ref f)
section
variable {X : Cx} {k : Nat} {x : Str} {ps : List Str} {sp : Sp} {p pos : Pos} {e : Expr} {es : List Expr} {t : TA}
theorem pe_callG (F : Fn X.prog X.w X.K X.mg X.base k x ps sp) (hr : Room k X.A) (hg : Gl X x) (ha : PA X (e :: es) t) (hdb : (x == ("__debug__" : Str)) = false := by decide)
  (he : starEach (e :: es) X.env = (false, eval e X.env) :: starEach es X.env := by rfl) (hpl : (backTo pos (starEach es X.env)).any (·.1) = false := by rfl) :
  PE X (.Call (.Name x p) (e :: es) [] pos) (tCall sp [] E0 t) := by
 obtain ⟨f, fd, G, b, kp, m⟩ := F
 exact pe_call G hr hg m kp b .nil pass0 ha hdb he hpl
end
theorem hu64 {A : Around} {k : Nat} (hr : Room k A) : A.units + 64 < cLine := hr.units
theorem bt_int : bootBuiltins "int" = some (.type "int") := by decide +kernel
theorem bt_bool : bootBuiltins "bool" = some (.type "bool") := by decide +kernel
theorem bt_list : bootBuiltins "list" = some (.type "list") := by decide +kernel
theorem bt_len : bootBuiltins "len" = some (.builtin "len") := by decide +kernel
theorem bt_isinstance : bootBuiltins "isinstance" = some (.builtin "isinstance") := by decide +kernel
theorem kit_same (K : PySem.W.Frag) (T : String) : PySem.W.kitOne K (.type T) (.type T) = some true := by
 unfold PySem.W.kitOne
 rw [if_pos (beq_self_eq_true _)]
end L2
set_option Elab.async false
set_option linter.all false
set_option maxRecDepth 100000
set_option maxHeartbeats 4000000
namespace L2
open PySem PySem.Spec PyProof.Rows
theorem Same.new {H : Hp} {p : Addr} (h : H p = none) (o : HO) : Same H (upd H p o) := fun b u q => by rw [upd_ne (ne_of_none q h)]; exact q
def RdD (X : Cx) (H : Hp) (v : V) (d : PyData) : Prop := ∀ (pins : List (Addr × Obj)) (σ : St) (s : Shared) (u : Value), Inv X pins σ H s -> RelV v u -> ∃ as, Reads s.heap u d as
section
variable {X : Cx} {H : Hp}
theorem rd_int (i : Int) : RdD X H (.int i) (.int i) := fun _ _ s u _ r => by
 obtain ⟨t, rfl⟩ := (show ∃ t, u = Value.int i t from r)
 exact ⟨_, .int i t⟩
theorem rdAll {pins : List (Addr × Obj)} {σ : St} {s : Shared} (I : Inv X pins σ H s) : ∀ {xs : List V} {ds : List PyData} {us : List Value}, Paired (RdD X H) xs ds -> Vals xs us -> ∃ as, ReadsAll s.heap us ds as
 | _, _, _, .nil, .nil => ⟨_, .nil⟩
 | _, _, _, .cons r t, .cons q z => by
  obtain ⟨as, h1⟩ := r pins σ s _ I q
  obtain ⟨bs, h2⟩ := rdAll I t z
  exact ⟨_, .cons h1 h2⟩
theorem rd_lst {p : Addr} {xs : List V} {ds : List PyData} (h : SqL X.K H p xs) (r : Paired (RdD X H) xs ds) : RdD X H (.ref p) (.list ds) := fun pins σ s u I ru => by
 cases (show u = Value.ref p from ru)
 obtain ⟨its, rv, ⟨o, n, ho, hc, _, hd⟩, _⟩ := I.list h
 obtain ⟨as, q⟩ := rdAll I r rv
 exact ⟨_, .list ho hc hd (by simpa using q)⟩
theorem rd_ints : ∀ ns : List Int, Paired (RdD X H) (ns.map V.int) (ns.map PyData.int)
 | [] => .nil
 | i :: r => .cons (rd_int i) (rd_ints r)
def lD (ns : List Int) : PyData := .list (ns.map .int)
theorem rd_li {p : Addr} {ns : List Int} (h : SqL X.K H p (ns.map V.int)) : RdD X H (.ref p) (lD ns) := rd_lst h (rd_ints ns)
end
theorem canI : ∀ ns : List Int, PyData.canLayAll0 (ns.map PyData.int) = true
 | [] => rfl
 | _ :: r => by simp [PyData.canLayAll0, PyData.canLay0, canI r]
theorem depI : ∀ ns : List Int, PyData.depthAll (ns.map PyData.int) = 0
 | [] => rfl
 | _ :: r => by simp [PyData.depthAll, PyData.depth, depI r]
theorem shaped_of {d : PyData} (h1 : d.canLay0 = true) (h2 : d.depth <= 64) : SeqAt.shaped d = true := by simp [SeqAt.shaped, h1, h2]
theorem eqvI : ∀ ns ms : List Int, PyData.eqvAll (ns.map PyData.int) (ms.map PyData.int) = decide (ns = ms)
 | [], [] => by simp [PyData.eqvAll]
 | [], _ :: _ => by simp [PyData.eqvAll]
 | _ :: _, [] => by simp [PyData.eqvAll]
 | a :: r, b :: t => by
  simp only [List.map_cons, PyData.eqvAll, PyData.eqv, eqvI r t]
  by_cases h : a = b <;> by_cases h' : r = t <;> simp [h, h']
theorem eqv_lD (a b : List Int) : PyData.eqv (lD a) (lD b) = decide (a = b) := by simp only [lD, PyData.eqv]; exact eqvI a b
section
variable {X : Cx}
theorem op_eqD (hu : X.A.units + 64 < cLine) : OpR X (compareOp .Eq) (fun x y H Q => ∃ d e, RdD X H x d /\ RdD X H y e /\ SeqAt.shaped d = true /\ SeqAt.shaped e = true /\ Q (.bl (PyData.eqv d e)) H) := by
 intro pins s σ H x y v u Q I rx ry h
 obtain ⟨d, e, hd, he, sd, se, q⟩ := h
 obtain ⟨as, ra⟩ := hd pins σ s v I rx
 obtain ⟨bs, rb⟩ := he pins σ s u I ry
 exact eq_dataH ra rb sd se hu ⟨.bl _, H, I, rfl, q⟩
theorem op_neD (hu : X.A.units + 64 < cLine) : OpR X (compareOp .NotEq) (fun x y H Q => ∃ d e, RdD X H x d /\ RdD X H y e /\ SeqAt.shaped d = true /\ SeqAt.shaped e = true /\ Q (.bl (!PyData.eqv d e)) H) := by
 intro pins s σ H x y v u Q I rx ry h
 obtain ⟨d, e, hd, he, sd, se, q⟩ := h
 obtain ⟨as, ra⟩ := hd pins σ s v I rx
 obtain ⟨bs, rb⟩ := he pins σ s u I ry
 exact ne_dataH ra rb sd se hu ⟨.bl _, H, I, rfl, q⟩
theorem call_isinst : CallR X (.builtin "isinstance") (fun xs H Q => ∃ x t n b, xs = [x, .ty n] /\ TyOf X.K H x t /\ PySem.W.kitOne X.K t (.type n) = some b /\ Q (.bl b) H) := by
 intro pins s σ H xs us Q I r h
 obtain ⟨x, t, n, b, rfl, ty, e, q⟩ := h
 obtain ⟨u, w', rfl, ru, rw'⟩ := vals2 r
 cases (show w' = Value.type n from rw')
 exact isinst_ok I ru ty e fun tk => ⟨.bl b, H, I.tok tk, rfl, q⟩
end
section
variable {X : Cx} {pins : List (Addr × Obj)} {σ : List (Option V)} {H : Hp} {s : Shared} {h' : Heap}
theorem Inv.turnedNew {t' : Nat} {ch : List Addr} {p : Addr} {o : HO} (I : Inv X pins σ H s) (hf : ∀ b ∈ ch, FpOk X pins H b) (k : ∀ b o, b ∉ ch -> s.heap.get? b = some o -> h'.get? b = some o)
  (hp : s.heap.objs.size <= p) (new : ObjOk X.prog X.w (upd H p o) h' p o) : Inv X pins σ (upd H p o) { s with heap := h', toks := t' } := by
 have hn : H p = none := I.hok.fresh hp
 have nch : ∀ b u, H b = some u -> b ∉ ch := fun b u e z => by rw [(hf b z).1] at e; cases e
 refine I.step (g' := s.gens) (d' := s.drawn) (ch := ch) (fun b hb => ?_) (fun b o _ _ hc e _ => k b o hc e) (fun b o _ _ hc e _ => ⟨o.slots, k b o hc e⟩) (fun b o hc e n => ?_) (fun b o hc e => ⟨o, k b o hc e⟩)
  (fun b xs e => by rw [upd_ne (ne_of_none e hn)]; exact e) (fun b o u e => by rw [upd_ne (ne_of_none e hn)]; exact e) (fun b ps e => ⟨#[], by rw [upd_ne (ne_of_none e hn), e]; simp⟩) (fun m hm => ?_) ?_ I.bare
 ·obtain ⟨_, f1, _, f3, f4, f5⟩ := hf b hb
  exact ⟨f3, f1, f4, f5⟩
 ·rw [upd_ne (Nat.ne_of_lt (Nat.lt_of_lt_of_le (Heap.lt_size e) hp))]; exact n
 ·obtain ⟨o, es, ep, ho, r⟩ := hm
  exact ⟨o, es, ep, k _ o (fun z => (hf _ z).2.1 rfl) ho, r⟩
 ·intro b u e
  by_cases hb : b = p
  ·subst hb; rw [upd_same] at e; cases e; exact new
  ·rw [upd_ne hb] at e
   refine (I.hok b u e).stay (fun c v hc q => k c v ?_ q) (fun c q => by rw [upd_ne (ne_of_none q hn)]; exact q) fun c xs q => by rw [upd_ne (ne_of_none q hn)]; exact q
   rcases hc with z | z
   ·rw [z]; exact nch b u e
   ·exact nch c _ z
end
def Ite (K : PySem.W.Frag) (a : Addr) : It :=
 ⟨fun i H => ∃ xs x, SqL K H a xs /\ xs[i]? = some x, fun i H x H' => ∃ p y, H p = none /\ x = .ref p /\ H' = upd H p (.tup [.int (i : Int), y]) /\ ∀ xs, SqL K H a xs -> xs[i]? = some y, fun i H => ∃ xs, SqL K H a xs /\ xs.length <= i⟩
theorem turn_enum {P : Program} {w : World} {K : PySem.W.Frag} {elts : List Expr} {x1 : Nat} {pos : Pos} (a e it : Addr) (hne : e ≠ it) :
  Turn P w K (.Tuple elts x1 pos) (Ite K a) [e, it] e (fun i h => (∃ old, IsEnum h e it i old) /\ h.IsListIter it a i) where
 mem := by simp
 obj := fun i h st b hb => by
  obtain ⟨⟨old, he⟩, hi⟩ := st
  have q : b = e \/ b = it := by simpa using hb
  rcases q with rfl | rfl
  ·exact ⟨_, he, fun v z => by cases z⟩
  ·obtain ⟨o, e, c, d⟩ := hi
   exact ⟨o, e, fun v z => by rw [d] at z; cases z⟩
 keep := fun i h h' st k => by
  obtain ⟨⟨old, he⟩, hi⟩ := st
  exact ⟨⟨old, k e (by simp) _ he⟩, hi.at fun o q => k it (by simp) o q⟩
 item := by
  intro X hP hw hK hc i pins s σ H E I hf st hg
  subst hP hw hK
  obtain ⟨⟨old, he⟩, hi⟩ := st
  obtain ⟨xs, x, hq, hx⟩ := hg
  obtain ⟨its, rv, p, hz⟩ := I.list hq
  obtain ⟨u, hu, ru⟩ := rv.get hx
  have lte : e < s.heap.objs.size := Heap.lt_size he
  have lti : it < s.heap.objs.size := by obtain ⟨o, e, _⟩ := hi; exact Heap.lt_size e
  refine wpAny_pyNext_enum_item he hi p.isList (x := u) (by simpa using hu) hne fun h' ho hi' ht hsz hk => ?_
  refine ⟨_, rfl, wpAny_letOwnedTupleGo_enum ho fun h'' he'' sb => ?_⟩
  have hs : ∀ b o, b ∉ [e, it] -> s.heap.get? b = some o -> h''.get? b = some o := fun b o hb q => (sb.2 b (fun z => hb (by simp [z]))).trans (hk b o (fun z => hb (by simp [z])) (fun z => hb (by simp [z])) q)
  have ht2 : h''.get? s.heap.objs.size = some { cls := .type "tuple", data := .seq #[.int i s.toks, u] } := (sb.2 _ (Nat.ne_of_gt lte)).trans ht
  have I1 := I.turnedNew (t' := s.toks + 1) (ch := [e, it]) (o := .tup [.int (i : Int), x]) hf hs (Nat.le_refl _) ⟨by show 2 <= sizeLine; decide, [.int i s.toks, u], .cons ⟨_, rfl⟩ (.cons ru .nil), ⟨_, ht2, rfl, _, rfl⟩⟩
  refine ⟨.ref s.heap.objs.size, _, I1, rfl, ⟨s.heap.objs.size, x, I.hok.fresh (Nat.le_refl _), rfl, rfl, fun ys hy => by rw [I.list_inj hy hq]; exact hx⟩, ⟨⟨u, by simpa using he''⟩, ?_⟩, fun b hb => ?_⟩
  ·exact hi'.at fun o q => (sb.2 it (Ne.symm hne)).trans q
  ·have q : b = e \/ b = it := by simpa using hb
   have hlt : b < s.heap.objs.size := by rcases q with rfl | rfl <;> assumption
   rw [upd_ne (Nat.ne_of_lt hlt)]
   exact (hf b hb).1
 done := by
  intro X hP hw hK hc i pins s σ H E I hf st hg
  subst hP hw hK
  obtain ⟨⟨old, he⟩, hi⟩ := st
  obtain ⟨xs, hq, hx⟩ := hg
  obtain ⟨its, rv, p, hz⟩ := I.list hq
  obtain ⟨f0, f1, f2, f3, f4, f5⟩ := hf it (by simp)
  have hl := rv.length
  exact wpAny_pyNext_enum_end (I.ok.hd hc) he hi p.isList (by simp; omega) fun h' eb => ⟨rfl, I.turned (t' := s.toks) (fun b o hb e => eb b o hb e) f0 f1 f3 f4 f5⟩
 self := fun _ _ _ _ _ st h => by
  obtain ⟨⟨old, he⟩, _⟩ := st
  exact wpAny_pyIter_enum he h
section
variable {X : Cx}
def iEnum (K : PySem.W.Frag) (ta : TA) : TI := fun σ H R => ta σ H fun vs H1 => ∃ a xs, vs = [.ref a] /\ SqL K H1 a xs /\ R (Ite K a) H1
theorem bt_enumerate : bootBuiltins "enumerate" = some (.type "enumerate") := by decide +kernel
theorem pi_enum {elts : List Expr} {x1 : Nat} {tp : Pos} {a : Expr} {ta : TA} {p pos : Pos} (hg : Gl X "enumerate") (hm : X.mg "enumerate" = none) (ha : PA X [a] ta) (hs : starEach [a] X.env = [(false, eval a X.env)] := by rfl) :
  PI X (.Tuple elts x1 tp) (.Call (.Name "enumerate" p) [a] [] pos) (iEnum X.K ta) := by
 intro pins s σ H R I h
 refine Call_ (ld_blt I hg hm bt_enumerate (PyProof.Rows.callWith_type1 (thn (ha pos pins s σ H _ I h) fun us s1 ⟨vs, H1, I1, r1, q1⟩ => ?_) hs rfl))
 obtain ⟨l, xs, e, hq, q⟩ := q1
 subst e
 cases r1 with
 | cons r rr =>
  cases rr
  cases (show _ = Value.ref l from r)
  obtain ⟨its, rv, p, hz⟩ := I1.list hq
  refine call_enumerate_list p.isList fun h' he hi hsz hk => ?_
  refine wpAny_pyIter_enum he ?_
  have I2 := I1.kept (t' := s1.toks) (h' := h') hk
  refine ⟨s1.heap.objs.size + 1, [s1.heap.objs.size + 1, s1.heap.objs.size], _, _, H1, rfl, I2, turn_enum l _ _ (Nat.succ_ne_self _), ⟨⟨_, he⟩, hi⟩, fun b hb => ?_, q⟩
  have z : b = s1.heap.objs.size + 1 \/ b = s1.heap.objs.size := by simpa using hb
  have hb2 : s1.heap.objs.size <= b := by rcases z with rfl | rfl <;> omega
  exact I1.fpOk hb2 (I1.hok.fresh hb2)
theorem for_enum {K : PySem.W.Frag} {a : Addr} {xs : List V} {g : TG} {tb : TS} {D : Ends} {σ : St} {H : Hp} (Pv : Nat -> St -> Hp -> Prop) (h0 : Pv 0 σ H) (hl : ∀ i σ H, i <= xs.length -> Pv i σ H -> SqL K H a xs)
  (hs : ∀ i x p σ H, xs[i]? = some x -> Pv i σ H -> H p = none -> g (.ref p) σ (upd H p (.tup [.int (i : Int), x])) fun σ2 H2 => tb { D with nx := Pv (i + 1), ct := Pv (i + 1), bk := D.nx } σ2 H2) (hd : ∀ σ H, Pv xs.length σ H -> D.nx σ H) :
  ∃ W : Nat -> Nat -> St -> Hp -> Prop, (∃ m, W 0 m σ H) /\ ∀ i m σ H, W i m σ H ->
   ((Ite K a).stop i H /\ D.nx σ H) \/ ((Ite K a).go i H /\ ∃ N : St -> Hp -> Prop, (∀ σ' H', N σ' H' -> ∃ m', m' < m /\ W (i + 1) m' σ' H') /\ ∀ x H', (Ite K a).yld i H x H' -> g x σ H' fun σ2 H2 => tb { D with nx := N, ct := N, bk := D.nx } σ2 H2) := by
 refine ⟨fun i m σ H => m = xs.length - i /\ i <= xs.length /\ Pv i σ H, ⟨xs.length, by simp, Nat.zero_le _, h0⟩, ?_⟩
 rintro i m σ H ⟨rfl, hi, p⟩
 have q := hl i σ H hi p
 by_cases hlt : i < xs.length
 ·refine .inr ⟨⟨xs, xs[i], q, by simp [hlt]⟩, Pv (i + 1), fun σ' H' p' => ⟨xs.length - (i + 1), by omega, rfl, hlt, p'⟩, fun x H' y => ?_⟩
  obtain ⟨r, z, hr, rfl, rfl, y⟩ := y
  exact hs i z r σ _ (y xs q) p hr
 ·have e : i = xs.length := by omega
  subst e
  exact .inl ⟨⟨xs, q, Nat.le_refl _⟩, hd σ H p⟩
end
end L2
set_option Elab.async false
set_option linter.all false
set_option maxRecDepth 100000
set_option maxHeartbeats 4000000
namespace L2
open PySem PySem.Spec PyProof.Rows
section
variable {prog : Program} {w : World} {K : Type} [DecidableEq K] {knd : HeapKind prog w K} {A : Around} {E : Value -> Shared -> Prop} {s : Shared} {d a : Addr} {xs : List (K × Addr × Value)} {k : K}
end
section
variable {prog : Program} {w : World} {A : Around} {E : Value -> Shared -> Prop} {s : Shared} {d it : Addr} {es : Array DictEntry} {ep i : Nat}
end
section
variable {X : Cx} {pins : List (Addr × Obj)} {σ : St} {H : Hp} {s : Shared} {a b : Addr} {kvs : List (List Key × V)} {k : List Key} {A : Around} {E : Value -> Shared -> Prop}
end
section
variable {X : Cx} {o e : Expr} {apos cpos : Pos} {td ty : TE}
end
section
variable {X : Cx}
theorem op_mulB : OpR X (binaryOp .Mult) (rI IntMulOk fun i j => .int (i * j)) := opI fun _ _ _ _ _ _ _ hc q => mul_int q hc
end
end L2
set_option Elab.async false
set_option linter.all false
set_option maxRecDepth 100000
set_option maxHeartbeats 4000000
namespace L2
open PySem PySem.Spec PyProof.Rows
section
variable {prog : Program} {w : World} {A : Around} {R : Result -> Shared -> Prop} {s : Shared}
theorem compLoop_gen {elt target iter : Expr} {ifs : List Expr} {scope : Scope} {pos : Pos} {it acc : Value} {env : Env} (I : Nat -> Shared -> Prop)
  (turn : ∀ n s, I n s -> wpAny (model prog w) A (pyNext it) (fun r s₁ => match r with
   | none => R (.ok .next) s₁
   | some v => wpAny (model prog w) A (letOwnedTupleGo target it v) (fun _ s₁' => wpAny (model prog w) A (assign target env v) (fun _ s₂ =>
     wpAny (model prog w) A (forIn ifs true fun c r => if r = true then do let ok <- isTrue c env (eval c env); pure (ForInStep.yield ok) else pure (ForInStep.yield r)) (fun ok s₃ =>
      if ok = true then wpAny (model prog w) A (eval elt env) (fun x s₄ =>
       wpAny (model prog w) A (call (.builtin "list.append") [acc, x]) (fun _ s₅ => ∃ m, m < n /\ I m s₅) (fun _ _ => False) s₄) (fun _ _ => False) s₃
      else ∃ m, m < n /\ I m s₃) (fun _ _ => False) s₂) (fun _ _ => False) s₁') (fun _ _ => False) s₁) (fun _ _ => False) s)
  (n : Nat) (h : I n s) :
  codeAny (model prog w) A (.compLoop (.ListComp elt [⟨target, iter, ifs, 0⟩] scope pos) 0 it acc env) R s := by
 refine codeAny_loop rfl I (fun n s hI => ?_) n h
 show wpAny _ A ((compTurn (.ListComp elt [⟨target, iter, ifs, 0⟩] scope pos) 0 it acc env).onRaise (fun x => do noteFrame x env; theTreesLotGoes x)) _ _ s
 refine wpAny_noted ?_
 rw [compTurn_list]
 have F : ∀ {Q : Value -> Shared -> Prop} (x : Value) (s : Shared), False -> Q x s := fun _ _ z => z.elim
 refine wpAny_bind (wpAny_standAt (wpAny_bind (wpAny_mono (turn n s hI) (fun r s₁ h₁ => ?_) F)))
 cases r with
 | none => exact wpAny_pure h₁
 | some v =>
  refine wpAny_bind (wpAny_mono h₁ (fun _ s₁' h₁ => ?_) F)
  refine wpAny_bind (wpAny_mono h₁ (fun _ s₂ h₂ => wpAny_bind (wpAny_mono h₂ (fun ok s₃ h₃ => ?_) F)) F)
  cases ok with
  | false => exact wpAny_pure ⟨rfl, h₃⟩
  | true => exact wpAny_bind (wpAny_bind (wpAny_mono h₃ (fun x s₄ h₄ => wpAny_bind (wpAny_mono h₄ (fun _ s₅ h₅ => wpAny_pure (wpAny_pure ⟨rfl, h₅⟩)) F)) F))
end
structure CA where
 cl : List (Str × Addr)
 C : Addr
 s₀ : Shared
 H₀ : Hp
 ex : List Addr
 pn : List (Addr × Obj)
def cxC (X : Cx) (scope : Scope) (N' : List Str) (k : CA) : Cx :=
 { X with N := N', s₀ := k.s₀, H₀ := k.H₀, env := compEnvC scope k.cl k.C X.env, outer := X.stack, stack := X.stack, ex := k.ex, fn := fun x => decide ((x, NameKind.cell) ∈ scope.names), pn := k.pn, xe := fun _ _ => False }
structure CScope (X : Cx) (scope : Scope) (own : List Str) (caps : List Nat) (cns : List Str) : Prop where
 cell : ∀ y ∈ scope.names, y.2 = .cell -> y.1 ∉ cns
 kind : scope.kind = .function
 names : ∀ y ∈ scope.names, y.2 = .local -> scope.names.lookup y.1 = some .local
 free : ∀ y ∈ scope.names, y.2 = .free -> X.env.kindOf y.1 = some .cell
 nd : (own ++ cns).Nodup
 cap : cns = caps.filterMap fun j => X.N[j]?
 len : cns.length = caps.length
 vis : ∀ y ∈ cns, scope.names.lookup y = some .free
theorem relabel_lookup {scope : Scope} {env : Env} {x : Str} {k : NameKind} (h : (relabel scope env).names.lookup x = some k) : scope.names.lookup x = some k \/ (scope.names.lookup x = some .free /\ k = .cell) := by
 have all : ∀ {names : List (Str × NameKind)}, (names.map fun (n, k) => if (k == NameKind.free && env.scope.kind == .function && env.kindOf n == some .cell) then (n, NameKind.cell) else (n, k)).lookup x = some k ->
   names.lookup x = some k \/ (names.lookup x = some .free /\ k = .cell) := by
  intro names
  induction names with
  | nil => intro h; simp at h
  | cons p r ih =>
   obtain ⟨n, k'⟩ := p
   intro h
   rw [List.map_cons] at h
   dsimp only at h
   by_cases hx : (x == n) = true
   ·by_cases hc : (k' == NameKind.free && env.scope.kind == .function && env.kindOf n == some .cell) = true
    ·rw [if_pos hc] at h
     simp only [List.lookup_cons, hx] at h ⊢
     right
     simp only [Bool.and_eq_true, beq_iff_eq] at hc
     exact ⟨by rw [hc.1.1], (Option.some.inj h).symm⟩
    ·rw [if_neg hc] at h
     simp only [List.lookup_cons, hx] at h ⊢
     exact .inl h
   ·have hx' : (x == n) = false := by simpa using hx
    by_cases hc : (k' == NameKind.free && env.scope.kind == .function && env.kindOf n == some .cell) = true
    ·rw [if_pos hc] at h
     simp only [List.lookup_cons, hx'] at h ⊢
     exact ih h
    ·rw [if_neg hc] at h
     simp only [List.lookup_cons, hx'] at h ⊢
     exact ih h
 exact all h
theorem closure_of {env : Env} : ∀ (names : List (Str × NameKind)) (cs : List (Str × Addr)), (∀ y ∈ names, y.2 = .free -> ∃ c, env.cells.lookup y.1 = some c) -> (∀ x c, cs.lookup x = some c -> env.cells.lookup x = some c) ->
  ∃ cl, (forIn names cs fun (x : Str × NameKind) (r : List (Str × Addr)) => if (x.2 == NameKind.free) = true then do let c <- cellOf env x.1; pure (ForInStep.yield ((x.1, c) :: r)) else pure (ForInStep.yield r) : Sem _) = pure cl /\
   (∀ x c, cl.lookup x = some c -> env.cells.lookup x = some c) /\ (∀ x, (cs.lookup x).isSome = true -> (cl.lookup x).isSome = true) /\ ∀ y ∈ names, y.2 = .free -> (cl.lookup y.1).isSome = true
 | [], cs, _, h => ⟨cs, by rw [List.forIn_nil], h, fun _ z => z, fun _ z => (nomatch z)⟩
 |(n, k) :: r, cs, hf, h => by
  by_cases hk : k = .free
  ·subst hk
   obtain ⟨c, hc⟩ := hf (n, .free) List.mem_cons_self rfl
   have h' : ∀ x c', ((n, c) :: cs).lookup x = some c' -> env.cells.lookup x = some c' := fun x c' e => by
    by_cases hx : (x == n) = true
    ·simp only [List.lookup_cons, hx] at e
     cases e
     rw [beq_iff_eq] at hx
     rw [hx]; exact hc
    ·have hx' : (x == n) = false := by simpa using hx
     simp only [List.lookup_cons, hx'] at e
     exact h x c' e
   obtain ⟨cl, e, h1, h2, h3⟩ := closure_of r ((n, c) :: cs) (fun y hy => hf y (List.mem_cons_of_mem _ hy)) h'
   refine ⟨cl, ?_, h1, fun x hx => h2 x ?_, fun y hy hyf => ?_⟩
   ·rw [List.forIn_cons]
    dsimp only
    rw [if_pos (by rfl)]
    have ec : cellOf env n = pure c := by
     unfold cellOf
     rw [hc]
    rw [ec]
    simp only [pure_bind]
    exact e
   ·by_cases hxn : (x == n) = true
    ·simp [List.lookup_cons, hxn]
    ·have hx' : (x == n) = false := by simpa using hxn
     simp only [List.lookup_cons, hx']; exact hx
   ·rcases List.mem_cons.mp hy with rfl | hy
    ·exact h2 n (by simp)
    ·exact h3 y hy hyf
  ·obtain ⟨cl, e, h1, h2, h3⟩ := closure_of r cs (fun y hy => hf y (List.mem_cons_of_mem _ hy)) h
   refine ⟨cl, ?_, h1, h2, fun y hy hyf => ?_⟩
   ·rw [List.forIn_cons]
    dsimp only
    rw [if_neg (by simpa using hk)]
    simp only [pure_bind]
    exact e
   ·rcases List.mem_cons.mp hy with rfl | hy
    ·exact absurd hyf hk
    ·exact h3 y hy hyf
structure Cells (names : List (Str × NameKind)) (cl : List (Str × Addr)) (n : Nat) (h' : Heap) (cells : List (Str × Addr)) : Prop where
 frm : ∀ x c, cells.lookup x = some c -> cl.lookup x = some c \/ ((x, NameKind.cell) ∈ names /\ n < c /\ h'.IsCell c none)
 inj : ∀ x y c, n < c -> cells.lookup x = some c -> cells.lookup y = some c -> x = y
 has : ∀ x, (cl.lookup x).isSome = true \/ (x, NameKind.cell) ∈ names -> (cells.lookup x).isSome = true
 new : ∀ x c, (x, NameKind.cell) ∈ names -> cells.lookup x = some c -> n < c
theorem cells_loop {M : Model} {A : Around} {E : Value -> Shared -> Prop} {n : Nat} {cl : List (Str × Addr)} :
  ∀ (names done : List (Str × NameKind)) (cells : List (Str × Addr)) (s : Shared) (Q : List (Str × Addr) -> Shared -> Prop), n < s.heap.objs.size ->
   Cells done cl n s.heap cells -> (∀ x c, cells.lookup x = some c -> c < s.heap.objs.size) ->
   (∀ h' cells', (∀ b o, s.heap.get? b = some o -> h'.get? b = some o) -> Cells (done ++ names) cl n h' cells' -> Q cells' { s with heap := h' }) ->
   wpAny M A (forIn names cells fun (x : Str × NameKind) (r : List (Str × Addr)) => if (x.2 == NameKind.cell) = true then do let c <- alloc { cls := Value.type "cell", data := Data.cell none }; pure (ForInStep.yield ((x.1, c) :: r)) else pure (ForInStep.yield r)) Q E s
 | [], done, cells, s, Q, hn, hc, hlt, q => by
  rw [List.forIn_nil]
  exact wpAny_pure (q s.heap cells (fun _ _ e => e) (by rw [List.append_nil]; exact hc))
 |(y, k) :: names, done, cells, s, Q, hn, hc, hlt, q => by
  rw [List.forIn_cons]
  dsimp only
  by_cases hk : k = NameKind.cell
  ·subst hk
   rw [if_pos (by rfl)]
   refine wpAny_bind (wpAny_bind (wpAny_alloc (wpAny_pure ?_)))
   dsimp only
   have hsz : (s.heap.push { cls := Value.type "cell", data := Data.cell none }).objs.size = s.heap.objs.size + 1 := Heap.size_push ..
   refine cells_loop (cl := cl) names (done ++ [(y, NameKind.cell)]) _ _ Q (by show n < (s.heap.push _).objs.size; rw [hsz]; omega) ?_ ?_ fun h' cells' k c => ?_
   ·have look : ∀ x c, ((y, s.heap.objs.size) :: cells).lookup x = some c -> (x = y /\ c = s.heap.objs.size) \/ cells.lookup x = some c := fun x c e => by
     by_cases hx : (x == y) = true
     ·simp only [List.lookup_cons, hx] at e
      exact .inl ⟨beq_iff_eq.mp hx, (Option.some.inj e).symm⟩
     ·have hx' : (x == y) = false := by simpa using hx
      simp only [List.lookup_cons, hx'] at e
      exact .inr e
    refine ⟨fun x c e => ?_, fun x z c hnc e1 e2 => ?_, fun x h => ?_, fun x c h e => ?_⟩
    ·rcases look x c e with ⟨rfl, rfl⟩ | e
     ·exact .inr ⟨List.mem_append_right _ List.mem_cons_self, hn, _, Heap.get?_push_size _ rfl, rfl⟩
     ·rcases hc.frm x c e with h | ⟨h1, h2, h3⟩
      ·exact .inl h
      ·exact .inr ⟨List.mem_append_left _ h1, h2, h3.keeps fun b o e => Heap.get?_push_of_some _ e⟩
    ·rcases look x c e1 with ⟨hx, hc1⟩ | f1
     ·rcases look z c e2 with ⟨hz, _⟩ | f2
      ·rw [hx, hz]
      ·have := hlt z c f2
       rw [hc1] at this
       exact absurd this (Nat.lt_irrefl _)
     ·rcases look z c e2 with ⟨_, hc2⟩ | f2
      ·have := hlt x c f1
       rw [hc2] at this
       exact absurd this (Nat.lt_irrefl _)
      ·exact hc.inj x z c hnc f1 f2
    ·by_cases hx : (x == y) = true
     ·simp [List.lookup_cons, hx]
     ·have hx' : (x == y) = false := by simpa using hx
      simp only [List.lookup_cons, hx']
      refine hc.has x (h.imp id fun h => ?_)
      rcases List.mem_append.mp h with h | h
      ·exact h
      ·have := List.mem_singleton.mp h
       injection this with this
       rw [this] at hx'
       simp at hx'
    ·rcases look x c e with ⟨rfl, rfl⟩ | e2
     ·exact hn
     ·by_cases hx : (x == y) = true
      ·simp only [List.lookup_cons, hx] at e
       rw [<- Option.some.inj e]
       exact hn
      ·refine hc.new x c ?_ e2
       rcases List.mem_append.mp h with h | h
       ·exact h
       ·have := List.mem_singleton.mp h
        injection this with this
        rw [this] at hx
        simp at hx
   ·intro x c e
    show c < (s.heap.push _).objs.size
    rw [hsz]
    by_cases hx : (x == y) = true
    ·simp only [List.lookup_cons, hx] at e
     rw [<- Option.some.inj e]
     exact Nat.lt_succ_self _
    ·have hx' : (x == y) = false := by simpa using hx
     simp only [List.lookup_cons, hx'] at e
     exact Nat.lt_succ_of_lt (hlt x c e)
   ·rw [List.append_assoc] at c
    exact q h' cells' (fun b o e => k b o (Heap.get?_push_of_some _ e)) c
  ·rw [if_neg (by simpa using hk)]
   refine wpAny_bind (wpAny_pure ?_)
   dsimp only
   refine cells_loop (cl := cl) names (done ++ [(y, k)]) cells s Q hn ⟨fun x c e => ?_, hc.inj, fun x h => hc.has x (h.imp id fun h => ?_), fun x c h => hc.new x c ?_⟩ hlt fun h' cells' k' c => ?_
   ·rcases hc.frm x c e with h | ⟨h1, h2⟩
    ·exact .inl h
    ·exact .inr ⟨List.mem_append_left _ h1, h2⟩
   ·rcases List.mem_append.mp h with h | h
    ·exact h
    ·have := List.mem_singleton.mp h
     injection this with _ this
     exact absurd this.symm hk
   ·rcases List.mem_append.mp h with h | h
    ·exact h
    ·have := List.mem_singleton.mp h
     injection this with _ this
     exact absurd this.symm hk
   ·rw [List.append_assoc] at c
    exact q h' cells' k' c
theorem wpAny_newFunctionEnv_of {M : Model} {A : Around} {E : Value -> Shared -> Prop} {s : Shared} {scope : Scope} {globals : Addr} {cl : List (Str × Addr)} {qual : Str} {func : Option Addr} {code : Value} {env : Env} {builtins : Addr} {Q : Env -> Shared -> Prop}
  (hcl : ∀ x c, cl.lookup x = some c -> c < s.heap.objs.size)
  (h : ∀ (h' : Heap) cells, (h'.Ns s.heap.objs.size fun _ => none) -> (∀ b o, s.heap.get? b = some o -> h'.get? b = some o) -> Cells scope.names cl s.heap.objs.size h' cells ->
   Q (newEnv scope s.heap.objs.size globals cells qual func code (some env) builtins) { s with heap := h' }) : wpAny M A (newFunctionEnv scope globals cl [] qual func code (some env) builtins) Q E s := by
 unfold newFunctionEnv
 refine wpAny_bind (wpAny_alloc (wpAny_bind ?_))
 have hsz : (s.heap.push { cls := Value.type "dict", data := Data.dict #[] }).objs.size = s.heap.objs.size + 1 := Heap.size_push ..
 refine cells_loop (n := s.heap.objs.size) (cl := cl) scope.names [] cl _ _ (by show s.heap.objs.size < (s.heap.push _).objs.size; rw [Heap.size_push]; exact Nat.lt_succ_self _) ⟨fun x c e => .inl e, fun x y c hnc e _ => absurd (hcl x c e) (Nat.not_lt.mpr (Nat.le_of_lt hnc)), fun x h => h.elim id fun z => (nomatch z), fun x c z => (nomatch z)⟩ (fun x c e => by show c < (s.heap.push _).objs.size; rw [Heap.size_push]; exact Nat.lt_succ_of_lt (hcl x c e)) fun h' cells k c => ?_
 refine wpAny_bind ?_
 rw [List.forIn_nil]
 refine wpAny_pure (wpAny_pure ?_)
 exact h h' cells ((Heap.Ns.new s.heap _).keeps k) (fun b o e => k b o (Heap.get?_push_of_some _ e)) c
def cst (own : List Str) (caps : List Nat) (σ : St) : St := own.map (fun _ => none) ++ caps.map fun j => (σ[j]?).join
section
variable {X : Cx} {pins : List (Addr × Obj)} {σ : St} {H : Hp} {s : Shared} {scope : Scope} {own : List Str} {caps : List Nat} {cns : List Str} {cl : List (Str × Addr)}
theorem cap_get {N : List Str} : ∀ {caps : List Nat} {cns : List Str}, cns = caps.filterMap (fun j => N[j]?) -> cns.length = caps.length -> ∀ (i : Nat) (j : Nat), caps[i]? = some j -> ∃ x, N[j]? = some x /\ cns[i]? = some x
 | [], _, _, _, i, j, h => by simp at h
 | j0 :: r, cns, e, hl, i, j, h => by
  rw [List.filterMap_cons] at e
  cases hN : N[j0]? with
  | none =>
   simp only [hN] at e
   have h1 := List.length_filterMap_le (fun j => N[j]?) r
   rw [e] at hl
   simp only [List.length_cons] at hl
   omega
  | some x =>
   simp only [hN] at e
   subst e
   cases i with
   | zero =>
    simp only [List.getElem?_cons_zero, Option.some.injEq] at h
    subst h
    exact ⟨x, hN, rfl⟩
   | succ i =>
    simp only [List.getElem?_cons_succ] at h ⊢
    exact cap_get rfl (by simpa using hl) i j h
theorem inv_comp {C : Addr} {fp : List Addr} {h1 h4 : Heap} {tk : Nat} {bc : List (Str × Addr)} (S : CScope X scope own caps cns) (I : Inv X pins σ H { s with heap := h1 }) (hfp : ∀ b ∈ fp, FpOk X pins H b /\ b < h1.objs.size)
  (hcl : ∀ x c, cl.lookup x = some c -> X.env.cells.lookup x = some c) (hall : ∀ y ∈ scope.names, y.2 = .free -> (cl.lookup y.1).isSome = true)
  (hC : C = h1.objs.size) (hn : h4.Ns C fun _ => none) (hk : ∀ b o, h1.get? b = some o -> h4.get? b = some o) (hb : Cells scope.names cl C h4 bc) :
  Inv (cxC X scope (own ++ cns) ⟨bc, C, { s with heap := h1 }, H, fp, X.pn ++ pins⟩) [] (cst own caps σ) H { s with heap := h4, toks := tk } := by
 have hok := I.ok
 have old : ∀ x c, cl.lookup x = some c -> c < C := fun x c e => by
  obtain ⟨v, o, ho, _⟩ := I.cell x c (hcl x c e)
  rw [hC]
  exact Heap.lt_size ho
 have nC : ∀ b o, h1.get? b = some o -> b ≠ C := fun b o e => by rw [hC]; exact Nat.ne_of_lt (Heap.lt_size e)
 refine ⟨⟨hok.mod, ?_, hok.glob, hok.blt, by rw [hC]; exact Nat.le_refl _, fun x y c e1 e2 => ?_, fun x hx => ?_, fun x c z e => ?_, hok.hd, hok.frames, .inl rfl, fun b hb' => ⟨?_, fun x c e => ?_⟩, fun b o e => I.bs b o e, Nat.le_trans hok.bsz I.sz, fun b o e hb' => ?_, fun b hb' hf => ?_, I.stack, I.stkFree⟩,
  rfl, I.bare, Un.kept hk, ⟨_, hn, fun i x v e1 e2 e3 => ?_⟩, fun x c e => ?_, ?_, fun x c e => ?_, fun p hp => ?_, I.hok.kept hk, ?_⟩
 ·show (relabel scope X.env).kind = _
  exact S.kind
 ·by_cases hlt : C < c
  ·exact hb.inj x y c hlt e1 e2
  ·rcases hb.frm x c e1 with a1 | ⟨_, z, _⟩
   ·rcases hb.frm y c e2 with a2 | ⟨_, z, _⟩
    ·exact hok.inj x y c (hcl x c a1) (hcl y c a2)
    ·exact absurd z hlt
   ·exact absurd z hlt
 ·
  have hx' : (relabel scope X.env).names.lookup x = some .cell \/ (relabel scope X.env).names.lookup x = some .free := hx
  have fr : scope.names.lookup x = some .free \/ scope.names.lookup x = some .cell := by
   rcases hx' with z | z
   ·rcases relabel_lookup z with q | ⟨q, _⟩
    ·exact .inr q
    ·exact .inl q
   ·rcases relabel_lookup z with q | ⟨_, q⟩
    ·exact .inl q
    ·cases q
  refine Option.isSome_iff_exists.mp (hb.has x ?_)
  rcases fr with fr | fr
  ·exact .inl (hall _ (PySem.mem_of_lookup fr) rfl)
  ·exact .inr (PySem.mem_of_lookup fr)
 ·have z' : (x, NameKind.cell) ∈ scope.names := of_decide_eq_true z
  have := hb.new x c z' e
  rw [hC] at this
  exact Nat.le_of_lt this
 ·exact by rw [show (cxC X scope (own ++ cns) ⟨bc, C, { s with heap := h1 }, H, fp, X.pn ++ pins⟩).env.locals = C from rfl, hC]; exact Nat.ne_of_lt (hfp b hb').2
 ·rcases hb.frm x c e with e' | ⟨_, z, _⟩
  ·exact (hfp b hb').1.2.2.2.2.1 x c (hcl x c e')
  ·have := (hfp b hb').2
   rw [hC] at z
   exact Nat.ne_of_gt (Nat.lt_trans this z)
 ·have q := (hfp b hb').1.2.2.2.1
  rcases q with q | q
  ·exact hok.noex b o e q
  ·exact absurd (Nat.lt_of_lt_of_le (Heap.lt_size e) (Nat.le_trans hok.bsz q)) (Nat.lt_irrefl _)
 ·rcases List.mem_cons.mp (I.stkSub b hf) with q | q
  ·exact (hfp b hb').1.2.1 q
  ·exact (hfp b hb').1.2.2.1 q
 ·
  unfold cst at e2
  have e1' : (own ++ cns)[i]? = some x := e1
  by_cases hi : i < own.length
  ·rw [List.getElem?_append_left (by simpa using hi), List.getElem?_map] at e2
   cases h : own[i]? with
   | none => rw [h] at e2; cases e2
   | some z => rw [h] at e2; cases e2
  ·rw [List.getElem?_append_right (by simpa using hi), List.length_map, List.getElem?_map] at e2
   rw [List.getElem?_append_right (by simpa using hi)] at e1'
   cases hj : caps[i - own.length]? with
   | none => rw [hj] at e2; cases e2
   | some j =>
    rw [hj] at e2
    simp only [Option.map_some, Option.some.injEq] at e2
    obtain ⟨x', n1, n2⟩ := cap_get S.cap S.len _ _ hj
    have ex : x' = x := Option.some.inj (n2.symm.trans e1')
    subst ex
    have hσ : σ[j]? = some (some v) := by
     cases q : σ[j]? with
     | none => rw [q] at e2; cases e2
     | some z => rw [q] at e2; cases z with
      | none => cases e2
      | some z => simpa using e2
    have fr := S.vis x' (List.mem_of_getElem? n2)
    have kc := S.free _ (PySem.mem_of_lookup fr) rfl
    obtain ⟨m, hm, hl⟩ := I.loc
    obtain ⟨u, r, l⟩ := hl j x' v n1 hσ (.inr (.inl kc))
    refine ⟨u, r, ?_⟩
    rcases l with ⟨q, _⟩ | ⟨_, c, q1, q2⟩
    ·rw [kc] at q; cases q
    ·obtain ⟨c', hb'⟩ := Option.isSome_iff_exists.mp (hb.has x' (.inl (hall _ (PySem.mem_of_lookup fr) rfl)))
     have hc' : cl.lookup x' = some c' := by
      rcases hb.frm x' c' hb' with e' | ⟨z, _, _⟩
      ·exact e'
      ·exact absurd (List.mem_of_getElem? n2) (S.cell _ z rfl)
     have ec : c' = c := Option.some.inj ((hcl _ _ hc').symm.trans q1)
     subst ec
     refine .inr ⟨?_, c', hb', ?_⟩
     ·have : Vis (relabel scope X.env) x' := e3
      rcases this with z | z | z
      ·rcases relabel_lookup z with q | ⟨_, q⟩
       ·rw [fr] at q; cases q
       ·cases q
      ·exact .inl z
      ·exact .inr z
     ·obtain ⟨o, ho, hd⟩ := q2
      exact ⟨o, hk _ o ho, hd⟩
 ·rcases hb.frm x c e with e' | ⟨_, _, z⟩
  ·obtain ⟨v, o, ho, hd⟩ := I.cell x c (hcl x c e')
   exact ⟨v, o, hk _ o ho, hd⟩
  ·exact ⟨none, z⟩
 ·show H C = none
  rw [hC]
  exact I.hok.fresh (Nat.le_refl _)
 ·rcases hb.frm x c e with e' | ⟨_, z, _⟩
  ·exact I.freeC x c (hcl x c e')
  ·rw [hC] at z
   exact I.hok.fresh (Nat.le_of_lt z)
 ·have hp' : p ∈ X.pn ++ pins := by simpa [cxC] using hp
  obtain ⟨e, n, ne, nf, d⟩ := I.pin p hp'
  refine ⟨hk _ _ e, n, nC _ _ e, fun z => ?_, d⟩
  rcases List.mem_cons.mp (I.stkSub _ z) with q | q
  ·exact ne q
  ·exact nf q
 ·unfold cst
  show _ = (own ++ cns).length
  rw [List.length_append, List.length_map, List.length_map, List.length_append, S.len]
theorem inv_back {C : Addr} {fp : List Addr} {h1 h' : Heap} {s' : Shared} {H' : Hp} {τ : St} {N' : List Str} (I : Inv X pins σ H { s with heap := h1 }) (hfp : ∀ b ∈ fp, FpOk X pins H b /\ b < h1.objs.size)
  (J : Inv (cxC X scope N' ⟨cl, C, { s with heap := h1 }, H, fp, X.pn ++ pins⟩) [] τ H' s') (hC : C = h1.objs.size) (hs : Heap.SameBut C s'.heap h') : Inv X pins σ H' { s' with heap := h' } := by
 have hc : H' C = none := J.free
 have keep : ∀ b o, b ≠ C -> s'.heap.get? b = some o -> h'.get? b = some o := fun b o hb e => (hs.2 b hb).trans e
 have hok : HOk X.prog X.w H' h' := fun b u e => by
  refine (J.hok b u e).stay (fun c v hcc q => keep c v ?_ q) (fun _ q => q) fun _ _ q => q
  rcases hcc with rfl | hcc
  ·intro z; rw [z, hc] at e; cases e
  ·intro z; rw [z, hc] at hcc; cases hcc
 have lt1 : ∀ b o, h1.get? b = some o -> b ≠ C := fun b o e => by rw [hC]; exact Nat.ne_of_lt (Heap.lt_size e)
 have un : Un (frs X.stack) fp H H' h1 h' := by
  have u : Un (frs X.stack) fp H H' h1 s'.heap := J.base
  exact ⟨fun b o e n hf hx => keep b o (lt1 b o e) (u.keep b o e n hf hx), fun b o e n hf hx => let ⟨sl, q⟩ := u.slot b o e n hf hx; ⟨sl, keep b _ (lt1 b o e) q⟩, u.free,
   fun b o e hx => let ⟨o', q⟩ := u.there b o e hx; ⟨o', keep b _ (lt1 b o e) q⟩, u.tups, u.frzs, u.tbls⟩
 refine I.call' (s' := { s' with heap := h' }) (ch := fp) ((show s'.os = _ from J.os).trans ?_) un hok J.bare fun b hb => ?_
 ·rfl
 ·obtain ⟨⟨_, f1, f2, f3, f4, f5⟩, _⟩ := hfp b hb
  exact ⟨f3, f1, f4, f5⟩
end
def tComp (wi : TI) (g : CA -> TG) (tc : CA -> TT) (te : CA -> TE) (own : List Str) (caps : List Nat) : TE := fun σ H Q => wi σ H fun J H1 => ∀ D, H1 D = none -> ∀ k : CA, ∃ W : Nat -> Nat -> List V -> St -> Hp -> Prop,
 (∃ m, W 0 m [] (cst own caps σ) (upd H1 D (.lst []))) /\ ∀ i m ys τ H, W i m ys τ H -> H D = some (.lst ys) /\ ys.length < sizeLine /\
  ((J.stop i H /\ Q (.ref D) H) \/ (J.go i H /\ ∃ N : List V -> St -> Hp -> Prop, (∀ ys τ H, N ys τ H -> ∃ m', m' < m /\ W (i + 1) m' ys τ H) /\
   ∀ x H', J.yld i H x H' -> g k x τ H' fun τ2 H2 => tc k τ2 H2 fun b H3 => if b = true then te k τ2 H3 fun y H4 => H4 D = some (.lst ys) /\ N (ys ++ [y]) τ2 (upd H4 D (.lst (ys ++ [y]))) else N ys τ2 H3))
def PCs (X : Cx) (ifs : List Expr) (tc : TT) : Prop := ∀ (pins : List (Addr × Obj)) (s : Shared) (σ : St) (H : Hp) (Q : Bool -> Hp -> Prop), Inv X pins σ H s -> tc σ H Q ->
 wpAny (model X.prog X.w) X.A (forIn ifs true fun c r => if r = true then do let ok <- isTrue c X.env (eval c X.env); pure (ForInStep.yield ok) else pure (ForInStep.yield r)) (TP X pins σ Q) X.xe s
theorem pcs_nil {X : Cx} : PCs X [] (fun _ H Q => Q true H) := fun pins s σ H Q I h => by
 rw [List.forIn_nil]
 exact wpAny_pure ⟨H, I, h⟩
section
variable {X : Cx} {scope : Scope} {own : List Str} {caps : List Nat} {cns : List Str} {elt tg iter : Expr} {ifs : List Expr} {pos : Pos} {wi : TI} {g : CA -> TG} {tc : CA -> TT} {te : CA -> TE}
theorem pe_comp_use (use : Option (Value -> Sem Unit)) (S : CScope X scope own caps cns) (hcalm : X.calm = true) (hi : PI X tg iter wi)
  (hg : ∀ k : CA, PG (cxC X scope (own ++ cns) k) tg (g k)) (hc : ∀ k : CA, PCs (cxC X scope (own ++ cns) k) ifs (tc k)) (he : ∀ k : CA, PE (cxC X scope (own ++ cns) k) elt (te k))
  (hs : ∀ x, foldedSetIterable iter X.env x = pure x) {P : Value -> Shared -> Prop} {pins : List (Addr × Obj)} {s : Shared} {σ : St} {H : Hp} {Q : VK} (I : Inv X pins σ H s) (h : tComp wi g tc te own caps σ H Q)
  (hend : ∀ (D : Addr) (C : Addr) (H' : Hp) (s' : Shared), Q (.ref D) H' -> Inv X pins σ H' s' -> (∃ m, s'.heap.Ns C m) -> FpOk X pins H' C -> compPost (model X.prog X.w) X.A X.xe use P (.ref D) C (.ok .next) s') :
  wpAny (model X.prog X.w) X.A (comprehension (.ListComp elt [⟨tg, iter, ifs, 0⟩] scope pos) scope X.env (firstIterPos [⟨tg, iter, ifs, 0⟩] pos) (newList []) false (eval iter X.env) use) P X.xe s := by
 obtain ⟨cl, ecl, hcl, _, hall⟩ := closure_of (env := X.env) scope.names [] (fun y hy hf => I.ok.has y.1 (.inl (S.free y hy hf))) (fun x c z => by simp at z)
 refine wpAny_comprehension_free (cl := cl) rfl hs (by unfold closureFor; simpa using ecl) S.kind S.names ?_
 refine thn (hi pins s σ H _ I h) fun v s1 q1 => thn q1 fun itv s2 q2 => ?_
 obtain ⟨it, fp, tn, J, H1, rfl, I2, T, st0, hfp, q⟩ := q2
 have hD : H1 s2.heap.objs.size = none := I2.hok.fresh (Nat.le_refl _)
 refine wpAny_newObj_type ?_
 have I3 : Inv X pins σ (upd H1 s2.heap.objs.size (.lst [])) { s2 with heap := s2.heap.push { cls := .type "list", data := .seq ([] : List Value).toArray } } :=
  I2.laid (t' := s2.toks) (fun _ _ q => Heap.get?_push_of_some _ q) (Nat.le_refl _) ⟨Nat.zero_le _, [], 0, .nil, Heap.get?_push_size _ rfl⟩
 have hfp3 : ∀ b ∈ fp, FpOk X pins (upd H1 s2.heap.objs.size (.lst [])) b /\ b < (s2.heap.push { cls := .type "list", data := .seq ([] : List Value).toArray }).objs.size := fun b hb => by
  obtain ⟨o, ho, _⟩ := T.obj 0 _ st0 b hb
  have hlt := Heap.lt_size ho
  obtain ⟨f0, f⟩ := hfp b hb
  refine ⟨⟨by rw [upd_ne (Nat.ne_of_lt hlt)]; exact f0, f⟩, ?_⟩
  rw [Heap.size_push]
  exact Nat.lt_succ_of_lt hlt
 refine wpAny_newFunctionEnv_of (fun x c e => by obtain ⟨v, o, ho, _⟩ := I3.cell x c (hcl x c e); exact Heap.lt_size ho) (fun h4 bc hns keep4 hbc => ?_)
 dsimp only at hns keep4 hbc ⊢
 generalize hH : s2.heap.push { cls := .type "list", data := .seq ([] : List Value).toArray } = h1 at *
 obtain ⟨W, ⟨m0, w0⟩, step⟩ := q s2.heap.objs.size hD ⟨bc, h1.objs.size, { s2 with heap := h1 }, upd H1 s2.heap.objs.size (.lst []), fp, X.pn ++ pins⟩
 have J0 := inv_comp (tk := s2.toks) S I3 hfp3 hcl hall rfl (by simpa using hns) keep4 hbc
 have fpx : ∀ (H' : Hp), (∀ b ∈ fp, H' b = none) -> ∀ b ∈ fp, FpOk (cxC X scope (own ++ cns) ⟨bc, h1.objs.size, { s2 with heap := h1 }, (upd H1 s2.heap.objs.size (.lst [])), fp, X.pn ++ pins⟩) [] H' b := fun H' hn b hb => by
  obtain ⟨⟨_, f1, f2, f3, f4, f5⟩, hlt⟩ := hfp3 b hb
  refine ⟨hn b hb, Nat.ne_of_lt hlt, fun z => ?_, .inl hb, fun x c e => ?_, fun p hp => f5 p (by simpa [cxC] using hp)⟩
  ·rcases List.mem_cons.mp (I3.stkSub b z) with q | q
   ·exact f1 q
   ·exact f2 q
  ·rcases hbc.frm x c e with e' | ⟨_, z, _⟩
   ·exact f4 x c (hcl x c e')
   ·exact Nat.ne_of_gt (Nat.lt_trans hlt z)
 have st1 : tn 0 h4 := T.keep 0 _ _ st0 fun b hb o e => keep4 b o (by rw [<- hH]; exact Heap.get?_push_of_some _ e)
 have loop : codeAny (model X.prog X.w) X.A (.compLoop (.ListComp elt [⟨tg, iter, ifs, 0⟩] scope pos) 0 (.ref it) (.ref s2.heap.objs.size) (compEnvC scope bc h1.objs.size X.env))
   (compPost (model X.prog X.w) X.A X.xe use P (.ref s2.heap.objs.size) h1.objs.size) { s2 with heap := h4 } := by
  refine compLoop_gen (fun n s' => ∃ i ys τ H', W i n ys τ H' /\ Inv (cxC X scope (own ++ cns) ⟨bc, h1.objs.size, { s2 with heap := h1 }, (upd H1 s2.heap.objs.size (.lst [])), fp, X.pn ++ pins⟩) [] τ H' s' /\ tn i s'.heap /\ ∀ b ∈ fp, H' b = none) ?_ m0
   ⟨0, [], _, _, w0, J0, st1, fun b hb => (hfp3 b hb).1.1⟩
  rintro n s' ⟨i, ys, τ, H', w1, J1, st, hn⟩
  obtain ⟨hDl, hlen, alt⟩ := step i n ys τ H' w1
  rcases alt with ⟨hstop, hq⟩ | ⟨hgo, N, hN, hbody⟩
  ·refine thn (T.done (cxC X scope (own ++ cns) ⟨bc, h1.objs.size, { s2 with heap := h1 }, (upd H1 s2.heap.objs.size (.lst [])), fp, X.pn ++ pins⟩) rfl rfl rfl hcalm i [] s' τ H' _ J1 (fpx H' hn) st hstop) fun r s'' ⟨er, J2⟩ => ?_
   subst er
   obtain ⟨m, hm, _⟩ := J2.loc
   exact hend _ _ H' s'' hq (inv_back (h' := s''.heap) I3 hfp3 J2 rfl (Heap.SameBut.refl ..)) ⟨m, hm⟩ (I3.fpOk (Nat.le_refl _) J2.free)
  ·refine thn (T.item (cxC X scope (own ++ cns) ⟨bc, h1.objs.size, { s2 with heap := h1 }, (upd H1 s2.heap.objs.size (.lst [])), fp, X.pn ++ pins⟩) rfl rfl rfl hcalm i [] s' τ H' _ J1 (fpx H' hn) st hgo) fun r s'' ⟨u, er, hw⟩ => ?_
   subst er
   refine thn hw fun _ s3 ⟨x, H2, J2, rx, hy, st2, hn2⟩ => ?_
   have pinned := J2.pinned (fpx H2 hn2) (T.obj (i + 1) _ st2)
   have back : ∀ {τ' : St} {H'' : Hp} {s4 : Shared}, Inv (cxC X scope (own ++ cns) ⟨bc, h1.objs.size, { s2 with heap := h1 }, (upd H1 s2.heap.objs.size (.lst [])), fp, X.pn ++ pins⟩) ([] ++ pinsAt fp s3.heap) τ' H'' s4 ->
     tn (i + 1) s4.heap /\ ∀ b ∈ fp, H'' b = none := fun {τ' H'' s4} K => by
    refine ⟨T.keep (i + 1) _ _ st2 fun b hb o e => (K.pin (b, o) (List.mem_append_right _ (by simpa using mem_pinsAt hb e))).1, fun b hb => ?_⟩
    obtain ⟨o, e, _⟩ := T.obj (i + 1) _ st2 b hb
    exact (K.pin (b, o) (List.mem_append_right _ (by simpa using mem_pinsAt hb e))).2.1
   refine thn (hg _ ([] ++ pinsAt fp s3.heap) s3 τ H2 x u _ pinned rx (hbody x H2 hy)) fun _ s4 ⟨τ2, H3, J3, q3⟩ => ?_
   refine thn (hc _ ([] ++ pinsAt fp s3.heap) s4 τ2 H3 _ J3 q3) fun b s5 ⟨H4, J4, q4⟩ => ?_
   cases b with
   | false =>
    simp only [Bool.false_eq_true, if_false] at q4 ⊢
    obtain ⟨m', hm', w2⟩ := hN _ _ _ q4
    obtain ⟨b1, b2⟩ := back J4
    exact ⟨m', hm', i + 1, ys, τ2, H4, w2, J4.unpinned, b1, b2⟩
   | true =>
    simp only [if_true] at q4 ⊢
    refine thn (he _ ([] ++ pinsAt fp s3.heap) s5 τ2 H4 _ J4 q4) fun yv s6 ⟨y, H5, J5, ry, hD5, q5⟩ => ?_
    obtain ⟨m', hm', w2⟩ := hN _ _ _ q5
    obtain ⟨hz, its, c, rv, hlen2, eo⟩ := J5.lstM hD5
    refine PySem.wpAny_call_entry slot_list_append ⟨_, eo, rfl⟩ entry_list_append ?_ (args_list_append _ _)
    show wpAny _ _ (updateSeq s2.heap.objs.size (·.push yv) >>= fun _ => ret .none) _ _ s6
    refine wpAny_bind (wpAny_updateSeq eo rfl (wpAny_pure ⟨.none, rfl, ?_⟩) (by simp; omega) (by simp; omega))
    have J6 := J5.lset (ys := ys ++ [y]) (its' := its ++ [yv]) (f := (·.push yv)) (t' := s6.toks) hD5 eo (by simp) (rv.append (.cons ry .nil)) (by simp; omega)
    obtain ⟨b1, b2⟩ := back J6
    exact ⟨m', hm', i + 1, _, τ2, _, w2, J6.unpinned, b1, b2⟩
 exact codeAny_compStart_list loop (T.self X.A 0 _ _ _ st1 loop)
theorem pe_comp (S : CScope X scope own caps cns) (hcalm : X.calm = true) (hi : PI X tg iter wi)
  (hg : ∀ k : CA, PG (cxC X scope (own ++ cns) k) tg (g k)) (hc : ∀ k : CA, PCs (cxC X scope (own ++ cns) k) ifs (tc k)) (he : ∀ k : CA, PE (cxC X scope (own ++ cns) k) elt (te k))
  (hs : ∀ x, foldedSetIterable iter X.env x = pure x := by intro _; rfl) : PE X (.ListComp elt [⟨tg, iter, ifs, 0⟩] scope pos) (tComp wi g tc te own caps) := by
 intro pins s σ H Q I h
 rw [eval_ListComp]
 refine pe_comp_use none S hcalm hi hg hc he hs I h fun D C H' s' q hI ⟨m, hm⟩ ⟨f0, f1, f2, f3, f4, f5⟩ => ?_
 exact ⟨m, hm, fun h' hs' => ⟨.ref D, H', hI.turned (t' := s'.toks) (fun b o hb e => (hs'.2 b hb).trans e) f0 f1 f3 f4 f5, rfl, q⟩⟩
theorem ps_setComp {i : Nat} {y : Str} {py spos : Pos} (S : CScope X scope own caps cns) (hcalm : X.calm = true) (hN : X.N.Nodup) (hNi : X.N[i]? = some y) (hy : X.env.scope.names.lookup y = some .local) (hi : PI X tg iter wi)
  (hg : ∀ k : CA, PG (cxC X scope (own ++ cns) k) tg (g k)) (hc : ∀ k : CA, PCs (cxC X scope (own ++ cns) k) ifs (tc k)) (he : ∀ k : CA, PE (cxC X scope (own ++ cns) k) elt (te k))
  (hsw : swapsWith (.ListComp elt [⟨tg, iter, ifs, 0⟩] scope pos) (some (.Name y py)) spos.line X.env = pure true) (hs : ∀ x, foldedSetIterable iter X.env x = pure x := by intro _; rfl) :
  PS X (.Assign [.Name y py] (.ListComp elt [⟨tg, iter, ifs, 0⟩] scope pos) spos) (fun D σ H => tComp wi g tc te own caps σ H fun x H1 => D.nx (σ.set i (some x)) H1) := by
 intro pins s σ H D I h
 rw [exec_Assign_Name_used _ _ _ _ hsw]
 refine wpAny_bind (wpAny_standAt (wpAny_bind ?_))
 show wpAny _ _ (do let _ <- comprehension (.ListComp elt [⟨tg, iter, ifs, 0⟩] scope pos) scope X.env _ (newList []) false (eval iter X.env) (some (assign (.Name y py) X.env))) _ _ s
 refine wpAny_bind (wpAny_mono (pe_comp_use (P := fun _ s' => SP X pins D .next s') (some (assign (.Name y py) X.env)) S hcalm hi hg hc he hs I h fun Da C H' s' q hI ⟨m, hm⟩ ⟨f0, f1, f2, f3, f4, f5⟩ => ?_) (fun _ s' hq => wpAny_pure (wpAny_pure hq)) fun _ _ e => e)
 show wpAny _ _ (assign (.Name y py) X.env (.ref Da)) _ _ _
 refine wpAny_assign_Name (store_ok2 hI hN hNi (.inl hy) (v := .ref Da) rfl (fun s2 I2 ⟨b, sb, hb⟩ => ?_) (.inr hy))
 have hCb : C ≠ b := by
  rintro rfl
  rcases hb with z | z
  ·exact f1 z
  ·exact f4 y _ z rfl
 refine ⟨m, hm.sameBut sb hCb, fun h' hs' => ⟨_, H', I2.turned (t' := s2.toks) (fun b o hb e => (hs'.2 b hb).trans e) f0 f1 f3 f4 f5, q⟩⟩
end
theorem comp_list {K : PySem.W.Frag} {a : Addr} {xs : List V} {g : CA -> TG} {tc : CA -> TT} {te : CA -> TE} {own : List Str} {caps : List Nat} {σ : St} {H1 : Hp} {Q : VK} (hz : xs.length < sizeLine) (Pv : Addr -> Nat -> List V -> St -> Hp -> Prop)
  (h0 : ∀ D, H1 D = none -> Pv D 0 [] (cst own caps σ) (upd H1 D (.lst [])))
  (hl : ∀ D i ys τ H, i <= xs.length -> Pv D i ys τ H -> SqL K H a xs /\ H D = some (.lst ys) /\ ys.length <= i)
  (hs : ∀ k D i x ys τ H, xs[i]? = some x -> Pv D i ys τ H -> g k x τ H fun τ2 H2 => tc k τ2 H2 fun b H3 => if b = true then te k τ2 H3 fun y H4 => H4 D = some (.lst ys) /\ Pv D (i + 1) (ys ++ [y]) τ2 (upd H4 D (.lst (ys ++ [y]))) else Pv D (i + 1) ys τ2 H3)
  (hd : ∀ D ys τ H, H1 D = none -> Pv D xs.length ys τ H -> Q (.ref D) H) :
  ∀ D, H1 D = none -> ∀ k : CA, ∃ W : Nat -> Nat -> List V -> St -> Hp -> Prop, (∃ m, W 0 m [] (cst own caps σ) (upd H1 D (.lst []))) /\ ∀ i m ys τ H, W i m ys τ H -> H D = some (.lst ys) /\ ys.length < sizeLine /\
   (((Itl K a).stop i H /\ Q (.ref D) H) \/ ((Itl K a).go i H /\ ∃ N : List V -> St -> Hp -> Prop, (∀ ys τ H, N ys τ H -> ∃ m', m' < m /\ W (i + 1) m' ys τ H) /\
    ∀ x H', (Itl K a).yld i H x H' -> g k x τ H' fun τ2 H2 => tc k τ2 H2 fun b H3 => if b = true then te k τ2 H3 fun y H4 => H4 D = some (.lst ys) /\ N (ys ++ [y]) τ2 (upd H4 D (.lst (ys ++ [y]))) else N ys τ2 H3)) := by
 intro D hD k
 refine ⟨fun i m ys τ H => m = xs.length - i /\ i <= xs.length /\ Pv D i ys τ H, ⟨xs.length, by simp, Nat.zero_le _, h0 D hD⟩, ?_⟩
 rintro i m ys τ H ⟨rfl, hi, p⟩
 obtain ⟨q, e, z⟩ := hl D i ys τ H hi p
 refine ⟨e, by omega, ?_⟩
 by_cases hlt : i < xs.length
 ·refine .inr ⟨⟨xs, xs[i], q, by simp [hlt]⟩, Pv D (i + 1), fun ys' τ' H' p' => ⟨xs.length - (i + 1), by omega, rfl, hlt, p'⟩, fun x H' y => ?_⟩
  obtain ⟨rfl, y⟩ := y
  exact hs k D i x ys τ _ (y xs q) p
 ·have e : i = xs.length := by omega
  subst e
  exact .inl ⟨⟨xs, q, Nat.le_refl _⟩, hd D ys τ H hD p⟩
end L2
set_option Elab.async false
set_option linter.all false
set_option maxRecDepth 100000
set_option maxHeartbeats 4000000
namespace L2
open PySem PySem.Spec PyProof.Rows Hex
theorem paired_append {α β : Type} {R : α -> β -> Prop} {c : List α} {d : List β} (k : Paired R c d) : ∀ {a : List α} {b : List β}, Paired R a b -> Paired R (a ++ c) (b ++ d)
 | _, _, .nil => k
 | _, _, .cons h t => .cons h (paired_append k t)
def TupS (H H' : Hp) : Prop := ∀ b xs, H b = some (.tup xs) -> H' b = some (.tup xs)
theorem TupS.trans {H H1 H2 : Hp} (a : TupS H H1) (b : TupS H1 H2) : TupS H H2 := fun c xs h => b c xs (a c xs h)
theorem TupS.of {H H' : Hp} (s : Same H H') : TupS H H' := fun b xs h => s b _ h
def isTup : HO -> Bool
 | .tup _ => true
 | _ => false
theorem TupS.upd {H : Hp} {p : Addr} {o o' : HO} (h : H p = some o) (k : isTup o = false) : TupS H (upd H p o') := fun b xs z => by
 rw [upd_ne]
 ·exact z
 ·rintro rfl
  rw [h] at z
  cases z
  cases k
theorem Same.at {p : Addr} {H H1 : Hp} (a : Same H H1) (hp : H p = none) (o : HO) : Same H (upd H1 p o) := fun b o' h => by rw [upd_ne (ne_of_none h hp)]; exact a b o' h
end L2
set_option Elab.async false
set_option linter.all false
set_option maxRecDepth 100000
set_option maxHeartbeats 4000000
namespace L2
open PySem PySem.Spec PyProof.Rows
theorem tCB_i {r : List V -> Hp -> VK -> Prop} {t : TA} {σ : St} {H : Hp} {Q : VK} (h : t σ H fun vs H1 => r vs H1 Q) : tCB r t σ H Q := h
theorem tCons_i {te : TE} {t : TA} {σ : St} {H : Hp} {Q : List V -> Hp -> Prop} (h : te σ H fun v H1 => t σ H1 fun vs H2 => Q (v :: vs) H2) : tCons te t σ H Q := h
theorem tOp_i {r : R2} {ta tb : TE} {σ : St} {H : Hp} {Q : VK} (h : ta σ H fun x H1 => tb σ H1 fun y H2 => r x y H2 Q) : tOp r ta tb σ H Q := h
theorem tCall_i {sp : Sp} {dvs : List V} {E : XK} {t : TA} {σ : St} {H : Hp} {Q : VK} (h : t σ H fun vs H1 => sp (vs ++ dvs) H1 Q E) : tCall sp dvs E t σ H Q := h
theorem tNext_i {D : Ends} {σ : St} {H : Hp} (h : D.nx σ H) : tNext D σ H := h
theorem tSeq_i {t u : TS} {D : Ends} {σ : St} {H : Hp} (h : t { D with nx := u D } σ H) : tSeq t u D σ H := h
def tJ (t : TS) : TS := fun D σ H => ∃ J : St -> Hp -> Prop, t { D with nx := J } σ H /\ ∀ σ' H', J σ' H' -> D.nx σ' H'
theorem ps_join {X : Cx} {st : Stmt} {t : TS} (h : PS X st t) : PS X st (tJ t) := by
 intro pins s σ H D I q
 obtain ⟨J, q1, q2⟩ := q
 refine thn (h pins s σ H _ I q1) fun f s' z => ?_
 cases f with
 | next => obtain ⟨σ', H', I', j⟩ := z; exact ⟨σ', H', I', q2 σ' H' j⟩
 | brk => exact z
 | cont => exact z
 | ret u => exact z
section
variable {prog : Program} {w : World} {A : Around} {E : Value -> Shared -> Prop} {s : Shared}
end
section
variable {X : Cx} {e : Expr} {te : TE} {p1 p2 pos1 pos2 : Pos}
end
end L2
set_option Elab.async false
set_option linter.all false
set_option maxRecDepth 100000
set_option maxHeartbeats 4000000
namespace L2
open PySem PySem.Spec PyProof.Rows
def CompGo (J : It) (g : CA -> TG) (tc : CA -> TT) (te : CA -> TE) (own : List Str) (caps : List Nat) (σ : St) (H1 : Hp) (Q : VK) : Prop := ∀ D, H1 D = none -> ∀ k : CA, ∃ W : Nat -> Nat -> List V -> St -> Hp -> Prop,
 (∃ m, W 0 m [] (cst own caps σ) (upd H1 D (.lst []))) /\ ∀ i m ys τ H, W i m ys τ H -> H D = some (.lst ys) /\ ys.length < sizeLine /\
  ((J.stop i H /\ Q (.ref D) H) \/ (J.go i H /\ ∃ N : List V -> St -> Hp -> Prop, (∀ ys τ H, N ys τ H -> ∃ m', m' < m /\ W (i + 1) m' ys τ H) /\
   ∀ x H', J.yld i H x H' -> g k x τ H' fun τ2 H2 => tc k τ2 H2 fun b H3 => if b = true then te k τ2 H3 fun y H4 => H4 D = some (.lst ys) /\ N (ys ++ [y]) τ2 (upd H4 D (.lst (ys ++ [y]))) else N ys τ2 H3))
theorem tComp_i {wi : TI} {g : CA -> TG} {tc : CA -> TT} {te : CA -> TE} {own : List Str} {caps : List Nat} {σ : St} {H : Hp} {Q : VK} (h : wi σ H fun J H1 => CompGo J g tc te own caps σ H1 Q) : tComp wi g tc te own caps σ H Q := h
theorem gName_i {i : Nat} {v : V} {σ : St} {H : Hp} {Q : St -> Hp -> Prop} (h : Q (σ.set i (some v)) H) : gName i v σ H Q := h
theorem tAsg_i {te : TE} {g : TG} {D : Ends} {σ : St} {H : Hp} (h : te σ H fun x H1 => g x σ H1 D.nx) : tAsg te g D σ H := h
theorem tIfS_i {c : TT} {t u : TS} {D : Ends} {σ : St} {H : Hp} (h : c σ H fun b H1 => if b = true then t D σ H1 else u D σ H1) : tIfS c t u D σ H := h
theorem tTest_i {t : TE} {σ : St} {H : Hp} {Q : Bool -> Hp -> Prop} (h : t σ H fun x H1 => ∃ c, x = .bl c /\ Q c H1) : tTest t σ H Q := h
theorem go_list {K : PySem.W.Frag} {a : Addr} {xs : List V} {g : CA -> TG} {tc : CA -> TT} {te : CA -> TE} {own : List Str} {caps : List Nat} {σ : St} {H1 : Hp} {Q : VK} (hz : xs.length < sizeLine) (Pv : Addr -> Nat -> List V -> St -> Hp -> Prop)
  (h0 : ∀ D, H1 D = none -> Pv D 0 [] (cst own caps σ) (upd H1 D (.lst [])))
  (hl : ∀ D i ys τ H, i <= xs.length -> Pv D i ys τ H -> SqL K H a xs /\ H D = some (.lst ys) /\ ys.length <= i)
  (hs : ∀ k D i x ys τ H, xs[i]? = some x -> Pv D i ys τ H -> g k x τ H fun τ2 H2 => tc k τ2 H2 fun b H3 => if b = true then te k τ2 H3 fun y H4 => H4 D = some (.lst ys) /\ Pv D (i + 1) (ys ++ [y]) τ2 (upd H4 D (.lst (ys ++ [y]))) else Pv D (i + 1) ys τ2 H3)
  (hd : ∀ D ys τ H, H1 D = none -> Pv D xs.length ys τ H -> Q (.ref D) H) : CompGo (Itl K a) g tc te own caps σ H1 Q := comp_list hz Pv h0 hl hs hd
theorem go_range {lo : Int} {n : Nat} {g : CA -> TG} {tc : CA -> TT} {te : CA -> TE} {own : List Str} {caps : List Nat} {σ : St} {H1 : Hp} {Q : VK} (hz : n < sizeLine) (Pv : Addr -> Nat -> List V -> St -> Hp -> Prop)
  (h0 : ∀ D, H1 D = none -> Pv D 0 [] (cst own caps σ) (upd H1 D (.lst [])))
  (hl : ∀ D i ys τ H, i <= n -> Pv D i ys τ H -> H D = some (.lst ys) /\ ys.length <= i)
  (hs : ∀ k D i ys τ H, i < n -> Pv D i ys τ H -> g k (.int (lo + (i : Int))) τ H fun τ2 H2 => tc k τ2 H2 fun b H3 => if b = true then te k τ2 H3 fun y H4 => H4 D = some (.lst ys) /\ Pv D (i + 1) (ys ++ [y]) τ2 (upd H4 D (.lst (ys ++ [y]))) else Pv D (i + 1) ys τ2 H3)
  (hd : ∀ D ys τ H, H1 D = none -> Pv D n ys τ H -> Q (.ref D) H) : CompGo (Itr lo n) g tc te own caps σ H1 Q := by
 intro D hD k
 refine ⟨fun i m ys τ H => m = n - i /\ i <= n /\ Pv D i ys τ H, ⟨n, by simp, Nat.zero_le _, h0 D hD⟩, ?_⟩
 rintro i m ys τ H ⟨rfl, hi, p⟩
 obtain ⟨e, z⟩ := hl D i ys τ H hi p
 refine ⟨e, by omega, ?_⟩
 by_cases hlt : i < n
 ·refine .inr ⟨hlt, Pv D (i + 1), fun ys' τ' H' p' => ⟨n - (i + 1), by omega, rfl, hlt, p'⟩, fun x H' y => ?_⟩
  obtain ⟨rfl, rfl⟩ := y
  exact hs k D i ys τ _ hlt p
 ·have e : i = n := by omega
  subst e
  exact .inl ⟨Nat.le_refl _, hd D ys τ H hD p⟩
end L2
set_option Elab.async false
set_option linter.all false
set_option maxRecDepth 100000
set_option maxHeartbeats 4000000
namespace L2
open PySem PySem.Spec PyProof.Rows
section
variable {X : Cx}
theorem bls_items : ∀ {bs : List Bool} {us : List Value}, Vals (bs.map V.bl) us -> us = bs.map Value.bool
 | [], _, h => by cases h; rfl
 | b :: bs, _, h => by
  cases h with
  | cons r t => rw [show _ = Value.bool b from r, bls_items t]; rfl
end
end L2
set_option Elab.async false
set_option linter.all false
set_option maxRecDepth 100000
set_option maxHeartbeats 4000000
namespace L2
open PySem PySem.Spec PyProof.Rows Hex
theorem paired_of {α β : Type} {R : α -> β -> Prop} : ∀ {as : List α} {bs : List β}, Paired R as bs -> ∀ {i : Nat} {a : α}, as[i]? = some a -> ∃ b, bs[i]? = some b /\ R a b
 | _, _, .nil, i, a, h => by simp at h
 | _, _, .cons r t, 0, a, h => by
  simp only [List.getElem?_cons_zero, Option.some.injEq] at h
  subst h
  exact ⟨_, rfl, r⟩
 | _, _, .cons r t, i + 1, a, h => by
  simp only [List.getElem?_cons_succ] at h
  obtain ⟨b, hb, q⟩ := paired_of t h
  exact ⟨b, by simpa using hb, q⟩
theorem paired_to {α β : Type} {R : α -> β -> Prop} : ∀ {as : List α} {bs : List β}, Paired R as bs -> ∀ {i : Nat} {b : β}, bs[i]? = some b -> ∃ a, as[i]? = some a /\ R a b
 | _, _, .nil, i, a, h => by simp at h
 | _, _, .cons r t, 0, a, h => by
  simp only [List.getElem?_cons_zero, Option.some.injEq] at h
  subst h
  exact ⟨_, rfl, r⟩
 | _, _, .cons r t, i + 1, a, h => by
  simp only [List.getElem?_cons_succ] at h
  obtain ⟨b, hb, q⟩ := paired_to t h
  exact ⟨b, by simpa using hb, q⟩
theorem takeS {α : Type} {l : List α} {i : Nat} {c : α} (h : l[i]? = some c) : l.take (i + 1) = l.take i ++ [c] := by rw [List.take_add_one, h]; rfl
def Stays {β : Type} (R : Hp -> V -> β -> Prop) : Prop := ∀ H H' v b, TupS H H' -> R H v b -> R H' v b
def isI (_ : Hp) (v : V) (n : Int) : Prop := v = .int n
def isB (_ : Hp) (v : V) (n : Bool) : Prop := v = .bl n
theorem stays_I : Stays isI := fun _ _ _ _ _ h => h
theorem isI_map : ∀ {ys : List V} {ns : List Int} {H : Hp}, Paired (isI H) ys ns -> ys = ns.map V.int
 | _, _, _, .nil => rfl
 | _, _, _, .cons r t => by rw [List.map_cons, <- isI_map t, show _ = V.int _ from r]
theorem isB_map : ∀ {ys : List V} {ns : List Bool} {H : Hp}, Paired (isB H) ys ns -> ys = ns.map V.bl
 | _, _, _, .nil => rfl
 | _, _, _, .cons r t => by rw [List.map_cons, <- isB_map t, show _ = V.bl _ from r]
theorem map_isI {H : Hp} : ∀ ns : List Int, Paired (isI H) (ns.map V.int) ns
 | [] => .nil
 | _ :: r => .cons rfl (map_isI r)
theorem paired_map {α β γ : Type} {R : α -> γ -> Prop} {f : β -> γ} : ∀ {as : List α} {bs : List β}, Paired R as (bs.map f) -> Paired (fun a b => R a (f b)) as bs
 | _, [], h => by
  generalize e : ([] : List β).map f = l at h
  cases h with
  | nil => exact .nil
  | cons _ _ => cases e
 | _, b :: bs, h => by
  generalize e : (b :: bs).map f = l at h
  cases h with
  | nil => cases e
  | cons r t =>
   rw [List.map_cons] at e
   injection e with e1 e2
   subst e1
   subst e2
   exact .cons r (paired_map t)
theorem go_map {α β : Type} {K : PySem.W.Frag} {a : Addr} {us : List V} {xs : List α} {te : CA -> TE} {y : Str} {caps : List Nat} {σ : St} {H1 : Hp} {Q : VK} (S : Hp -> V -> α -> Prop) (R : Hp -> V -> β -> Prop) (φ : α -> β) (mS : Stays S) (mR : Stays R)
  (hq : SqL K H1 a us) (hp : Paired (S H1) us xs) (hz : us.length < sizeLine)
  (hs : ∀ (k : CA) (i : Nat) (v : V) (c : α) (H : Hp), us[i]? = some v -> xs[i]? = some c -> Same H1 H -> S H v c -> ∀ N : VK, (∀ u H', Same H H' -> R H' u (φ c) -> N u H') -> te k (some v :: caps.map fun j => (σ[j]?).join) H N)
  (hd : ∀ D ys H, H1 D = none -> Same H1 H -> H D = some (.lst ys) -> Paired (R H) ys (xs.map φ) -> Q (.ref D) H) : CompGo (Itl K a) (fun _ => gName 0) (fun _ _ H Q => Q true H) te [y] caps σ H1 Q := by
 have hl := Paired.length hp
 refine go_list (K := K) (xs := us) hz (fun D i ys τ H => H1 D = none /\ Same H1 H /\ H D = some (.lst ys) /\ Paired (R H) ys ((xs.take i).map φ) /\ ∃ v, τ = v :: caps.map fun j => (σ[j]?).join) ?_ ?_ ?_ ?_
 ·exact fun D hD => ⟨hD, Same.new hD _, upd_same, .nil, none, rfl⟩
 ·rintro D i ys τ H hi ⟨hD, s, d, p, v, rfl⟩
  refine ⟨s.seq hq, d, ?_⟩
  rw [Paired.length p, List.length_map, List.length_take]
  omega
 ·rintro k D i x ys τ H hi ⟨hD, s, d, p, v, rfl⟩
  obtain ⟨c, hc, sc⟩ := paired_of hp hi
  refine gName_i ?_
  show if true = true then _ else _
  rw [if_pos rfl]
  refine hs k i x c H hi hc s (mS _ _ _ _ (TupS.of s) sc) _ fun u H' s' r => ?_
  have d' := s' _ _ d
  refine ⟨d', hD, (s.trans s').at hD _, upd_same, ?_, _, rfl⟩
  rw [takeS hc, List.map_append]
  have t : TupS H' (upd H' D (.lst (ys ++ [u]))) := TupS.upd d' rfl
  exact paired_append (.cons (mR _ _ _ _ t r) .nil) (Paired.mapP p fun _ _ z => mR _ _ _ _ ((TupS.of s').trans t) z)
 ·rintro D ys τ H hD ⟨_, s, d, p, v, rfl⟩
  rw [hl, List.take_length] at p
  exact hd D ys H hD s d p
def ForGo (J : It) (g : TG) (tb : TS) (D : Ends) (σ : St) (H : Hp) : Prop := ∃ W : Nat -> Nat -> St -> Hp -> Prop, (∃ m, W 0 m σ H) /\ ∀ i m σ H, W i m σ H ->
 (J.stop i H /\ D.nx σ H) \/ (J.go i H /\ ∃ N : St -> Hp -> Prop, (∀ σ' H', N σ' H' -> ∃ m', m' < m /\ W (i + 1) m' σ' H') /\ ∀ x H', J.yld i H x H' -> g x σ H' fun σ2 H2 => tb { D with nx := N, ct := N, bk := D.nx } σ2 H2)
theorem tFor_i {wi : TI} {g : TG} {tb : TS} {D : Ends} {σ : St} {H : Hp} (h : wi σ H fun J H1 => ForGo J g tb D σ H1) : tFor wi g tb D σ H := h
theorem gf_range {lo : Int} {n : Nat} {g : TG} {tb : TS} {D : Ends} {σ : St} {H : Hp} (Pv : Nat -> St -> Hp -> Prop) (h0 : Pv 0 σ H)
  (hs : ∀ i σ H, i < n -> Pv i σ H -> g (.int (lo + i)) σ H fun σ2 H2 => tb { D with nx := Pv (i + 1), ct := Pv (i + 1), bk := D.nx } σ2 H2) (hd : ∀ σ H, Pv n σ H -> D.nx σ H) : ForGo (Itr lo n) g tb D σ H := for_range Pv h0 hs hd
theorem gf_list {K : PySem.W.Frag} {a : Addr} {xs : List V} {g : TG} {tb : TS} {D : Ends} {σ : St} {H : Hp} (Pv : Nat -> St -> Hp -> Prop) (h0 : Pv 0 σ H) (hl : ∀ i σ H, i <= xs.length -> Pv i σ H -> SqL K H a xs)
  (hs : ∀ i x σ H, xs[i]? = some x -> Pv i σ H -> g x σ H fun σ2 H2 => tb { D with nx := Pv (i + 1), ct := Pv (i + 1), bk := D.nx } σ2 H2) (hd : ∀ σ H, Pv xs.length σ H -> D.nx σ H) : ForGo (Itl K a) g tb D σ H := for_list Pv h0 hl hs hd
theorem gf_enum {K : PySem.W.Frag} {a : Addr} {xs : List V} {g : TG} {tb : TS} {D : Ends} {σ : St} {H : Hp} (Pv : Nat -> St -> Hp -> Prop) (h0 : Pv 0 σ H) (hl : ∀ i σ H, i <= xs.length -> Pv i σ H -> SqL K H a xs)
  (hs : ∀ i x p σ H, xs[i]? = some x -> Pv i σ H -> H p = none -> g (.ref p) σ (upd H p (.tup [.int (i : Int), x])) fun σ2 H2 => tb { D with nx := Pv (i + 1), ct := Pv (i + 1), bk := D.nx } σ2 H2) (hd : ∀ σ H, Pv xs.length σ H -> D.nx σ H) : ForGo (Ite K a) g tb D σ H := for_enum Pv h0 hl hs hd
end L2
set_option Elab.async false
set_option linter.all false
set_option maxRecDepth 100000
set_option maxHeartbeats 4000000
namespace L2
open PySem PySem.Spec PyProof.Rows Hex
section
variable {X : Cx} {k : Nat} {cn m : Str} {fl ps : List Str} {sp : Sp} {p pos apos : Pos} {e o : Expr} {es : List Expr} {t : TA} {ta : TE}
end
structure StaysA {β : Type} (R : Hp -> Addr -> β -> Prop) : Prop where
 stay : ∀ H H' a b, TupS H H' -> H' a = H a -> R H a b -> R H' a b
 some : ∀ H a b, R H a b -> ∃ o, H a = some o
theorem StaysA.same {β : Type} {R : Hp -> Addr -> β -> Prop} (st : StaysA R) {H H' : Hp} {a : Addr} {b : β} (s : Same H H') (h : R H a b) : R H' a b := by
 obtain ⟨o, ho⟩ := st.some H a b h
 exact st.stay H H' a b (TupS.of s) (by rw [ho, s _ _ ho]) h
abbrev NewR {β : Type} (R : Hp -> Addr -> β -> Prop) (H₀ H : Hp) : V -> β -> Prop := fun v b => ∃ a, v = .ref a /\ H₀ a = none /\ R H a b
theorem go_mapN {α β : Type} {K : PySem.W.Frag} {a : Addr} {us : List V} {xs : List α} {te : CA -> TE} {y : Str} {caps : List Nat} {σ : St} {H1 : Hp} {Q : VK} (S : Hp -> V -> α -> Prop) (R : Hp -> Addr -> β -> Prop) (φ : α -> β) (mS : ∀ H H' v c, Same H H' -> S H v c -> S H' v c) (mR : StaysA R)
  (hq : SqL K H1 a us) (hp : Paired (S H1) us xs) (hz : us.length < sizeLine)
  (hs : ∀ (k : CA) (i : Nat) (v : V) (c : α) (H : Hp), us[i]? = some v -> xs[i]? = some c -> Same H1 H -> S H v c -> ∀ N : VK, (∀ u H', Same H H' -> H u = none -> R H' u (φ c) -> N (.ref u) H') -> te k (some v :: caps.map fun j => (σ[j]?).join) H N)
  (hd : ∀ D ys H, H1 D = none -> Same H1 H -> H D = some (.lst ys) -> Paired (NewR R H1 H) ys (xs.map φ) -> (∀ y ∈ ys, y ≠ .ref D) -> Q (.ref D) H) : CompGo (Itl K a) (fun _ => gName 0) (fun _ _ H Q => Q true H) te [y] caps σ H1 Q := by
 have hl := Paired.length hp
 refine go_list (K := K) (xs := us) hz (fun D i ys τ H => H1 D = none /\ Same H1 H /\ H D = some (.lst ys) /\ Paired (NewR R H1 H) ys ((xs.take i).map φ) /\ (∀ y ∈ ys, y ≠ .ref D) /\ ∃ v, τ = v :: caps.map fun j => (σ[j]?).join) ?_ ?_ ?_ ?_
 ·exact fun D hD => ⟨hD, Same.new hD _, upd_same, .nil, fun _ z => (nomatch z), none, rfl⟩
 ·rintro D i ys τ H hi ⟨hD, s, d, p, _, v, rfl⟩
  refine ⟨s.seq hq, d, ?_⟩
  rw [Paired.length p, List.length_map, List.length_take]
  omega
 ·rintro k D i x ys τ H hi ⟨hD, s, d, p, nD, v, rfl⟩
  obtain ⟨c, hc, sc⟩ := paired_of hp hi
  refine gName_i ?_
  show if true = true then _ else _
  rw [if_pos rfl]
  refine hs k i x c H hi hc s (mS _ _ _ _ s sc) _ fun u H' s' hu r => ?_
  have d' := s' _ _ d
  have huD : u ≠ D := (ne_of_none d hu).symm
  refine ⟨d', hD, (s.trans s').at hD _, upd_same, ?_, ?_, _, rfl⟩
  ·rw [takeS hc, List.map_append]
   have t : TupS H' (upd H' D (.lst (ys ++ [.ref u]))) := TupS.upd d' rfl
   have key : ∀ {vs : List V} {rs : List β}, Paired (NewR R H1 H) vs rs -> (∀ y ∈ vs, y ≠ .ref D) -> Paired (NewR R H1 (upd H' D (.lst (ys ++ [.ref u])))) vs rs := by
    intro vs rs hp
    induction hp with
    | nil => intro _; exact .nil
    | cons hh _ ih =>
     intro hw
     obtain ⟨g, rfl, n, lg⟩ := hh
     have hgD : g ≠ D := fun z => hw _ List.mem_cons_self (by rw [z])
     exact .cons ⟨g, rfl, n, mR.stay _ _ _ _ t (by rw [upd_ne hgD]) (mR.same s' lg)⟩ (ih fun w hw' => hw w (List.mem_cons_of_mem _ hw'))
   exact paired_append (.cons ⟨u, rfl, s.free hu, mR.stay _ _ _ _ t (by rw [upd_ne huD]) r⟩ .nil) (key p nD)
  ·intro w hw
   rcases List.mem_append.mp hw with hw | hw
   ·exact nD w hw
   ·rw [List.mem_singleton.mp hw]
    intro e
    injection e with e
    exact huD e
 ·rintro D ys τ H hD ⟨_, s, d, p, nD, v, rfl⟩
  rw [hl, List.take_length] at p
  exact hd D ys H hD s d p nD
end L2
set_option Elab.async false
set_option linter.all false
set_option maxRecDepth 100000
set_option maxHeartbeats 4000000
namespace L2
open PySem PySem.Spec PyProof.Rows Hex
theorem log_lt {n k : Nat} (h : n < 2 ^ k) (hk : k ≠ 0) : n.log2 < k := by
 by_cases hn : n = 0
 ·subst hn
  rw [show Nat.log2 0 = 0 from rfl]
  omega
 ·exact (Nat.log2_lt hn).mpr h
def CDivB : Int -> Int -> Prop := fun _ j => 0 < j /\ j < 2 ^ 200
section
variable {X : Cx}
theorem op_fdivB : OpR X (binaryOp .FloorDiv) (rI CDivB fun i j => .int (i / j)) := opI fun i j _ _ _ _ _ hc q => by
 have h1 : (0 : Int) < j := hc.1
 have h2 : j < 2 ^ 200 := hc.2
 have h3 : j.natAbs < 2 ^ 200 := by omega
 exact floordiv_int (by omega) (by rw [Int.fdiv_eq_ediv_of_nonneg i (by omega)]; exact q) (.inl (PyProof.noPylong_of_log2 (Nat.lt_trans (log_lt h3 (by decide)) (by decide))))
theorem op_fdivNB : OpR X (binaryOp .FloorDiv) (rI (fun _ j => j ≠ 0 /\ j.natAbs.log2 < 9000) fun i j => .int (i.fdiv j)) := opI fun i j _ _ _ _ _ hc q => floordiv_int hc.1 q (.inl (PyProof.noPylong_of_log2 hc.2))
end
theorem tB_i {t : TE} {σ : St} {H : Hp} {Q : Bool -> Hp -> Prop} (h : t σ H fun x H1 => ∃ c, x = .bl c /\ Q c H1) : tB t σ H Q := h
end L2
namespace L2
open PySem PySem.Spec PyProof.Rows Hex
end L2
set_option linter.all false
namespace Det
section
variable {α β : Type}
def E (r : α -> Int) : (List α -> Int) -> List α -> Int
 | _, [] => 0
 | F, c :: cs => r c * F cs - E r (fun ds => F (c :: ds)) cs
theorem E_congr (r : α -> Int) : ∀ (cs : List α) (F G : List α -> Int), (∀ ds, ds.length + 1 = cs.length -> F ds = G ds) -> E r F cs = E r G cs
 | [], _, _, _ => rfl
 | c :: cs, F, G, h => by
  show r c * F cs - _ = r c * G cs - _
  rw [h cs rfl, E_congr r cs (fun ds => F (c :: ds)) (fun ds => G (c :: ds)) fun ds hd => h _ (by simp [hd])]
theorem E_add (r : α -> Int) : ∀ (cs : List α) (F G : List α -> Int), E r (fun d => F d + G d) cs = E r F cs + E r G cs
 | [], _, _ => rfl
 | c :: cs, F, G => by
  show r c * (F cs + G cs) - E r (fun ds => F (c :: ds) + G (c :: ds)) cs = (r c * F cs - _) + (r c * G cs - _)
  rw [E_add r cs (fun ds => F (c :: ds)) (fun ds => G (c :: ds)), Int.mul_add]
  omega
theorem E_smul (r : α -> Int) (k : Int) : ∀ (cs : List α) (F : List α -> Int), E r (fun d => k * F d) cs = k * E r F cs
 | [], _ => (Int.mul_zero k).symm
 | c :: cs, F => by
  show r c * (k * F cs) - E r (fun ds => k * F (c :: ds)) cs = k * (r c * F cs - _)
  rw [E_smul r k cs (fun ds => F (c :: ds)), Int.mul_sub, <- Int.mul_assoc, <- Int.mul_assoc, Int.mul_comm (r c) k]
theorem E_zero (r : α -> Int) (cs : List α) : E r (fun _ => 0) cs = 0 := by
 have := E_smul r 0 cs (fun _ => 0)
 simpa using this
theorem E_neg (r : α -> Int) (cs : List α) (F : List α -> Int) : E r (fun d => - F d) cs = - E r F cs := by
 have := E_smul r (-1) cs F
 simp only [Int.neg_mul, Int.one_mul] at this
 exact this
theorem E_radd (r s : α -> Int) : ∀ (cs : List α) (F : List α -> Int), E (fun c => r c + s c) F cs = E r F cs + E s F cs
 | [], _ => rfl
 | c :: cs, F => by
  show (r c + s c) * F cs - E (fun c => r c + s c) (fun ds => F (c :: ds)) cs = (r c * F cs - _) + (s c * F cs - _)
  rw [E_radd r s cs, Int.add_mul]
  omega
theorem E_rsmul (k : Int) (r : α -> Int) : ∀ (cs : List α) (F : List α -> Int), E (fun c => k * r c) F cs = k * E r F cs
 | [], _ => (Int.mul_zero k).symm
 | c :: cs, F => by
  show (k * r c) * F cs - E (fun c => k * r c) (fun ds => F (c :: ds)) cs = k * (r c * F cs - _)
  rw [E_rsmul k r cs, Int.mul_sub, Int.mul_assoc]
theorem E_swap (r s : α -> Int) : ∀ (cs : List α) (F : List α -> Int), E r (E s F) cs = - E s (E r F) cs
 | [], _ => rfl
 | c :: cs, F => by
  have key : ∀ (r s : α -> Int), E r (E s F) (c :: cs) = r c * E s F cs - (s c * E r F cs - E r (E s fun es => F (c :: es)) cs) := by
   intro r s
   show r c * E s F cs - E r (fun ds => E s F (c :: ds)) cs = _
   have e : E r (fun ds => E s F (c :: ds)) cs = s c * E r F cs - E r (E s fun es => F (c :: es)) cs := by
    have h1 := E_add r cs (fun ds => s c * F ds) (fun ds => - E s (fun es => F (c :: es)) ds)
    rw [E_smul, E_neg] at h1
    rw [Int.sub_eq_add_neg, <- h1]
    apply E_congr
    intro ds _
    show s c * F ds - _ = _
    rw [Int.sub_eq_add_neg]
   rw [e]
  rw [key, key, E_swap r s cs]
  omega
theorem E_fub (r : α -> Int) (t : β -> Int) : ∀ (cs : List α) (R : List β) (G : List β -> List α -> Int), E r (fun ds => E t (fun R' => G R' ds) R) cs = E t (fun R' => E r (G R') cs) R
 | [], R, G => by
  show 0 = E t (fun _ => 0) R
  rw [E_zero]
 | c :: cs, R, G => by
  show r c * E t (fun R' => G R' cs) R - E r (fun ds => E t (fun R' => G R' (c :: ds)) R) cs = E t (fun R' => r c * G R' cs - E r (fun ds => G R' (c :: ds)) cs) R
  rw [E_fub r t cs R (fun R' ds => G R' (c :: ds))]
  have h1 := E_add t R (fun R' => r c * G R' cs) (fun R' => - E r (fun ds => G R' (c :: ds)) cs)
  rw [E_smul, E_neg] at h1
  rw [Int.sub_eq_add_neg, <- h1]
  apply E_congr
  intro ds _
  rw [Int.sub_eq_add_neg]
def sumTo (g : Nat -> Int) : Nat -> Int
 | 0 => 0
 | n + 1 => sumTo g n + g n
theorem sumTo_front (g : Nat -> Int) : ∀ n, sumTo g (n + 1) = g 0 + sumTo (fun i => g (i + 1)) n
 | 0 => by simp [sumTo]
 | n + 1 => by
  show sumTo g (n + 1) + g (n + 1) = g 0 + (sumTo (fun i => g (i + 1)) n + g (n + 1))
  rw [sumTo_front g n]
  omega
theorem sumTo_neg (g : Nat -> Int) : ∀ n, sumTo (fun i => - g i) n = - sumTo g n
 | 0 => rfl
 | n + 1 => by
  show sumTo (fun i => - g i) n + - g n = - (sumTo g n + g n)
  rw [sumTo_neg g n]
  omega
theorem sumTo_congr {g h : Nat -> Int} : ∀ n, (∀ i, i < n -> g i = h i) -> sumTo g n = sumTo h n
 | 0, _ => rfl
 | n + 1, e => by
  show sumTo g n + g n = sumTo h n + h n
  rw [sumTo_congr n fun i hi => e i (by omega), e n (by omega)]
def sg (k : Nat) : Int := 1 - 2 * ((k : Int) % 2)
theorem sg_succ (k : Nat) : sg (k + 1) = - sg k := by
 unfold sg
 omega
def tm (r : Nat -> Int) (F : List Nat -> Int) (cs : List Nat) (i : Nat) : Int := sg i * r (cs.getD i 0) * F (cs.take i ++ cs.drop (i + 1))
theorem E_sum (r : Nat -> Int) : ∀ (cs : List Nat) (F : List Nat -> Int), E r F cs = sumTo (tm r F cs) cs.length
 | [], _ => rfl
 | c :: cs, F => by
  show r c * F cs - E r (fun ds => F (c :: ds)) cs = sumTo (tm r F (c :: cs)) (cs.length + 1)
  rw [sumTo_front, E_sum r cs, Int.sub_eq_add_neg, <- sumTo_neg]
  congr 1
  ·show _ = sg 0 * r c * F ([] ++ cs)
   have : sg 0 = 1 := rfl
   rw [this, Int.one_mul]
   rfl
  ·apply sumTo_congr
   intro i _
   show - (sg i * r (cs.getD i 0) * F (c :: (cs.take i ++ cs.drop (i + 1)))) = sg (i + 1) * r ((c :: cs).getD (i + 1) 0) * F ((c :: cs).take (i + 1) ++ (c :: cs).drop (i + 1 + 1))
   rw [sg_succ, Int.neg_mul, Int.neg_mul]
   rfl
end
abbrev Row := Nat -> Int
def L : List Row -> List Nat -> Int
 | [] => fun cs => if cs = [] then 1 else 0
 | r :: rs => E r (L rs)
theorem L_add (r s : Row) (post : List Row) : ∀ (pre : List Row) (cs : List Nat), L (pre ++ (fun c => r c + s c) :: post) cs = L (pre ++ r :: post) cs + L (pre ++ s :: post) cs
 | [], cs => E_radd r s cs (L post)
 | p :: pre, cs => by
  show E p _ cs = E p _ cs + E p _ cs
  rw [<- E_add]
  exact E_congr p cs _ _ fun ds _ => L_add r s post pre ds
theorem L_smul (k : Int) (r : Row) (post : List Row) : ∀ (pre : List Row) (cs : List Nat), L (pre ++ (fun c => k * r c) :: post) cs = k * L (pre ++ r :: post) cs
 | [], cs => E_rsmul k r cs (L post)
 | p :: pre, cs => by
  show E p _ cs = k * E p _ cs
  rw [<- E_smul]
  exact E_congr p cs _ _ fun ds _ => L_smul k r post pre ds
theorem L_adj (r s : Row) (post : List Row) : ∀ (pre : List Row) (cs : List Nat), L (pre ++ r :: s :: post) cs = - L (pre ++ s :: r :: post) cs
 | [], cs => E_swap r s cs (L post)
 | p :: pre, cs => by
  show E p _ cs = - E p _ cs
  rw [<- E_neg]
  exact E_congr p cs _ _ fun ds _ => L_adj r s post pre ds
theorem L_move (h : Row) (post : List Row) (cs : List Nat) : ∀ (l pre : List Row), L (pre ++ (l ++ h :: post)) cs = sg l.length * L (pre ++ h :: (l ++ post)) cs
 | [], pre => by
  show L (pre ++ h :: post) cs = sg 0 * L (pre ++ h :: post) cs
  rw [show sg 0 = 1 from rfl, Int.one_mul]
 | x :: l, pre => by
  have ih := L_move h post cs l (pre ++ [x])
  rw [List.append_assoc, List.append_assoc] at ih
  show L (pre ++ x :: (l ++ h :: post)) cs = sg (l.length + 1) * L (pre ++ h :: x :: (l ++ post)) cs
  rw [show pre ++ x :: (l ++ h :: post) = pre ++ ([x] ++ (l ++ h :: post)) from rfl, ih, L_adj h x (l ++ post) pre cs, sg_succ]
  show sg l.length * L (pre ++ x :: h :: (l ++ post)) cs = _
  rw [Int.neg_mul_neg]
theorem L_eq (r : Row) (post : List Row) (cs : List Nat) : ∀ (mid pre : List Row), L (pre ++ r :: (mid ++ r :: post)) cs = 0
 | [], pre => by
  have := L_adj r r post pre cs
  show L (pre ++ r :: r :: post) cs = 0
  omega
 | m :: mid, pre => by
  have ih := L_eq r post cs mid (pre ++ [m])
  rw [List.append_assoc] at ih
  show L (pre ++ r :: m :: (mid ++ r :: post)) cs = 0
  rw [L_adj]
  have ih' : L (pre ++ m :: r :: (mid ++ r :: post)) cs = 0 := ih
  rw [ih']
  rfl
theorem L_addrow (f : Int) (r s : Row) (pre mid post : List Row) (cs : List Nat) : L (pre ++ (fun c => r c + f * s c) :: (mid ++ s :: post)) cs = L (pre ++ r :: (mid ++ s :: post)) cs := by
 rw [L_add r (fun c => f * s c), L_smul, L_eq]
 omega
theorem L_addrow' (f : Int) (r s : Row) (pre mid post : List Row) (cs : List Nat) : L (pre ++ s :: (mid ++ (fun c => r c + f * s c) :: post)) cs = L (pre ++ s :: (mid ++ r :: post)) cs := by
 have e : ∀ x : Row, pre ++ s :: (mid ++ x :: post) = (pre ++ s :: mid) ++ x :: post := fun x => by simp
 rw [e, L_add r (fun c => f * s c), L_smul, <- e, <- e, L_eq]
 omega
theorem L_swap (r s : Row) (pre mid post : List Row) (cs : List Nat) : L (pre ++ r :: (mid ++ s :: post)) cs = - L (pre ++ s :: (mid ++ r :: post)) cs := by
 have e : ∀ y x : Row, pre ++ y :: (mid ++ x :: post) = (pre ++ y :: mid) ++ x :: post := fun y x => by simp
 have h := L_eq (fun c => r c + s c) post cs mid pre
 rw [L_add r s, e, e, L_add r s, L_add r s, <- e, <- e, <- e, <- e, L_eq, L_eq] at h
 omega
theorem L_col0 {c : Nat} : ∀ (rs : List Row) (ds : List Nat), (∀ r ∈ rs, r c = 0) -> L rs (c :: ds) = 0
 | [], _, _ => rfl
 | r :: rs, ds, h => by
  show r c * L rs ds - E r (fun es => L rs (c :: es)) ds = 0
  rw [h r List.mem_cons_self, Int.zero_mul, E_congr r ds _ (fun _ => 0) fun es _ => L_col0 rs es fun x hx => h x (List.mem_cons_of_mem _ hx), E_zero]
  rfl
theorem L_first {c : Nat} (r : Row) (rs : List Row) (ds : List Nat) (h : ∀ x ∈ rs, x c = 0) : L (r :: rs) (c :: ds) = r c * L rs ds := by
 show r c * L rs ds - E r (fun es => L rs (c :: es)) ds = _
 rw [E_congr r ds _ (fun _ => 0) fun es _ => L_col0 rs es h, E_zero]
 omega
theorem L_map (g : Nat -> Nat) : ∀ (rs : List Row) (cs : List Nat), L (rs.map fun r j => r (g j)) cs = L rs (cs.map g)
 | [], cs => by
  show (if cs = [] then (1 : Int) else 0) = if cs.map g = [] then 1 else 0
  cases cs <;> simp
 | r :: rs, cs => by
  show E (fun j => r (g j)) (L (rs.map fun r j => r (g j))) cs = E r (L rs) (cs.map g)
  have key : ∀ (cs : List Nat) (F G : List Nat -> Int), (∀ ds, F ds = G (ds.map g)) -> E (fun j => r (g j)) F cs = E r G (cs.map g) := by
   intro cs
   induction cs with
   | nil => intro F G h; rfl
   | cons c cs ih =>
    intro F G h
    show r (g c) * F cs - E _ (fun ds => F (c :: ds)) cs = r (g c) * G (cs.map g) - E r (fun ds => G (g c :: ds)) (cs.map g)
    rw [h cs, ih (fun ds => F (c :: ds)) (fun ds => G (g c :: ds)) fun ds => h (c :: ds)]
  exact key cs _ _ fun ds => L_map g rs ds
theorem pow_succ' (a : Int) (n : Nat) : a ^ (n + 1) = a * a ^ n := by rw [Int.pow_succ, Int.mul_comm]
theorem L_elim (h : Row) (c : Nat) (cs : List Nat) : ∀ (rs pre : List Row), L (h :: (pre ++ rs.map fun r j => h c * r j - r c * h j)) cs = h c ^ rs.length * L (h :: (pre ++ rs)) cs
 | [], pre => by simp
 | r :: rs, pre => by
  have ih := L_elim h c cs rs (pre ++ [fun j => h c * r j - r c * h j])
  rw [List.append_assoc, List.append_assoc] at ih
  show L (h :: (pre ++ (fun j => h c * r j - r c * h j) :: _)) cs = h c ^ (rs.length + 1) * L (h :: (pre ++ r :: rs)) cs
  have ih' : L (h :: (pre ++ (fun j => h c * r j - r c * h j) :: (rs.map fun r j => h c * r j - r c * h j))) cs = h c ^ rs.length * L (h :: (pre ++ (fun j => h c * r j - r c * h j) :: rs)) cs := ih
  rw [ih']
  have e : (fun j => h c * r j - r c * h j) = fun j => (h c * r j) + (- r c) * h j := by
   funext j
   rw [Int.neg_mul]
   omega
  have a := L_addrow' (- r c) (fun j => h c * r j) h [] pre rs cs
  have a' : L (h :: (pre ++ (fun j => (h c * r j) + (- r c) * h j) :: rs)) cs = L (h :: (pre ++ (fun j => h c * r j) :: rs)) cs := a
  have b := L_smul (h c) r rs (h :: pre) cs
  have b' : L (h :: (pre ++ (fun j => h c * r j) :: rs)) cs = h c * L (h :: (pre ++ r :: rs)) cs := b
  rw [e, a', b', pow_succ', <- Int.mul_assoc, Int.mul_comm (h c ^ rs.length)]
theorem L_chio {h : Row} {c : Nat} (rs : List Row) (cs : List Nat) (h0 : h c ≠ 0) (n : rs ≠ []) : L (rs.map fun r j => h c * r j - r c * h j) cs = h c ^ (rs.length - 1) * L (h :: rs) (c :: cs) := by
 have a := L_elim h c (c :: cs) rs []
 have b := L_first h (rs.map fun r j => h c * r j - r c * h j) cs (c := c) (by
  intro x hx
  obtain ⟨r, _, rfl⟩ := List.mem_map.mp hx
  show h c * r c - r c * h c = 0
  rw [Int.mul_comm]
  omega)
 have a' : L (h :: (rs.map fun r j => h c * r j - r c * h j)) (c :: cs) = h c ^ rs.length * L (h :: rs) (c :: cs) := a
 rw [b] at a'
 cases rs with
 | nil => exact absurd rfl n
 | cons x rs =>
  have : h c ^ (x :: rs).length = h c * h c ^ ((x :: rs).length - 1) := pow_succ' _ _
  rw [this, Int.mul_assoc] at a'
  exact Int.eq_of_mul_eq_mul_left h0 a'
end Det
set_option linter.all false
namespace Det
def M (a : Nat -> Nat -> Int) (R C : List Nat) : Int := L (R.map a) C
theorem M_cons (a : Nat -> Nat -> Int) (i : Nat) (R C : List Nat) : M a (i :: R) C = E (a i) (M a R) C := rfl
theorem M_col (a : Nat -> Nat -> Int) (c : Nat) : ∀ R C : List Nat, M a R (c :: C) = E (fun i => a i c) (fun R' => M a R' C) R
 | [], C => rfl
 | i :: R, C => by
  rw [M_cons]
  show a i c * M a R C - E (a i) (fun ds => M a R (c :: ds)) C = a i c * M a R C - E (fun i => a i c) (fun R' => M a (i :: R') C) R
  congr 1
  rw [E_congr (a i) C (fun ds => M a R (c :: ds)) (fun ds => E (fun i => a i c) (fun R' => M a R' ds) R) fun ds _ => M_col a c R ds]
  rw [E_fub (a i) (fun i => a i c) C R (fun R' ds => M a R' ds)]
  rfl
theorem M_turn (a : Nat -> Nat -> Int) : ∀ C R : List Nat, M a R C = M (fun j i => a i j) C R
 | [], [] => rfl
 | [], i :: R => rfl
 | c :: C, R => by
  rw [M_col, M_cons]
  exact E_congr _ R _ _ fun ds _ => M_turn a C ds
def Tri : List Row -> List Nat -> Prop
 | r :: rs, c :: cs => (∀ x ∈ rs, x c = 0) /\ Tri rs cs
 | _, _ => True
def diag : List Row -> List Nat -> Int
 | r :: rs, c :: cs => r c * diag rs cs
 | _, _ => 1
theorem L_tri : ∀ (rs : List Row) (cs : List Nat), rs.length = cs.length -> Tri rs cs -> L rs cs = diag rs cs
 | [], [], _, _ => rfl
 | [], _ :: _, h, _ => nomatch h
 | _ :: _, [], h, _ => nomatch h
 | r :: rs, c :: cs, h, t => by
  rw [L_first r rs cs t.1, L_tri rs cs (Nat.succ.inj h) t.2]
  rfl
theorem E_le {α : Type} {r : α -> Int} {B G : Nat} : ∀ (cs : List α) (F : List α -> Int), (∀ c ∈ cs, (r c).natAbs <= B) -> (∀ ds, ds.length + 1 = cs.length -> (F ds).natAbs <= G) -> (E r F cs).natAbs <= cs.length * (B * G)
 | [], _, _, _ => Nat.zero_le _
 | c :: cs, F, h, g => by
  have h1 := E_le cs (fun ds => F (c :: ds)) (fun d hd => h d (List.mem_cons_of_mem _ hd)) fun ds hd => g (c :: ds) (by simp [hd])
  have h2 : (r c * F cs).natAbs <= B * G := by
   rw [Int.natAbs_mul]
   exact Nat.mul_le_mul (h c List.mem_cons_self) (g cs rfl)
  show (r c * F cs - E r (fun ds => F (c :: ds)) cs).natAbs <= (cs.length + 1) * (B * G)
  rw [Nat.add_mul, Nat.one_mul]
  generalize E r (fun ds => F (c :: ds)) cs = x at *
  generalize r c * F cs = y at *
  generalize cs.length * (B * G) = u at *
  generalize B * G = v at *
  omega
theorem L_le {B N : Nat} : ∀ (rs : List Row) (cs : List Nat), (∀ r ∈ rs, ∀ c, (r c).natAbs <= B) -> cs.length <= N -> (L rs cs).natAbs <= (N * B) ^ rs.length
 | [], cs, _, _ => by
  show (if cs = [] then (1 : Int) else 0).natAbs <= 1
  split <;> decide
 | r :: rs, cs, h, hn => by
  have h1 := E_le (r := r) (B := B) (G := (N * B) ^ rs.length) cs (L rs) (fun c _ => h r List.mem_cons_self c) fun ds hd => L_le rs ds (fun x hx => h x (List.mem_cons_of_mem _ hx)) (by omega)
  refine Nat.le_trans h1 ?_
  show _ <= (N * B) ^ (rs.length + 1)
  rw [Nat.pow_succ, <- Nat.mul_assoc, Nat.mul_comm ((N * B) ^ rs.length)]
  exact Nat.mul_le_mul_right _ (Nat.mul_le_mul_right _ hn)
def fn (xs : List Int) : Row := fun j => xs.getD j 0
structure Stand (P : List (List Int)) (last : Int) (left : List (List Int × List Int)) : Prop where
 nz : last ≠ 0
 lastEq : last = L (P.map fn) (List.range P.length)
 min : ∀ (S : List (List Int × List Int)) (T : List Nat), (∀ x ∈ S, x ∈ left) -> S.length = T.length -> S ≠ [] ->
  L (S.map fun x => fn x.2) T = last ^ (S.length - 1) * L (P.map fn ++ S.map fun x => fn x.1) (List.range P.length ++ T.map (· + P.length))
theorem Stand.zero (rows : List (List Int)) : Stand [] 1 (rows.map fun r => (r, r)) := by
 refine ⟨by decide, rfl, fun S T hS hl hn => ?_⟩
 have e : S.map (fun x => fn x.2) = S.map fun x => fn x.1 := by
  apply List.map_congr_left
  intro x hx
  obtain ⟨r, _, rfl⟩ := List.mem_map.mp (hS x hx)
  rfl
 rw [e, Int.one_pow, Int.one_mul]
 show _ = L (S.map fun x => fn x.1) ([] ++ T.map (· + 0))
 simp
theorem L_one (r : Row) (j : Nat) : L [r] [j] = r j := by
 show r j * (if ([] : List Nat) = [] then 1 else 0) - 0 = r j
 simp
theorem L_two (r s : Row) (i j : Nat) : L [r, s] [i, j] = r i * s j - s i * r j := by
 show r i * L [s] [j] - (r j * L [s] [i] - 0) = _
 rw [L_one, L_one, Int.sub_zero, Int.mul_comm (r j)]
def less (h : List Int) (last : Int) (r : List Int) : List Int := (List.range (h.length - 1)).map fun j => (fn h 0 * fn r (j + 1) - fn r 0 * fn h (j + 1)).fdiv last
theorem fn_less {h r : List Int} {last : Int} (e : r.length = h.length) (j : Nat) : fn (less h last r) j = (fn h 0 * fn r (j + 1) - fn r 0 * fn h (j + 1)).fdiv last := by
 unfold less fn
 by_cases hj : j < h.length - 1
 ·rw [List.getD_eq_getElem?_getD, List.getElem?_map, List.getElem?_range hj]
  rfl
 ·rw [List.getD_eq_getElem?_getD, List.getElem?_eq_none (by simp; omega), List.getD_eq_getElem?_getD (l := r) (i := j + 1), List.getElem?_eq_none (by omega), List.getD_eq_getElem?_getD (l := h) (i := j + 1), List.getElem?_eq_none (by omega)]
  simp
theorem Stand.exact {P : List (List Int)} {last : Int} {left : List (List Int × List Int)} (I : Stand P last left) {h x : List Int × List Int} (hh : h ∈ left) (hx : x ∈ left) (e : x.2.length = h.2.length) (j : Nat) :
  fn h.2 0 * fn x.2 (j + 1) - fn x.2 0 * fn h.2 (j + 1) = last * fn (less h.2 last x.2) j := by
 have m := I.min [h, x] [0, j + 1] (by intro y hy; rcases List.mem_cons.mp hy with rfl | hy; exact hh; rw [List.mem_singleton.mp hy]; exact hx) rfl (by simp)
 rw [show [h, x].map (fun x => fn x.2) = [fn h.2, fn x.2] from rfl, L_two, show [h, x].length - 1 = 1 from rfl, Int.pow_one] at m
 rw [fn_less e, m, Int.mul_fdiv_cancel_left _ I.nz]
theorem map_shift (k : Nat) (T : List Nat) : (0 :: T.map (· + 1)).map (· + k) = k :: T.map (· + (k + 1)) := by
 rw [List.map_cons, List.map_map, Nat.zero_add]
 congr 1
 apply List.map_congr_left
 intro x _
 show x + 1 + k = x + (k + 1)
 omega
theorem Stand.step {P : List (List Int)} {last : Int} {left rest : List (List Int × List Int)} (I : Stand P last left) {h : List Int × List Int} (hh : h ∈ left) (h0 : fn h.2 0 ≠ 0) (hr : ∀ x ∈ rest, x ∈ left /\ x.2.length = h.2.length) :
  Stand (P ++ [h.1]) (fn h.2 0) (rest.map fun x => (x.1, less h.2 last x.2)) := by
 have hl : (P ++ [h.1]).length = P.length + 1 := by simp
 have hm : (P ++ [h.1]).map fn = P.map fn ++ [fn h.1] := by simp
 have hrg : List.range (P.length + 1) = List.range P.length ++ [P.length] := List.range_succ
 refine ⟨h0, ?_, fun S T hS hlen hn => ?_⟩
 ·have m := I.min [h] [0] (by intro y hy; rw [List.mem_singleton.mp hy]; exact hh) rfl (by simp)
  rw [show [h].map (fun x => fn x.2) = [fn h.2] from rfl, L_one, show [h].length - 1 = 0 from rfl, Int.pow_zero, Int.one_mul] at m
  rw [hl, hm, hrg, m]
  show L _ (List.range P.length ++ [0 + P.length]) = _
  rw [Nat.zero_add]
  rfl
 ·
  have src : ∀ S : List (List Int × List Int), (∀ x ∈ S, x ∈ rest.map fun x => (x.1, less h.2 last x.2)) -> ∃ S0 : List (List Int × List Int), (∀ x ∈ S0, x ∈ rest) /\ S = S0.map fun x => (x.1, less h.2 last x.2) := by
   intro S
   induction S with
   | nil => intro _; exact ⟨[], by simp, rfl⟩
   | cons y S ih =>
    intro hy
    obtain ⟨S0, h1, rfl⟩ := ih fun x hx => hy x (List.mem_cons_of_mem _ hx)
    obtain ⟨z, hz, rfl⟩ := List.mem_map.mp (hy y List.mem_cons_self)
    refine ⟨z :: S0, ?_, rfl⟩
    intro x hx
    rcases List.mem_cons.mp hx with rfl | hx
    ·exact hz
    ·exact h1 x hx
  obtain ⟨S0, hS0, rfl⟩ := src S hS
  have hn0 : S0 ≠ [] := fun e => hn (by rw [e]; rfl)
  rw [List.length_map] at hlen ⊢
  rw [List.map_map, List.map_map, hl, hm, hrg]
  have big : L (S0.map fun x j => last * fn (less h.2 last x.2) j) T = last ^ S0.length * L (S0.map fun x => fn (less h.2 last x.2)) T := by
   have key : ∀ (S0 : List (List Int × List Int)) (pre : List Row), L (pre ++ S0.map fun x j => last * fn (less h.2 last x.2) j) T = last ^ S0.length * L (pre ++ S0.map fun x => fn (less h.2 last x.2)) T := by
    intro S0
    induction S0 with
    | nil => intro pre; simp
    | cons x S0 ih =>
     intro pre
     have a := L_smul last (fn (less h.2 last x.2)) (S0.map fun x j => last * fn (less h.2 last x.2) j) pre T
     have b := ih (pre ++ [fn (less h.2 last x.2)])
     rw [List.append_assoc, List.append_assoc] at b
     show L (pre ++ (fun j => last * fn (less h.2 last x.2) j) :: (S0.map fun x j => last * fn (less h.2 last x.2) j)) T = last ^ (S0.length + 1) * L (pre ++ fn (less h.2 last x.2) :: S0.map fun x => fn (less h.2 last x.2)) T
     rw [a]
     have b' : L (pre ++ fn (less h.2 last x.2) :: S0.map fun x j => last * fn (less h.2 last x.2) j) T = last ^ S0.length * L (pre ++ fn (less h.2 last x.2) :: S0.map fun x => fn (less h.2 last x.2)) T := b
     rw [b', pow_succ', Int.mul_assoc]
   exact key S0 []
  have e1 : (S0.map fun x j => last * fn (less h.2 last x.2) j) = (S0.map fun x => (fun j => fn h.2 0 * fn x.2 j - fn x.2 0 * fn h.2 j : Row)).map fun r j => r (j + 1) := by
   rw [List.map_map]
   apply List.map_congr_left
   intro x hx
   funext j
   have := hr x (hS0 x hx)
   exact (I.exact hh this.1 this.2 j).symm
  have e2 : (S0.map fun x => (fun j => fn h.2 0 * fn x.2 j - fn x.2 0 * fn h.2 j : Row)) = (S0.map fun x => fn x.2).map fun r j => fn h.2 0 * r j - r 0 * fn h.2 j := by
   rw [List.map_map]
   rfl
  have ch := L_chio (h := fn h.2) (c := 0) (S0.map fun x => fn x.2) (T.map (· + 1)) h0 (by simp [hn0])
  have mm := I.min (h :: S0) (0 :: T.map (· + 1)) (by
   intro y hy
   rcases List.mem_cons.mp hy with rfl | hy
   ·exact hh
   ·exact (hr y (hS0 y hy)).1) (by simp [hlen]) (by simp)
  rw [e1, L_map, e2, ch, List.length_map] at big
  have mm' : L (fn h.2 :: S0.map fun x => fn x.2) (0 :: T.map (· + 1)) = last ^ S0.length * L (P.map fn ++ fn h.1 :: S0.map fun x => fn x.1) (List.range P.length ++ (0 :: T.map (· + 1)).map (· + P.length)) := mm
  rw [mm', map_shift, <- Int.mul_assoc, Int.mul_comm _ (last ^ S0.length), Int.mul_assoc] at big
  have can := Int.eq_of_mul_eq_mul_left (Int.pow_ne_zero I.nz) big
  rw [List.append_assoc, List.append_assoc]
  exact can.symm
theorem Stand.nought {P : List (List Int)} {last : Int} {left : List (List Int × List Int)} (I : Stand P last left) (hn : left ≠ []) (h : ∀ x ∈ left, fn x.2 0 = 0) : L (P.map fn ++ left.map fun x => fn x.1) (List.range (P.length + left.length)) = 0 := by
 have m := I.min left (List.range left.length) (fun _ h => h) (by simp) hn
 have e : List.range (P.length + left.length) = List.range P.length ++ (List.range left.length).map (· + P.length) := by
  rw [List.range_add]
  congr 1
  apply List.map_congr_left
  intro x _
  omega
 obtain ⟨n, hl⟩ : ∃ n, left.length = n + 1 := ⟨left.length - 1, by have := List.length_pos_iff.mpr hn; omega⟩
 rw [hl, List.range_succ_eq_map, L_col0 _ _ (by intro r hr; obtain ⟨x, hx, rfl⟩ := List.mem_map.mp hr; exact h x hx), <- List.range_succ_eq_map, <- hl] at m
 rw [e]
 rcases Int.mul_eq_zero.mp m.symm with z | z
 ·exact absurd z (Int.pow_ne_zero I.nz)
 ·exact z
theorem Stand.le {P : List (List Int)} {last : Int} {left : List (List Int × List Int)} {B N : Nat} (I : Stand P last left) (hP : ∀ r ∈ P, ∀ c, (fn r c).natAbs <= B) (hn : P.length < N) {x : List Int × List Int} (hx : x ∈ left) (hb : ∀ c, (fn x.1 c).natAbs <= B) (j : Nat) :
  (fn x.2 j).natAbs <= (N * B) ^ (P.length + 1) := by
 have m := I.min [x] [j] (by intro y hy; rw [List.mem_singleton.mp hy]; exact hx) rfl (by simp)
 rw [show [x].map (fun x => fn x.2) = [fn x.2] from rfl, L_one, show [x].length - 1 = 0 from rfl, Int.pow_zero, Int.one_mul] at m
 rw [m]
 have := L_le (B := B) (N := N) (P.map fn ++ [x].map fun x => fn x.1) (List.range P.length ++ [j].map (· + P.length)) (by
  intro r hr c
  rcases List.mem_append.mp hr with hr | hr
  ·obtain ⟨p, hp, rfl⟩ := List.mem_map.mp hr
   exact hP p hp c
  ·obtain ⟨p, hp, rfl⟩ := List.mem_map.mp hr
   rw [List.mem_singleton.mp hp]
   exact hb c) (by simp; omega)
 simpa using this
theorem Stand.lastLe {P : List (List Int)} {last : Int} {left : List (List Int × List Int)} {B N : Nat} (I : Stand P last left) (hP : ∀ r ∈ P, ∀ c, (fn r c).natAbs <= B) (hn : P.length <= N) : last.natAbs <= (N * B) ^ P.length := by
 rw [I.lastEq]
 have := L_le (B := B) (N := N) (P.map fn) (List.range P.length) (by
  intro r hr c
  obtain ⟨p, hp, rfl⟩ := List.mem_map.mp hr
  exact hP p hp c) (by simp; omega)
 simpa using this
def det (rows : List (List Int)) : Int := L (rows.map fn) (List.range rows.length)
end Det
set_option linter.all false
namespace Det
theorem split_at {α : Type} {l : List α} {p : Nat} {x : α} (h : l[p]? = some x) : l = l.take p ++ x :: l.drop (p + 1) := by
 obtain ⟨hp, rfl⟩ := List.getElem?_eq_some_iff.mp h
 rw [List.getElem_cons_drop, List.take_append_drop]
theorem erase_at {α : Type} (l : List α) (p : Nat) : l.eraseIdx p = l.take p ++ l.drop (p + 1) := List.eraseIdx_eq_take_drop_succ ..
theorem take_len {α : Type} {l : List α} {p : Nat} {x : α} (h : l[p]? = some x) : (l.take p).length = p := by
 have := (List.getElem?_eq_some_iff.mp h).1
 rw [List.length_take]
 omega
theorem det_step {P : List (List Int)} {left : List (List Int × List Int)} {p : Nat} {x : List Int × List Int} (h : left[p]? = some x) (cs : List Nat) :
  L (P.map fn ++ left.map fun x => fn x.1) cs = sg p * L ((P ++ [x.1]).map fn ++ (left.eraseIdx p).map fun x => fn x.1) cs := by
 have e := L_move (fn x.1) ((left.drop (p + 1)).map fun x => fn x.1) cs ((left.take p).map fun x => fn x.1) (P.map fn)
 rw [List.length_map, take_len h] at e
 have e1 : left.map (fun x => fn x.1) = (left.take p).map (fun x => fn x.1) ++ fn x.1 :: (left.drop (p + 1)).map fun x => fn x.1 := by
  conv => lhs; rw [split_at h]
  rw [List.map_append, List.map_cons]
 rw [e1, e, erase_at, List.map_append, List.map_append, List.append_assoc]
 rfl
theorem set_at {α : Type} (pre : List α) (a x : α) (rest : List α) : (pre ++ a :: rest).set pre.length x = pre ++ x :: rest := by
 rw [List.set_append_right _ _ (Nat.le_refl _), Nat.sub_self]
 rfl
theorem split2 {α : Type} {l : List α} {i j : Nat} {a b : α} (hi : l[i]? = some a) (hj : l[j]? = some b) (h : i < j) : ∃ pre mid post, pre.length = i /\ pre.length + 1 + mid.length = j /\ l = pre ++ a :: (mid ++ b :: post) := by
 have e1 := split_at hi
 have l1 := take_len hi
 have hj' : (l.drop (i + 1))[j - (i + 1)]? = some b := by
  rw [List.getElem?_drop, show i + 1 + (j - (i + 1)) = j by omega]
  exact hj
 have e2 := split_at hj'
 have l2 := take_len hj'
 refine ⟨l.take i, (l.drop (i + 1)).take (j - (i + 1)), (l.drop (i + 1)).drop (j - (i + 1) + 1), l1, by rw [l1, l2]; omega, ?_⟩
 rw [<- e2]
 exact e1
theorem set2 {α : Type} (pre mid post : List α) (a b x y : α) {i j : Nat} (hi : pre.length = i) (hj : pre.length + 1 + mid.length = j) :
  (pre ++ a :: (mid ++ b :: post)).set i x = pre ++ x :: (mid ++ b :: post) /\ (pre ++ a :: (mid ++ b :: post)).set j y = pre ++ a :: (mid ++ y :: post) := by
 subst hi
 refine ⟨set_at .., ?_⟩
 have e : ∀ z, pre ++ a :: (mid ++ z :: post) = (pre ++ a :: mid) ++ z :: post := fun z => by simp
 rw [e, e, <- hj, show pre.length + 1 + mid.length = (pre ++ a :: mid).length by simp; omega]
 exact set_at ..
theorem L_set_add {l : List Row} {i j : Nat} {a b : Row} (hi : l[i]? = some a) (hj : l[j]? = some b) (ne : i ≠ j) (f : Int) (cs : List Nat) : L (l.set i fun c => a c + f * b c) cs = L l cs := by
 rcases Nat.lt_or_gt_of_ne ne with h | h
 ·obtain ⟨pre, mid, post, h1, h2, rfl⟩ := split2 hi hj h
  rw [(set2 pre mid post a b _ a h1 h2).1]
  exact L_addrow f a b pre mid post cs
 ·obtain ⟨pre, mid, post, h1, h2, rfl⟩ := split2 hj hi h
  rw [(set2 pre mid post b a a _ h1 h2).2]
  exact L_addrow' f a b pre mid post cs
theorem L_set_swap {l : List Row} {i j : Nat} {a b : Row} (hi : l[i]? = some a) (hj : l[j]? = some b) (ne : i ≠ j) (cs : List Nat) : L ((l.set i b).set j a) cs = - L l cs := by
 rcases Nat.lt_or_gt_of_ne ne with h | h
 ·obtain ⟨pre, mid, post, h1, h2, rfl⟩ := split2 hi hj h
  rw [(set2 pre mid post a b b a h1 h2).1, (set2 pre mid post b b b a h1 h2).2]
  exact L_swap b a pre mid post cs
 ·obtain ⟨pre, mid, post, h1, h2, rfl⟩ := split2 hj hi h
  rw [(set2 pre mid post b a b b h1 h2).2, (set2 pre mid post b b a b h1 h2).1]
  exact L_swap a b pre mid post cs
theorem L_set_smul {l : List Row} {i : Nat} {a : Row} (hi : l[i]? = some a) (f : Int) (cs : List Nat) : L (l.set i fun c => f * a c) cs = f * L l cs := by
 have e := split_at hi
 have e1 := take_len hi
 generalize l.take i = pre at *
 generalize l.drop (i + 1) = post at *
 subst e
 subst e1
 rw [set_at]
 exact L_smul f a post pre cs
theorem fn_range {n : Nat} {g : Nat -> Int} (h : ∀ c, n <= c -> g c = 0) : fn ((List.range n).map g) = g := by
 funext c
 unfold fn
 rw [List.getD_eq_getElem?_getD, List.getElem?_map]
 by_cases hc : c < n
 ·rw [List.getElem?_range hc]
  rfl
 ·rw [List.getElem?_eq_none (by simp; omega)]
  exact (h c (by omega)).symm
theorem fn_ge {xs : List Int} {c : Nat} (h : xs.length <= c) : fn xs c = 0 := by
 unfold fn
 rw [List.getD_eq_getElem?_getD, List.getElem?_eq_none h]
 rfl
theorem fn_smul (f : Int) (xs : List Int) : fn (xs.map (f * ·)) = fun c => f * fn xs c := by
 funext c
 unfold fn
 rw [List.getD_eq_getElem?_getD, List.getElem?_map, List.getD_eq_getElem?_getD]
 cases xs[c]? with
 | none => simp
 | some x => rfl
def at2 (rows : List (List Int)) (i j : Nat) : Int := fn (rows.getD i []) j
theorem map_fn (rows : List (List Int)) : rows.map fn = (List.range rows.length).map (at2 rows) := by
 apply List.ext_getElem?
 intro i
 rw [List.getElem?_map, List.getElem?_map]
 by_cases h : i < rows.length
 ·rw [List.getElem?_range h, List.getElem?_eq_getElem h]
  show some _ = some (fun j => fn (rows.getD i []) j)
  rw [List.getD_eq_getElem?_getD, List.getElem?_eq_getElem h]
  rfl
 ·rw [List.getElem?_eq_none (by omega), List.getElem?_eq_none (by simp; omega)]
  rfl
theorem det_M (rows : List (List Int)) : det rows = M (at2 rows) (List.range rows.length) (List.range rows.length) := by
 unfold det M
 rw [map_fn]
theorem at2_ge {rows : List (List Int)} {i : Nat} (h : rows.length <= i) (j : Nat) : at2 rows i j = 0 := by
 unfold at2
 rw [List.getD_eq_getElem?_getD, List.getElem?_eq_none h]
 exact fn_ge (Nat.zero_le _)
def turned (rows : List (List Int)) : List (List Int) := (List.range rows.length).map fun j => (List.range rows.length).map fun i => at2 rows i j
theorem det_turned (rows : List (List Int)) : det (turned rows) = det rows := by
 rw [det_M rows, M_turn]
 unfold det M
 have hl : (turned rows).length = rows.length := by simp [turned]
 rw [hl]
 congr 1
 unfold turned
 rw [List.map_map]
 apply List.map_congr_left
 intro j _
 exact fn_range fun c hc => at2_ge hc j
theorem set_fn {rows : List (List Int)} {i : Nat} {x : List Int} : (rows.set i x).map fn = (rows.map fn).set i (fn x) := by rw [List.map_set]
theorem get_fn {rows : List (List Int)} {i : Nat} {r : List Int} (h : rows[i]? = some r) : (rows.map fn)[i]? = some (fn r) := by rw [List.getElem?_map, h]; rfl
theorem det_add {rows : List (List Int)} {i j : Nat} {a b : List Int} (hi : rows[i]? = some a) (hj : rows[j]? = some b) (ne : i ≠ j) (f : Int) {x : List Int} (hx : fn x = fun c => fn a c + f * fn b c) : det (rows.set i x) = det rows := by
 unfold det
 rw [List.length_set, set_fn, hx]
 exact L_set_add (get_fn hi) (get_fn hj) ne f _
theorem det_swap {rows : List (List Int)} {i j : Nat} {a b : List Int} (hi : rows[i]? = some a) (hj : rows[j]? = some b) (ne : i ≠ j) : det ((rows.set i b).set j a) = - det rows := by
 unfold det
 rw [List.length_set, List.length_set, set_fn, set_fn]
 exact L_set_swap (get_fn hi) (get_fn hj) ne _
theorem det_smul {rows : List (List Int)} {i : Nat} {a : List Int} (hi : rows[i]? = some a) (f : Int) : det (rows.set i (a.map (f * ·))) = f * det rows := by
 unfold det
 rw [List.length_set, set_fn, fn_smul]
 exact L_set_smul (get_fn hi) f _
def prodTo (g : Nat -> Int) : Nat -> Int
 | 0 => 1
 | n + 1 => prodTo g n * g n
theorem prodTo_front (g : Nat -> Int) : ∀ n, prodTo g (n + 1) = g 0 * prodTo (fun i => g (i + 1)) n
 | 0 => by simp [prodTo]
 | n + 1 => by
  show prodTo g (n + 1) * g (n + 1) = g 0 * (prodTo (fun i => g (i + 1)) n * g (n + 1))
  rw [prodTo_front g n, Int.mul_assoc]
theorem tri_of : ∀ (rs : List Row) (k : Nat), (∀ (i : Nat) r, rs[i]? = some r -> ∀ c, c < k + i -> r c = 0) -> Tri rs (List.range' k rs.length)
 | [], k, _ => trivial
 | r :: rs, k, h => by
  show Tri (r :: rs) (List.range' k (rs.length + 1))
  rw [List.range'_succ]
  refine ⟨fun x hx => ?_, tri_of rs (k + 1) fun i y hy c hc => h (i + 1) y hy c (by omega)⟩
  obtain ⟨i, hi⟩ := List.getElem?_of_mem hx
  exact h (i + 1) x hi k (by omega)
theorem diag_of : ∀ (rs : List Row) (k : Nat) (g : Nat -> Int), (∀ (i : Nat) r, rs[i]? = some r -> g i = r (k + i)) -> diag rs (List.range' k rs.length) = prodTo g rs.length
 | [], _, _, _ => rfl
 | r :: rs, k, g, h => by
  show diag (r :: rs) (List.range' k (rs.length + 1)) = prodTo g (rs.length + 1)
  rw [List.range'_succ, prodTo_front]
  show r k * diag rs (List.range' (k + 1) rs.length) = _
  rw [diag_of rs (k + 1) (fun i => g (i + 1)) fun i y hy => by rw [h (i + 1) y hy]; congr 1; omega]
  rw [h 0 r rfl]
  rfl
theorem det_tri {rows : List (List Int)} (h : ∀ (i : Nat) r, rows[i]? = some r -> ∀ c, c < i -> fn r c = 0) : det rows = prodTo (fun i => at2 rows i i) rows.length := by
 unfold det
 rw [List.range_eq_range']
 have hl : (rows.map fn).length = rows.length := by simp
 have get : ∀ (i : Nat) r, (rows.map fn)[i]? = some r -> ∃ x, rows[i]? = some x /\ r = fn x := by
  intro i r hr
  rw [List.getElem?_map] at hr
  obtain ⟨x, hx, rfl⟩ := Option.map_eq_some_iff.mp hr
  exact ⟨x, hx, rfl⟩
 have t := tri_of (rows.map fn) 0 (fun i r hr c hc => by
  obtain ⟨x, hx, rfl⟩ := get i r hr
  exact h i x hx c (by omega))
 have d := diag_of (rows.map fn) 0 (fun i => at2 rows i i) (fun i r hr => by
  obtain ⟨x, hx, rfl⟩ := get i r hr
  show fn (rows.getD i []) i = fn x (0 + i)
  rw [List.getD_eq_getElem?_getD, hx, Nat.zero_add]
  rfl)
 rw [hl] at t d
 rw [<- d]
 exact L_tri _ _ (by simp) t
theorem pw9 {a k : Nat} (h : a <= (9 * 10 ^ 41) ^ k) (hk : k <= 9) : a < 2 ^ 2000 :=
 Nat.lt_of_le_of_lt (Nat.le_trans h (Nat.pow_le_pow_right (by decide) hk)) (by decide +kernel)
end Det
set_option Elab.async false
set_option linter.all false
set_option maxRecDepth 100000
set_option maxHeartbeats 4000000
namespace L2
open PySem PySem.Spec PyProof.Rows
def Rw (H : Hp) (a : Addr) (xs : List Int) : Prop := H a = some (.lst (xs.map V.int))
def Tr (H : Hp) (v : V) (xs : List Int) : Prop := ∃ a, v = .ref a /\ Rw H a xs
abbrev Trs (H : Hp) (vs : List V) (rows : List (List Int)) : Prop := Paired (Tr H) vs rows
theorem Tr.mono {H H' : Hp} {v : V} {xs : List Int} (s : Same H H') (h : Tr H v xs) : Tr H' v xs := let ⟨a, e, h⟩ := h; ⟨a, e, s _ _ h⟩
theorem Trs.mono {H H' : Hp} {vs : List V} {rows : List (List Int)} (s : Same H H') (h : Trs H vs rows) : Trs H' vs rows := Paired.imp' (fun _ _ => Tr.mono s) h
theorem Trs.get {H : Hp} {vs : List V} {rows : List (List Int)} (h : Trs H vs rows) {i : Nat} {r : List Int} (hi : rows[i]? = some r) : ∃ a, vs[i]? = some (.ref a) /\ Rw H a r := by
 obtain ⟨v, hv, a, rfl, ha⟩ := paired_to h hi
 exact ⟨a, hv, ha⟩
theorem Trs.of {H : Hp} {vs : List V} {rows : List (List Int)} (h : Trs H vs rows) {i : Nat} {v : V} (hi : vs[i]? = some v) : ∃ a r, v = .ref a /\ rows[i]? = some r /\ Rw H a r := by
 obtain ⟨r, hr, a, rfl, ha⟩ := paired_of h hi
 exact ⟨a, r, rfl, hr, ha⟩
theorem Trs.len {H : Hp} {vs : List V} {rows : List (List Int)} (h : Trs H vs rows) : vs.length = rows.length := Paired.length h
theorem stays_Rw : StaysA Rw := ⟨fun H H' a b _ e h => by unfold Rw; rw [e]; exact h, fun H a b h => ⟨_, h⟩⟩
def llD (rows : List (List Int)) : PyData := .list (rows.map lD)
theorem can_lD (ns : List Int) : (lD ns).canLay0 = true := by simp [lD, PyData.canLay0, canI]
theorem dep_lD (ns : List Int) : (lD ns).depth <= 1 := by simp [lD, PyData.depth, depI]
theorem canL : ∀ nss : List (List Int), PyData.canLayAll0 (nss.map lD) = true
 | [] => rfl
 | x :: r => by simp [PyData.canLayAll0, can_lD x, canL r]
theorem depL : ∀ nss : List (List Int), PyData.depthAll (nss.map lD) <= 1
 | [] => by simp [PyData.depthAll]
 | x :: r => by
  have h1 := dep_lD x
  have h2 := depL r
  simp only [List.map_cons, PyData.depthAll]
  omega
theorem sh_llD (nss : List (List Int)) : SeqAt.shaped (llD nss) = true := shaped_of (by simp [llD, PyData.canLay0, canL]) (by have := depL nss; simp only [llD, PyData.depth]; omega)
theorem eqvL : ∀ a b : List (List Int), PyData.eqvAll (a.map lD) (b.map lD) = decide (a = b)
 | [], [] => by simp [PyData.eqvAll]
 | [], _ :: _ => by simp [PyData.eqvAll]
 | _ :: _, [] => by simp [PyData.eqvAll]
 | a :: r, b :: t => by
  simp only [List.map_cons, PyData.eqvAll, eqv_lD, eqvL r t]
  by_cases h : a = b <;> by_cases h' : r = t <;> simp [h, h']
theorem eqv_llD (a b : List (List Int)) : PyData.eqv (llD a) (llD b) = decide (a = b) := by simp only [llD, PyData.eqv]; exact eqvL a b
section
variable {X : Cx} {H : Hp}
theorem rd_trs : ∀ {vs : List V} {rows : List (List Int)}, Trs H vs rows -> Paired (RdD X H) vs (rows.map lD)
 | _, _, .nil => .nil
 | _, _, .cons ⟨_, e, h⟩ t => .cons (by rw [e]; exact rd_li (SqL.of h)) (rd_trs t)
theorem rd_tab {p : Addr} {vs : List V} {rows : List (List Int)} (h : SqL X.K H p vs) (r : Trs H vs rows) : RdD X H (.ref p) (llD rows) := rd_lst h (rd_trs r)
def rEqLL (K : PySem.W.Frag) : R2 := fun x y H Q => ∃ p q vs us a b, x = .ref p /\ y = .ref q /\ SqL K H p vs /\ Trs H vs a /\ SqL K H q us /\ Trs H us b /\ Q (.bl (decide (a = b))) H
def rNeLL (K : PySem.W.Frag) : R2 := fun x y H Q => ∃ p q vs us a b, x = .ref p /\ y = .ref q /\ SqL K H p vs /\ Trs H vs a /\ SqL K H q us /\ Trs H us b /\ Q (.bl (!decide (a = b))) H
theorem op_eqLL (hu : X.A.units + 64 < cLine) : OpR X (compareOp .Eq) (rEqLL X.K) := by
 intro pins s σ H x y v u Q I rx ry h
 obtain ⟨p, q, vs, us, a, b, rfl, rfl, h1, h2, h3, h4, k⟩ := h
 exact op_eqD hu pins s σ H _ _ v u Q I rx ry ⟨_, _, rd_tab h1 h2, rd_tab h3 h4, sh_llD _, sh_llD _, by rw [eqv_llD]; exact k⟩
theorem op_neLL (hu : X.A.units + 64 < cLine) : OpR X (compareOp .NotEq) (rNeLL X.K) := by
 intro pins s σ H x y v u Q I rx ry h
 obtain ⟨p, q, vs, us, a, b, rfl, rfl, h1, h2, h3, h4, k⟩ := h
 exact op_neD hu pins s σ H _ _ v u Q I rx ry ⟨_, _, rd_tab h1 h2, rd_tab h3 h4, sh_llD _, sh_llD _, by rw [eqv_llD]; exact k⟩
theorem bt_any : bootBuiltins "any" = some (.builtin "any") := by decide +kernel
theorem range_any : ∀ (bs : List Bool), ((List.range bs.length).any fun i => bs.getD i true) = bs.any id
 | [] => rfl
 | b :: bs => by
  rw [List.length_cons, List.range_succ_eq_map, List.any_cons, List.any_map, List.any_cons, <- range_any bs]
  rfl
theorem call_anyB (hc : X.calm = true) : CallR X (.builtin "any") (fun xs H Q => ∃ (p : Addr) (bs : List Bool), xs = [.ref p] /\ SqL X.K H p (bs.map V.bl) /\ Q (.bl (bs.any id)) H) := by
 intro pins s σ H xs us Q I r h
 obtain ⟨p, bs, rfl, hq, q⟩ := h
 obtain ⟨u, rfl, rx⟩ := vals1 r
 cases rx
 obtain ⟨its, r', pl, hz⟩ := I.list hq
 have e := bls_items r'
 subst e
 have hl := pl.isList
 have hp : p < s.heap.objs.size := let ⟨o, ho, _⟩ := hl; Heap.lt_size ho
 refine call_any_walk (wpAny_pyIter_list hl ?_)
 refine ⟨s.heap.objs.size, _, _, _, _, _, fun i => bs.getD i true, rfl, Walks.list (A := X.A.in1) (show X.A.in1.handled = none from I.ok.hd hc) s.heap.objs.size p (Nat.ne_of_lt hp) (bs.map Value.bool).toArray, ⟨⟨_, Heap.get?_push_size _ rfl, rfl, rfl⟩, hl.push _⟩, ?_, fun h' tk keep => ?_⟩
 ·intro i v s' Q' E' hv hQ'
  have hv' : (bs.map Value.bool)[i]? = some v := by simpa using hv
  rw [List.getElem?_map] at hv'
  cases eb : bs[i]? with
  | none => rw [eb] at hv'; cases hv'
  | some b =>
   rw [eb] at hv'
   simp at hv'
   subst hv'
   have e3 : bs.getD i true = b := by rw [List.getD_eq_getElem?_getD, eb]; rfl
   have hQ2 : Q' (bs.getD i true) s' := hQ'
   rw [e3] at hQ2
   exact wpAny_truthy_bool hQ2
 ·have e2 : ((List.range ((bs.map Value.bool).toArray.size)).any fun i => bs.getD i true) = bs.any id := by
   rw [<- range_any bs]
   simp
  rw [e2]
  exact ⟨.bl _, H, I.kept (t' := tk) fun b o e => keep b o (by simp only [List.mem_singleton]; exact Nat.ne_of_lt (Heap.lt_size e)) (Heap.get?_push_of_some _ e), rfl, q⟩
def cnt (n : Nat) : List Int := (List.range n).map Int.ofNat
theorem paired_ix {α β : Type} {R : α -> β -> Prop} : ∀ {as : List α} {bs : List β}, as.length = bs.length -> (∀ (i : Nat) a b, as[i]? = some a -> bs[i]? = some b -> R a b) -> Paired R as bs
 | [], [], _, _ => .nil
 | [], _ :: _, h, _ => nomatch h
 | _ :: _, [], h, _ => nomatch h
 | a :: as, b :: bs, h, f => .cons (f 0 a b rfl rfl) (paired_ix (Nat.succ.inj h) fun i => f (i + 1))
theorem items_cnt {n : Nat} {acc : Array Value} (h : ItemsOf (fun i v => ∃ t, v = Value.int (0 + ↑i * 1) t) acc n) : Vals ((cnt n).map V.int) acc.toList := by
 obtain ⟨hs, h⟩ := h
 refine paired_ix (by simp [cnt, hs]) fun i a b ha hb => ?_
 obtain ⟨t, rfl⟩ := h i b (by simpa using hb)
 simp only [cnt, List.map_map, List.getElem?_map, Option.map_eq_some_iff] at ha
 obtain ⟨j, hj, rfl⟩ := ha
 have hlt : i < n := by
  have := (List.getElem?_eq_some_iff.mp hj).1
  simpa using this
 rw [List.getElem?_range hlt] at hj
 injection hj with hj
 subst hj
 show ∃ t', Value.int (0 + (i : Int) * 1) t = Value.int (i : Int) t'
 rw [Int.zero_add, Int.mul_one]
 exact ⟨t, rfl⟩
theorem pe_listrange {e : Expr} {te : TE} {p1 p2 pos1 pos2 : Pos} (hcalm : X.calm = true) (hgl : Gl X "list") (hml : X.mg "list" = none) (hgr : Gl X "range") (hmr : X.mg "range" = none) (ha : PE X e te)
  (he : starEach [e] X.env = [(false, eval e X.env)] := by rfl) (he2 : starEach [Expr.Call (.Name "range" p2) [e] [] pos2] X.env = [(false, eval (.Call (.Name "range" p2) [e] [] pos2) X.env)] := by rfl) :
  PE X (.Call (.Name "list" p1) [.Call (.Name "range" p2) [e] [] pos2] [] pos1) (fun σ H Q => te σ H fun x H1 => ∃ n : Nat, x = .int n /\ n <= 1000 /\ ∀ l, H1 l = none -> Q (.ref l) (upd H1 l (.lst ((cnt n).map V.int)))) := by
 intro pins s σ H Q I h
 refine wpAny_Call_Name_kw (ld_blt I hgl hml bt_list ?_)
 refine PyProof.Rows.callWith_type1 ?_ he2 rfl
 rw [he2]
 refine Calls.spliced_cons (wpAny_Call_Name_kw (ld_blt I hgr hmr boot_range (PyProof.Rows.callWith_type1 ?_ he rfl)))
 rw [he]
 refine Calls.spliced_cons (thn (ha pins s σ H _ I h) fun v s1 ⟨x, H1, I1, r1, q1⟩ => Calls.spliced_nil ?_)
 obtain ⟨n, rfl, hn, q⟩ := q1
 obtain ⟨t, rfl⟩ := (show ∃ t, v = Value.int n t from r1)
 refine call_range_1 (Calls.spliced_nil ?_)
 refine call_list_range (n := n) (I1.ok.hd hcalm) (IsRange.new ..) (small_one (by omega) (by omega) (by omega) (by omega)) (by rw [rangeSize_one]; split <;> omega) (by omega) fun h' tk acc' c' hk hD hacc => ?_
 have hs1 : ∀ ob, (s1.heap.push ob).objs.size = s1.heap.objs.size + 1 := fun ob => by rw [Heap.size_push]
 rw [hs1] at hD ⊢
 have hfr : H1 (s1.heap.objs.size + 1) = none := I1.hok.fresh (Nat.le_succ _)
 have hv := items_cnt hacc
 refine ⟨.ref (s1.heap.objs.size + 1), _, I1.laid (t' := tk) (o := .lst ((cnt n).map V.int)) (fun b o e => hk b o (Heap.get?_push_of_some _ e)) (Nat.le_succ _) ⟨?_, acc'.toList, c', hv, hD⟩, rfl, q _ hfr⟩
 simp only [cnt, List.length_map, List.length_range]
 exact Nat.le_trans hn (by decide)
end
theorem bits_le {a : Int} {n : Nat} (h : a.natAbs < 2 ^ n) : Builtin.Int.intBits a <= n := by
 unfold Builtin.Int.intBits
 by_cases e : (a == 0) = true
 ·rw [if_pos e]; exact Nat.zero_le _
 ·rw [if_neg e]
  have : a.natAbs ≠ 0 := by simpa using e
  exact Nat.succ_le_of_lt ((Nat.log2_lt this).mpr h)
theorem mul_ok {a b : Int} (ha : a.natAbs < 2 ^ 2000) (hb : b.natAbs < 2 ^ 2000) : IntMulOk a b := by
 unfold IntMulOk
 have h1 := bits_le ha
 have h2 := bits_le hb
 have : Builtin.Int.intTooBig (↑(Builtin.Int.intBits a) + ↑(Builtin.Int.intBits b)) = false := by
  unfold Builtin.Int.intTooBig
  have hl : (4000 : Nat) <= bitsLine := by decide
  exact decide_eq_false (by omega)
 rw [this]
 simp
theorem go_mapR {lo : Int} {n : Nat} {te : CA -> TE} {y : Str} {caps : List Nat} {σ : St} {H1 : Hp} {Q : VK} (φ : Nat -> Int) (hz : n < sizeLine)
  (hs : ∀ (k : CA) (i : Nat) (H : Hp), i < n -> Same H1 H -> ∀ N : VK, (∀ H', Same H H' -> N (.int (φ i)) H') -> te k (some (.int (lo + (i : Int))) :: caps.map fun j => (σ[j]?).join) H N)
  (hd : ∀ D H, H1 D = none -> Same H1 H -> H D = some (.lst (((List.range n).map φ).map V.int)) -> Q (.ref D) H) : CompGo (Itr lo n) (fun _ => gName 0) (fun _ _ H Q => Q true H) te [y] caps σ H1 Q := by
 refine go_range hz (fun D i ys τ H => H1 D = none /\ Same H1 H /\ H D = some (.lst ys) /\ ys = ((List.range i).map φ).map V.int /\ ∃ v, τ = v :: caps.map fun j => (σ[j]?).join) ?_ ?_ ?_ ?_
 ·exact fun D hD => ⟨hD, Same.new hD _, upd_same, rfl, none, rfl⟩
 ·rintro D i ys τ H hi ⟨hD, s, d, rfl, _⟩
  exact ⟨d, by simp⟩
 ·rintro k D i ys τ H hi ⟨hD, s, d, rfl, v, rfl⟩
  refine gName_i ?_
  show if true = true then _ else _
  rw [if_pos rfl]
  refine hs k i H hi s _ fun H' s' => ?_
  refine ⟨s' _ _ d, hD, (s.trans s').at hD _, upd_same, ?_, _, rfl⟩
  rw [List.range_succ, List.map_append, List.map_append]
  rfl
 ·rintro D ys τ H hD ⟨_, s, d, rfl, _⟩
  exact hd D H hD s d
theorem go_mapRN {β : Type} {lo : Int} {n : Nat} {te : CA -> TE} {y : Str} {caps : List Nat} {σ : St} {H1 : Hp} {Q : VK} (R : Hp -> Addr -> β -> Prop) (φ : Nat -> β) (mR : StaysA R) (hz : n < sizeLine)
  (hs : ∀ (k : CA) (i : Nat) (H : Hp), i < n -> Same H1 H -> ∀ N : VK, (∀ u H', Same H H' -> H u = none -> R H' u (φ i) -> N (.ref u) H') -> te k (some (.int (lo + (i : Int))) :: caps.map fun j => (σ[j]?).join) H N)
  (hd : ∀ D ys H, H1 D = none -> Same H1 H -> H D = some (.lst ys) -> Paired (NewR R H1 H) ys ((List.range n).map φ) -> (∀ y ∈ ys, y ≠ .ref D) -> Q (.ref D) H) : CompGo (Itr lo n) (fun _ => gName 0) (fun _ _ H Q => Q true H) te [y] caps σ H1 Q := by
 refine go_range hz (fun D i ys τ H => H1 D = none /\ Same H1 H /\ H D = some (.lst ys) /\ Paired (NewR R H1 H) ys ((List.range i).map φ) /\ (∀ y ∈ ys, y ≠ .ref D) /\ ∃ v, τ = v :: caps.map fun j => (σ[j]?).join) ?_ ?_ ?_ ?_
 ·exact fun D hD => ⟨hD, Same.new hD _, upd_same, .nil, fun _ z => (nomatch z), none, rfl⟩
 ·rintro D i ys τ H hi ⟨hD, s, d, p, _, v, rfl⟩
  refine ⟨d, ?_⟩
  rw [Paired.length p, List.length_map, List.length_range]
  exact Nat.le_refl _
 ·rintro k D i ys τ H hi ⟨hD, s, d, p, nD, v, rfl⟩
  refine gName_i ?_
  show if true = true then _ else _
  rw [if_pos rfl]
  refine hs k i H hi s _ fun u H' s' hu r => ?_
  have d' := s' _ _ d
  have huD : u ≠ D := (ne_of_none d hu).symm
  refine ⟨d', hD, (s.trans s').at hD _, upd_same, ?_, ?_, _, rfl⟩
  ·rw [List.range_succ, List.map_append]
   have t : TupS H' (upd H' D (.lst (ys ++ [.ref u]))) := TupS.upd d' rfl
   have key : ∀ {vs : List V} {rs : List β}, Paired (NewR R H1 H) vs rs -> (∀ y ∈ vs, y ≠ .ref D) -> Paired (NewR R H1 (upd H' D (.lst (ys ++ [.ref u])))) vs rs := by
    intro vs rs hp
    induction hp with
    | nil => intro _; exact .nil
    | cons hh _ ih =>
     intro hw
     obtain ⟨g, rfl, n, lg⟩ := hh
     have hgD : g ≠ D := fun z => hw _ List.mem_cons_self (by rw [z])
     exact .cons ⟨g, rfl, n, mR.stay _ _ _ _ t (by rw [upd_ne hgD]) (mR.same s' lg)⟩ (ih fun w hw' => hw w (List.mem_cons_of_mem _ hw'))
   exact paired_append (.cons ⟨u, rfl, s.free hu, mR.stay _ _ _ _ t (by rw [upd_ne huD]) r⟩ .nil) (key p nD)
  ·intro w hw
   rcases List.mem_append.mp hw with hw | hw
   ·exact nD w hw
   ·rw [List.mem_singleton.mp hw]
    intro e
    injection e with e
    exact huD e
 ·rintro D ys τ H hD ⟨_, s, d, p, nD, v, rfl⟩
  exact hd D ys H hD s d p nD
theorem NewR.trs {H1 H : Hp} : ∀ {ys : List V} {rows : List (List Int)}, Paired (NewR Rw H1 H) ys rows -> Trs H ys rows
 | _, _, .nil => .nil
 | _, _, .cons ⟨a, e, _, h⟩ t => .cons ⟨a, e, h⟩ (NewR.trs t)
def Pu (H0 H : Hp) (v : V) : Prop := ∃ p x, v = .ref p /\ H p = some (.lst [.int x]) /\ H0 p = none
theorem go_nums {K : PySem.W.Frag} {a : Addr} {us : List V} {te : CA -> TE} {y : Str} {caps : List Nat} {σ : St} {H0 H1 : Hp} {Q : VK} (B : Nat) (hq : H1 a = some (.lst us)) (hz : us.length < sizeLine) (hp : ∀ v ∈ us, Pu H0 H1 v) (s : Same H0 H1)
  (hs : ∀ (k : CA) p x (H : Hp) (N : VK), H p = some (.lst [.int x]) -> (∀ x' z : Int, z.natAbs <= B -> N (.int z) (upd H p (.lst [.int x']))) -> te k (some (.ref p) :: caps.map fun j => (σ[j]?).join) H N)
  (hd : ∀ D (zs : List Int) H, H0 D = none -> Same H0 H -> H D = some (.lst (zs.map V.int)) -> zs.length = us.length -> (∀ z ∈ zs, z.natAbs <= B) -> Q (.ref D) H) : CompGo (Itl K a) (fun _ => gName 0) (fun _ _ H Q => Q true H) te [y] caps σ H1 Q := by
 refine go_list (K := K) (xs := us) hz (fun D i ys τ H => H1 D = none /\ Same H0 H /\ H a = some (.lst us) /\ (∀ v ∈ us, Pu H0 H v) /\ (∀ v ∈ us, v ≠ .ref D) /\ H D = some (.lst ys) /\ (∃ zs : List Int, ys = zs.map V.int /\ zs.length = i /\ ∀ z ∈ zs, z.natAbs <= B) /\ ∃ v, τ = v :: caps.map fun j => (σ[j]?).join) ?_ ?_ ?_ ?_
 ·intro D hD
  refine ⟨hD, s.at (s.free hD) _, by rw [upd_ne (ne_of_none hq hD)]; exact hq, ?_, ?_, upd_same, ⟨[], rfl, rfl, fun _ h => nomatch h⟩, none, rfl⟩
  ·intro v hv
   obtain ⟨p, x, rfl, h1, h2⟩ := hp v hv
   exact ⟨p, x, rfl, by rw [upd_ne (ne_of_none h1 hD)]; exact h1, h2⟩
  ·intro v hv
   obtain ⟨p, x, rfl, h1, h2⟩ := hp v hv
   intro e
   injection e with e
   rw [e, hD] at h1
   cases h1
 ·rintro D i ys τ H hi ⟨hD, s', ha, _, _, d, ⟨zs, rfl, e, _⟩, _⟩
  exact ⟨SqL.of ha, d, by rw [List.length_map, e]; exact Nat.le_refl _⟩
 ·rintro k D i v ys τ H hi ⟨hD, s', ha, hp', nD, d, ⟨zs, rfl, e, b⟩, v', rfl⟩
  have hv : v ∈ us := List.mem_of_getElem? hi
  obtain ⟨p, x, rfl, h1, h2⟩ := hp' v hv
  have pD : p ≠ D := fun z => nD _ hv (by rw [z])
  have pa : p ≠ a := by
   intro z
   rw [z, ha] at h1
   injection h1 with h1
   injection h1 with h1
   rw [h1] at hv
   cases List.mem_singleton.mp hv
  have aD : a ≠ D := fun z => by rw [z, hD] at hq; cases hq
  refine gName_i ?_
  show if true = true then _ else _
  rw [if_pos rfl]
  refine hs k p x H _ h1 fun x' z hz => ?_
  refine ⟨by rw [upd_ne pD.symm]; exact d, hD, (s'.at h2 _).at (s.free hD) _, by rw [upd_ne aD, upd_ne pa.symm]; exact ha, ?_, nD, upd_same, ⟨zs ++ [z], by simp, by rw [List.length_append, e]; rfl, ?_⟩, _, rfl⟩
  ·intro v2 hv2
   obtain ⟨p2, x2, rfl, h3, h4⟩ := hp' v2 hv2
   have p2D : p2 ≠ D := fun z => nD _ hv2 (by rw [z])
   by_cases e2 : p2 = p
   ·subst e2
    exact ⟨p2, x', rfl, by rw [upd_ne p2D, upd_same], h4⟩
   ·exact ⟨p2, x2, rfl, by rw [upd_ne p2D, upd_ne e2]; exact h3, h4⟩
  ·intro z2 hz2
   rcases List.mem_append.mp hz2 with h | h
   ·exact b z2 h
   ·rw [List.mem_singleton.mp h]
    exact hz
 ·rintro D ys τ H hD ⟨_, s', ha, _, _, d, ⟨zs, rfl, e, b⟩, _⟩
  exact hd D zs H (s.free hD) s' d e b
theorem atI_fn {xs : List Int} {z : Int} {j : Nat} (e : z = (j : Int)) (hj : j < xs.length) : atI (xs.map V.int) z = some (.int (Det.fn xs j)) := by
 subst e
 refine atI_nat ?_
 rw [List.getElem?_map, List.getElem?_eq_getElem hj]
 show some (V.int xs[j]) = some (V.int (xs.getD j 0))
 rw [List.getD_eq_getElem?_getD, List.getElem?_eq_getElem hj]
 rfl
theorem log2_lt_2000 {a : Int} (h : a.natAbs < 2 ^ 2000) : a.natAbs.log2 < 9000 := by
 by_cases e : a.natAbs = 0
 ·rw [e]; decide
 ·exact Nat.lt_trans ((Nat.log2_lt e).mpr h) (by decide)
theorem paired_erase {α β : Type} {R : α -> β -> Prop} : ∀ {as : List α} {bs : List β} (j : Nat), Paired R as bs -> Paired R (as.eraseIdx j) (bs.eraseIdx j)
 | _, _, j, .nil => by cases j <;> exact .nil
 | _, _, 0, .cons _ t => t
 | _, _, j + 1, .cons r t => .cons r (paired_erase j t)
theorem Tr.upd {H : Hp} {v : V} {xs : List Int} {l : Addr} {vs : List V} {o : HO} (h : Tr H v xs) (hl : H l = some (.lst vs)) (hv : v ∈ vs) : Tr (upd H l o) v xs := by
 obtain ⟨a, rfl, ha⟩ := h
 refine ⟨a, rfl, ?_⟩
 have ne : a ≠ l := by
  intro e
  unfold Rw at ha
  rw [e, hl] at ha
  injection ha with ha
  injection ha with ha
  rw [ha] at hv
  obtain ⟨z, _, hz⟩ := List.mem_map.mp hv
  cases hz
 show L2.upd H l o a = _
 rw [upd_ne ne]
 exact ha
theorem paired_with {α β : Type} {R S : α -> β -> Prop} : ∀ {as : List α} {bs : List β}, Paired R as bs -> (∀ a b, a ∈ as -> R a b -> S a b) -> Paired S as bs
 | _, _, .nil, _ => .nil
 | _, _, .cons r t, f => .cons (f _ _ List.mem_cons_self r) (paired_with t fun a b h => f a b (List.mem_cons_of_mem _ h))
theorem seq_at {p n : Nat} (h : p < n) : seqIndex? (p : Int) n = some p := by
 unfold seqIndex?
 have h1 : ¬ ((p : Int) < 0) := by omega
 have h2 : (p : Int) < (n : Int) := by omega
 simp [h1, h]
theorem cut_to {xs : List V} {z : Int} {k : Nat} (e : z = (k : Int)) (h : k <= xs.length) : cutV xs none (some z) = xs.take k := by
 subst e
 unfold cutV
 rw [HT.sIx_none, HT.sIx_nat, List.drop_zero, Nat.sub_zero, Nat.min_eq_left h]
theorem cut_from {xs : List V} {z : Int} {k : Nat} (e : z = (k : Int)) (h : k <= xs.length) : cutV xs (some z) none = xs.drop k := by
 subst e
 unfold cutV
 rw [HT.sIx_none, HT.sIx_nat, Nat.min_eq_left h, List.take_of_length_le (by rw [List.length_drop]; exact Nat.le_refl _)]
end L2
namespace My
open PySem L2 Hex Det
def top (i : Nat) : Stmt := PySem.Challenge.pw_sootring_k23_determinants.main.body.getD i (.Pass ⟨0, 0, 0, 0⟩)
abbrev s_check_table : Stmt := top 4
abbrev s_first_with_a_head : Stmt := top 5
abbrev s_reduced : Stmt := top 6
abbrev s_determinant : Stmt := top 7
abbrev s_law_take : Stmt := top 9
abbrev s_law_purse : Stmt := top 10
abbrev s_law_number : Stmt := top 11
abbrev s_law_by_rows : Stmt := top 12
abbrev s_law_told : Stmt := top 13
abbrev s_law_steady : Stmt := top 14
abbrev s_law : Stmt := top 15
theorem sc_check_table : FnScope ["rows"] ["rows"] (defScope s_check_table) := ⟨rfl, rfl, rfl, by decide +kernel, rfl, by decide +kernel, by decide +kernel⟩
theorem sc_first_with_a_head : FnScope ["rows", "place", "row"] ["rows"] (defScope s_first_with_a_head) := ⟨rfl, rfl, rfl, by decide +kernel, rfl, by decide +kernel, by decide +kernel⟩
theorem sc_reduced : FnScope ["row", "head", "divisor"] ["row", "head", "divisor"] (defScope s_reduced) := ⟨rfl, rfl, rfl, by decide +kernel, rfl, by decide +kernel, by decide +kernel⟩
theorem sc_determinant : FnScope ["rows", "left", "sign", "last", "place", "head"] ["rows"] (defScope s_determinant) := ⟨rfl, rfl, rfl, by decide +kernel, rfl, by decide +kernel, by decide +kernel⟩
theorem sc_law_take : FnScope ["_law_draw", "_law_many", "_law_digit"] ["_law_draw", "_law_many"] (defScope s_law_take) := ⟨rfl, rfl, rfl, by decide +kernel, rfl, by decide +kernel, by decide +kernel⟩
theorem sc_law_purse : FnScope ["_law_script", "_law_k", "_law_plain", "_law_cell", "_law_digits", "_law_mix", "_law_come", "_law_j"] ["_law_script", "_law_k", "_law_plain"] (defScope s_law_purse) := ⟨rfl, rfl, rfl, by decide +kernel, rfl, by decide +kernel, by decide +kernel⟩
theorem sc_law_number : FnScope ["_law_draw", "_law_way"] ["_law_draw", "_law_way"] (defScope s_law_number) := ⟨rfl, rfl, rfl, by decide +kernel, rfl, by decide +kernel, by decide +kernel⟩
theorem sc_law_by_rows : FnScope ["_law_rows", "_law_columns", "_law_come", "_law_k", "_law_rest"] ["_law_rows", "_law_columns"] (defScope s_law_by_rows) := ⟨rfl, rfl, rfl, by decide +kernel, rfl, by decide +kernel, by decide +kernel⟩
theorem sc_law_told : FnScope ["_law_rows", "_law_handed", "_law_found"] ["_law_rows"] (defScope s_law_told) := ⟨rfl, rfl, rfl, by decide +kernel, rfl, by decide +kernel, by decide +kernel⟩
theorem sc_law_steady : FnScope ["_law_rows", "_law_script", "_law_told_here", "_law_many", "_law_cell", "_law_one", "_law_other", "_law_factor", "_law_changed"] ["_law_rows", "_law_script"] (defScope s_law_steady) := ⟨rfl, rfl, rfl, by decide +kernel, rfl, by decide +kernel, by decide +kernel⟩
theorem sc_law : FnScope ["_law_script", "_law_draw", "_law_way", "_law_many", "_law_rows", "_law_k", "_law_purses", "_law_due"] ["_law_script"] (defScope s_law) := ⟨rfl, rfl, rfl, by decide +kernel, rfl, by decide +kernel, by decide +kernel⟩
theorem sml {n : Nat} (h : n <= 100000) : n < sizeLine := Nat.lt_of_le_of_lt h (by decide)
theorem take_snoc {α : Type} {l : List α} {i : Nat} {c : α} (h : l[i]? = some c) : l.take (i + 1) = l.take i ++ [c] := by rw [List.take_add_one, h]; rfl
theorem not_take {α : Type} {l : List α} {i : Nat} {c : α} (hn : l.Nodup) (h : l[i]? = some c) : c ∉ l.take i := by
 intro z
 obtain ⟨hi, e⟩ := List.getElem?_eq_some_iff.mp h
 have h1 := List.take_append_drop i l
 rw [<- h1] at hn
 refine (List.nodup_append.mp hn).2.2 c z c ?_ rfl
 rw [List.drop_eq_getElem_cons hi, e]
 exact List.mem_cons_self
def WholeB (K : PySem.W.Frag) (H : Hp) (y : V) (r : Bool) : Prop := ∃ t b c, TyOf K H y t /\ PySem.W.kitOne K t (.type "int") = some b /\ PySem.W.kitOne K t (.type "bool") = some c /\ r = (b && !c)
section
variable (K : PySem.W.Frag)
theorem kit_int_int : PySem.W.kitOne K (.type "int") (.type "int") = some true := kit_same K _
theorem kit_tuple_tuple : PySem.W.kitOne K (.type "tuple") (.type "tuple") = some true := kit_same K _
theorem kit_list_list : PySem.W.kitOne K (.type "list") (.type "list") = some true := kit_same K _
theorem kit_int_bool : PySem.W.kitOne K (.type "int") (.type "bool") = some false := by rfl
end
theorem wh_int {K : PySem.W.Frag} {H : Hp} (i : Int) : WholeB K H (.int i) true := ⟨_, _, _, .int i, kit_int_int K, kit_int_bool K, rfl⟩
theorem mul120 : IntMulOk (10 ^ Int.toNat 60) (10 ^ Int.toNat 60) := by
 unfold IntMulOk
 decide
def Tb (H : Hp) (a : Addr) (rows : List (List Int)) : Prop := ∃ vs, H a = some (.lst vs) /\ Trs H vs rows
theorem Tb.mono {H H' : Hp} {a : Addr} {rows : List (List Int)} (s : Same H H') (h : Tb H a rows) : Tb H' a rows := let ⟨vs, h1, h2⟩ := h; ⟨vs, s _ _ h1, h2.mono s⟩
def Sq (B : Nat) (rows : List (List Int)) : Prop := (∀ r ∈ rows, r.length = rows.length) /\ rows.length <= 9 /\ ∀ r ∈ rows, ∀ j, (fn r j).natAbs <= B
theorem go_copy {K : PySem.W.Frag} {a : Addr} {vs : List V} {rows : List (List Int)} {te : CA -> TE} {y : Str} {caps : List Nat} {σ : St} {H1 : Hp} {Q : VK} (ha : H1 a = some (.lst vs)) (ht : Trs H1 vs rows) (h9 : rows.length <= 9)
  (hs : ∀ (k : CA) (b : Addr) (r : List Int) (H : Hp) (N : VK), Rw H b r -> (∀ u, H u = none -> N (.ref u) (upd H u (.lst (r.map V.int)))) -> te k (some (.ref b) :: caps.map fun j => (σ[j]?).join) H N)
  (hd : ∀ D ys H, H1 D = none -> Same H1 H -> H D = some (.lst ys) -> Trs H ys rows -> Q (.ref D) H) : CompGo (Itl K a) (fun _ => gName 0) (fun _ _ H Q => Q true H) te [y] caps σ H1 Q := by
 have hl := ht.len
 refine go_mapN (K := K) (xs := rows) (fun H v r => Tr H v r) Rw (fun r => r) (fun _ _ _ _ s h => h.mono s) stays_Rw (SqL.of ha) ht (Nat.lt_of_le_of_lt (m := 9) (by omega) (by decide)) ?_ ?_
 ·intro k i v r H hv hr s1 ht1 N hN
  obtain ⟨b, rfl, hb⟩ := ht1
  exact hs k b r H N hb fun u hu => hN u _ (Same.new hu _) hu upd_same
 intro D ys H hD s1 d1 p1 nD
 rw [List.map_id'] at p1
 exact hd D ys H hD s1 d1 (NewR.trs p1)
theorem paired_set {α β : Type} {R : α -> β -> Prop} {a : α} {b : β} (h : R a b) : ∀ {as : List α} {bs : List β} (i : Nat), Paired R as bs -> Paired R (as.set i a) (bs.set i b)
 | _, _, _, .nil => .nil
 | _, _, 0, .cons _ t => .cons h t
 | _, _, i + 1, .cons r t => .cons r (paired_set h i t)
theorem Tb.set {H : Hp} {D u : Addr} {ys : List V} {rows : List (List Int)} {x : List Int} (i : Nat) (hD : H D = some (.lst ys)) (ht : Trs H ys rows) (hu : Rw H u x) (ne : u ≠ D) :
  upd H D (.lst (ys.set i (.ref u))) D = some (.lst (ys.set i (.ref u))) /\ Trs (upd H D (.lst (ys.set i (.ref u)))) (ys.set i (.ref u)) (rows.set i x) := by
 refine ⟨upd_same, paired_set ⟨u, rfl, ?_⟩ i (paired_with ht fun v r hv h => h.upd hD hv)⟩
 show upd H D _ u = _
 rw [upd_ne ne]
 exact hu
theorem ix_at {n j : Nat} {z : Int} (e : z = (j : Int)) (h : j < n) : ixN n z = some j := by
 subst e
 have : atI (List.range n) (j : Int) = some j := atI_nat (List.getElem?_range h)
 unfold atI at this
 cases e : ixN (List.range n).length (j : Int) with
 | none => rw [e] at this; cases this
 | some k =>
  rw [e] at this
  have hk : k < n := by
   have := (List.getElem?_eq_some_iff.mp (show (List.range n)[k]? = some j from this)).1
   simpa using this
  rw [show (some k).bind (fun j => (List.range n)[j]?) = (List.range n)[k]? from rfl, List.getElem?_range hk] at this
  rw [List.length_range] at e
  rw [e, this]
theorem Sq.up {B B' : Nat} {rows : List (List Int)} (sq : Sq B rows) (h : B <= B') : Sq B' rows := ⟨sq.1, sq.2.1, fun r hr j => Nat.le_trans (sq.2.2 r hr j) h⟩
theorem Sq.set {B : Nat} {rows : List (List Int)} {x : List Int} (sq : Sq B rows) (i : Nat) (hx : x.length = rows.length) (hb : ∀ j, (fn x j).natAbs <= B) : Sq B (rows.set i x) := by
 refine ⟨fun r hr => ?_, by rw [List.length_set]; exact sq.2.1, fun r hr => ?_⟩
 ·rw [List.length_set]
  rcases List.mem_or_eq_of_mem_set hr with h | h
  ·exact sq.1 r h
  ·rw [h, hx]
 ·rcases List.mem_or_eq_of_mem_set hr with h | h
  ·exact sq.2.2 r h
  ·rw [h]
   exact hb
theorem Sq.turned {B : Nat} {rows : List (List Int)} (sq : Sq B rows) : Sq B (Det.turned rows) := by
 have hl : (Det.turned rows).length = rows.length := by simp [Det.turned]
 refine ⟨fun r hr => ?_, by rw [hl]; exact sq.2.1, fun r hr j => ?_⟩
 ·rw [hl]
  obtain ⟨j, _, rfl⟩ := List.mem_map.mp hr
  simp
 ·obtain ⟨i, _, rfl⟩ := List.mem_map.mp hr
  rw [fn_range fun c hc => at2_ge hc i]
  show (fn (rows.getD j []) i).natAbs <= B
  by_cases h : j < rows.length
  ·rw [List.getD_eq_getElem?_getD, List.getElem?_eq_getElem h]
   exact sq.2.2 _ (List.getElem_mem h) i
  ·rw [List.getD_eq_getElem?_getD, List.getElem?_eq_none (by omega)]
   show (fn [] i).natAbs <= B
   rw [fn_ge (Nat.zero_le _)]
   exact Nat.zero_le _
theorem other_ne {n one t : Int} (h0 : 0 <= one) (h1 : one < n) (t0 : 0 <= t) (t1 : t < n - 1) : (one + 1 + t) % n ≠ one := by
 by_cases h : one + 1 + t < n
 ·rw [Int.emod_eq_of_lt (by omega) h]
  omega
 ·rw [<- Int.sub_emod_right, Int.emod_eq_of_lt (by omega) (by omega)]
  omega
def sp_law_take (K : PySem.W.Frag) : Sp := fun vs H Q _ => ∃ p a m, vs = [.ref p, .int m] /\ H p = some (.lst [.int a]) /\ 0 < m /\ m < 2 ^ 200 /\ ∀ a' z : Int, 0 <= z -> z < m -> Q (.int z) (upd H p (.lst [.int a']))
def sp_law_purse (K : PySem.W.Frag) : Sp := fun vs H Q _ => ∃ (a : Addr) (ns : List Int) (k : Int) (b : Bool), vs = [.ref a, .int k, .bl b] /\ SqL K H a (ns.map V.int) /\ 0 <= k /\ k < 1000 /\ ∀ p a', H p = none -> Q (.ref p) (upd H p (.lst [.int a']))
def sp_check_table (K : PySem.W.Frag) : Sp := fun vs H Q _ => ∃ a rows, vs = [.ref a] /\ Tb H a rows /\ (∀ r ∈ rows, r.length = rows.length) /\ rows.length <= 9 /\ ∀ H', Same H H' -> Q .non H'
def sp_first_with_a_head (K : PySem.W.Frag) : Sp := fun vs H Q _ => ∃ a rows, vs = [.ref a] /\ Tb H a rows /\ (∀ r ∈ rows, 0 < r.length) /\ rows.length <= 9 /\ (∀ H' (p : Nat) r, Same H H' -> rows[p]? = some r -> fn r 0 ≠ 0 -> Q (.int p) H') /\ (∀ H', Same H H' -> (∀ r ∈ rows, fn r 0 = 0) -> Q .non H')
def sp_reduced (K : PySem.W.Frag) : Sp := fun vs H Q _ => ∃ x h xs hs d, vs = [.ref x, .ref h, .int d] /\ Rw H x xs /\ Rw H h hs /\ xs.length = hs.length /\ 0 < hs.length /\ hs.length <= 9 /\ d ≠ 0 /\ d.natAbs < 2 ^ 2000 /\ (∀ j, (fn xs j).natAbs < 2 ^ 2000) /\ (∀ j, (fn hs j).natAbs < 2 ^ 2000) /\ ∀ u H', Same H H' -> H u = none -> Rw H' u (less hs d xs) -> Q (.ref u) H'
def sp_determinant (K : PySem.W.Frag) : Sp := fun vs H Q _ => ∃ a rows, vs = [.ref a] /\ Tb H a rows /\ Sq (10 ^ 41) rows /\ ∀ H', Same H H' -> Q (.int (det rows)) H'
def sp_law_number (K : PySem.W.Frag) : Sp := fun vs H Q _ => ∃ p a y, vs = [.ref p, .int y] /\ H p = some (.lst [.int a]) /\ ∀ a' z : Int, z.natAbs <= 10 ^ 40 -> Q (.int z) (upd H p (.lst [.int a']))
def spBR (K : PySem.W.Frag) (m : Nat) : Sp := fun vs H Q _ => ∃ (a c : Addr) (rows : List (List Int)) (cs : List Nat), vs = [.ref a, .ref c] /\ Tb H a rows /\ H c = some (.lst (((cs : List Nat).map Int.ofNat).map V.int)) /\ rows.length = cs.length /\ rows.length < m /\ m <= 7 /\ (∀ r ∈ rows, ∀ j ∈ cs, j < r.length) /\ (∀ r ∈ rows, ∀ j, (fn r j).natAbs <= 10 ^ 41) /\ ∀ H', Same H H' -> Q (.int (L (rows.map fn) cs)) H'
def sp_law_by_rows (K : PySem.W.Frag) : Sp := spBR K 7
def sp_law_told (K : PySem.W.Frag) : Sp := fun vs H Q _ => ∃ a rows, vs = [.ref a] /\ Tb H a rows /\ Sq (10 ^ 41) rows /\ ∀ H', Same H H' -> Q (.int (det rows)) H'
def sp_law_steady (K : PySem.W.Frag) : Sp := fun vs H Q _ => ∃ (a b : Addr) (rows : List (List Int)) (ns : List Int), vs = [.ref a, .ref b] /\ Tb H a rows /\ Sq (10 ^ 40) rows /\ SqL K H b (ns.map V.int) /\ ns.length <= 63 /\ ∀ H', Same H H' -> Q (.bl true) H'
def spLaw (K : PySem.W.Frag) : Sp := fun vs H Q _ => ∃ (a : Addr) (ns : List Int), vs = [.ref a] /\ SqL K H a (ns.map V.int) /\ ns.length <= 63 /\ ∀ H', Q (.bl true) H'
structure Blt (mg : Str -> Option Value) : Prop where
 any_ : mg "any" = none
 bool_ : mg "bool" = none
 enumerate_ : mg "enumerate" = none
 int_ : mg "int" = none
 isinstance_ : mg "isinstance" = none
 len_ : mg "len" = none
 list_ : mg "list" = none
 range_ : mg "range" = none
section
variable {P : Program} {w : World} {K : PySem.W.Frag} {mg : Str -> Option Value} {base : Heap}
theorem ok_law_take {f : Addr} {fd : FuncData} (F : Fun K "_law_take" "_law_take" s_law_take f fd) (bl : Blt mg)  : FnOk P w K mg base CX0 1 f fd ["_law_draw", "_law_many"] (sp_law_take K) := by
 refine F.ok sc_law_take (fun vs H Q E h => ?_) (fun cdv A outer s H vs Q E hr h => ?_)
 ·obtain ⟨x, _, _, rfl, _⟩ := h; rfl
 ·obtain ⟨p, a, m, rfl, hp, m0, m1, q⟩ := h
  refine ⟨_, (pss_cons (ps_set (i := 2) sc_law_take.nd rfl (Or.inl rfl) (pe_op op_mod (pe_ix ix_list (pv 0) pe_int (fun _ _ => rfl)) (pv 1)))
  (pss_cons (ps_asg (pe_op op_fdivB (pe_ix ix_list (pv 0) pe_int (fun _ _ => rfl)) (pv 1)) (pg_sub (pv 0) pe_int set_list))
  (pss_one (ps_ret (pv 2))))), ?_⟩
  refine ⟨_, rfl, p, _, 0, .int a, rfl, rfl, SqL.of hp, rfl, _, rfl, _, _, rfl, rfl, m0, ?_⟩
  refine ⟨_, rfl, p, _, 0, .int a, rfl, rfl, SqL.of hp, rfl, _, rfl, _, _, rfl, rfl, ⟨m0, m1⟩, _, rfl, p, _, 0, 0, rfl, rfl, hp, rfl, ?_⟩
  exact ⟨_, rfl, q _ _ (Int.emod_nonneg _ (by omega)) (Int.emod_lt_of_pos _ m0)⟩
theorem mul150 : IntMulOk (10 ^ Int.toNat 60 * 10 ^ Int.toNat 60) (10 ^ Int.toNat 30) := by
 unfold IntMulOk
 decide
theorem ok_law_purse {f : Addr} {fd : FuncData} (F : Fun K "_law_purse" "_law_purse" s_law_purse f fd) (bl : Blt mg)  : FnOk P w K mg base CX0 1 f fd ["_law_script", "_law_k", "_law_plain"] (sp_law_purse K) := by
 refine F.ok sc_law_purse (fun vs H Q E h => ?_) (fun cdv A outer s H vs Q E hr h => ?_)
 ·obtain ⟨x, _, _, _, rfl, _⟩ := h; rfl
 ·obtain ⟨a, ns, k, b, rfl, hS, k0, k1, q⟩ := h
  refine ⟨_, (pss_cons (ps_set (i := 3) sc_law_purse.nd rfl (Or.inl rfl) pe_int)
  (pss_cons (ps_join (ps_if (pt_cmpR op_lt (pv 1) (pe_callB call_len_seq rfl bl.len_ bt_len (pa_cons (pv 0) pa_nil)) (nomark _)) (pss_one (ps_set (i := 3) sc_law_purse.nd rfl (Or.inl rfl) (pe_ix ix_list (pv 0) (pv 1) (fun _ _ => rfl)))) pss_nil))
  (pss_cons (ps_set (i := 4) sc_law_purse.nd rfl (Or.inl rfl) (pe_op op_mod (pv 3) (pe_op op_mulB (pe_op op_mulB (pe_op op_pow pe_int pe_int) (pe_op op_pow pe_int pe_int)) (pe_op op_pow pe_int pe_int))))
  (pss_cons (ps_join (ps_if (PW.pt (pw_and (pt_val (pv 2)) (pw_and1 (pt_cmpR op_ge (pv 4) (pe_op op_pow pe_int pe_int) (nomark _))))) (pss_one (ps_ret (pe_lst (pa_cons (pv 4) pa_nil)))) pss_nil))
  (pss_cons (ps_set (i := 5) sc_law_purse.nd rfl (Or.inl rfl) (pe_op op_mod (pe_op op_add (pv 3) (pe_callB call_len_seq rfl bl.len_ bt_len (pa_cons (pv 0) pa_nil))) pe_int))
  (pss_cons (ps_set (i := 6) sc_law_purse.nd rfl (Or.inl rfl) pe_int)
  (pss_cons (ps_for PassesOwn.never rfl (pi_range1 rfl bl.range_ (pa_cons pe_int pa_nil)) (pg_name (i := 7) sc_law_purse.nd rfl (Or.inl rfl))
   (pss_cons (ps_set (i := 5) sc_law_purse.nd rfl (Or.inl rfl) (pe_op op_mod (pe_op op_add (pe_op op_add (pe_op op_add (pe_op op_mul (pv 5) pe_int) (pe_op op_mul (pv 7) (pv 7))) (pe_op op_mul pe_int (pv 1))) pe_int) pe_int))
   (pss_one (ps_set (i := 6) sc_law_purse.nd rfl (Or.inl rfl) (pe_op op_add (pe_op op_mul (pv 6) pe_int) (pv 5))))))
  (pss_one (ps_ret (pe_lst (pa_cons (pv 6) pa_nil))))))))))), ?_⟩
  refine ⟨fun σ H2 => ∃ c : Int, H2 = H /\ σ = [some (.ref a), some (.int k), some (.bl b), some (.int c), none, none, none, none], ?_, ?_⟩
  ·refine ⟨_, rfl, _, rfl, a, _, rfl, .inl hS, _, _, rfl, rfl, _, rfl, ?_⟩
   refine ite2 (fun h => ?_) (fun h => ⟨0, rfl, rfl⟩)
   have h' : k < ns.length := by simpa using h
   have hk : (ns.map V.int)[k.toNat]? = some (.int ns[k.toNat]) := by
    rw [List.getElem?_map, List.getElem?_eq_getElem (by omega)]
    rfl
   have := atI_nat hk
   rw [show ((k.toNat : Nat) : Int) = k by omega] at this
   exact ⟨_, rfl, _, rfl, a, _, _, _, rfl, rfl, hS, this, _, rfl, rfl⟩
  ·rintro σ H1 ⟨c, rfl, rfl⟩
   refine ⟨_, rfl, _, _, rfl, rfl, ⟨by decide, by decide, by decide⟩, _, _, rfl, rfl, ⟨by decide, by decide, by decide⟩, _, _, rfl, rfl, mul120, _, _, rfl, rfl, ⟨by decide, by decide, by decide⟩, _, _, rfl, rfl, mul150, _, _, rfl, rfl, (by show (0 : Int) < 10 ^ Int.toNat 60 * 10 ^ Int.toNat 60 * 10 ^ Int.toNat 30; decide), ?_⟩
   refine ⟨fun σ H2 => ∃ dg : Int, H2 = H1 /\ σ = [some (.ref a), some (.int k), some (.bl b), some (.int c), some (.int dg), none, none, none], ?_, ?_⟩
   ·refine ⟨_, rfl, _, rfl, ?_⟩
    cases b with
    | false => exact iteF (iteF ⟨_, rfl, rfl⟩)
    | true =>
     refine iteT ⟨_, rfl, _, _, rfl, rfl, ⟨by decide, by decide, by decide⟩, _, _, rfl, rfl, _, rfl, ?_⟩
     refine ite2 (fun _ => ?_) (fun _ => ⟨_, rfl, rfl⟩)
     exact ⟨_, rfl, (by show 1 <= sizeLine; decide), fun p hp => q p _ hp⟩
   ·rintro σ H2 ⟨dg, rfl, rfl⟩
    refine ⟨_, rfl, _, rfl, a, _, rfl, .inl hS, _, _, rfl, rfl, _, _, rfl, rfl, (by show (0 : Int) < 2147483647; decide), ?_⟩
    refine ⟨16, rfl, by decide, by decide, for_range (n := 16) (fun i σ H3 => H3 = H2 /\ ∃ (mx cm : Int) (vj : Option V), σ = [some (.ref a), some (.int k), some (.bl b), some (.int c), some (.int dg), some (.int mx), some (.int cm), vj]) ⟨rfl, _, _, _, rfl⟩ ?_ ?_⟩
    ·rintro i σ H3 hi ⟨rfl, mx, cm, vj, rfl⟩
     refine ⟨_, rfl, _, _, rfl, rfl, .inr ⟨by decide, by decide⟩, _, rfl, _, rfl, _, _, rfl, rfl, .inl ⟨by omega, by omega⟩, _, _, rfl, rfl, _, rfl, _, _, rfl, rfl, .inl ⟨by decide, by decide⟩, _, _, rfl, rfl, _, _, rfl, rfl, _, _, rfl, rfl, (by show (0 : Int) < 2147483647; decide), ?_⟩
     exact ⟨_, rfl, _, _, rfl, rfl, .inr ⟨by decide, by decide⟩, _, rfl, _, _, rfl, rfl, rfl, _, _, _, rfl⟩
    ·rintro σ H3 ⟨rfl, mx, cm, vj, rfl⟩
     exact ⟨_, rfl, (by show 1 <= sizeLine; decide), fun p hp => q p _ hp⟩
theorem ok_check_table {f : Addr} {fd : FuncData} (F : Fun K "check_table" "check_table" s_check_table f fd) (bl : Blt mg)  : FnOk P w K mg base CX0 1 f fd ["rows"] (sp_check_table K) := by
 refine F.ok sc_check_table (fun vs H Q E h => ?_) (fun cdv A outer s H vs Q E hr h => ?_)
 ·obtain ⟨x, _, rfl, _⟩ := h; rfl
 ·obtain ⟨a, rows, rfl, ⟨vs, ha, ht⟩, sq, h9, q⟩ := h
  refine ⟨_, (pss_one (ps_if (pt_val (pe_callB (call_anyB rfl) rfl bl.any_ bt_any (pa_cons (pe_comp (own := ["row"]) (caps := [0]) (cns := ["rows"]) ⟨of_decide_eq_true rfl, rfl, of_decide_eq_true rfl, of_decide_eq_true rfl, of_decide_eq_true rfl, rfl, rfl, of_decide_eq_true rfl⟩ rfl (pi_list (pv 0)) (fun _ => (pg_name (i := 0) (of_decide_eq_true rfl) rfl (Or.inl rfl))) (fun _ => pcs_nil) (fun _ => (pe_cmpR op_ne (pe_callB call_len_seq rfl bl.len_ bt_len (pa_cons (pv 0) pa_nil)) (pe_callB call_len_seq rfl bl.len_ bt_len (pa_cons (pv 1) pa_nil)) (nomark _)))) pa_nil))) (pss_one ps_never) pss_nil)), ?_⟩
  refine tIfS_i (tB_i (tCB_i (tCons_i (tComp_i ?_))))
  refine ⟨_, rfl, a, rfl, ⟨_, SqL.of ha⟩, ?_⟩
  have hl := ht.len
  refine go_map (K := K) (xs := rows) (fun _ _ _ => True) isB (fun r => decide (r.length ≠ rows.length)) (fun _ _ _ _ _ h => h) (fun _ _ _ _ _ h => h) (SqL.of ha) (Paired.imp' (fun _ _ _ => trivial) ht) (Nat.lt_of_le_of_lt (m := 9) (by omega) (by decide)) ?_ ?_
  ·intro k i v r H1 hv hr s1 _ N hN
   obtain ⟨b, r', rfl, e, hb⟩ := (ht.mono s1).of hv
   rw [hr] at e
   injection e with e
   subst e
   refine ⟨_, rfl, b, _, rfl, .inl (SqL.of hb), _, rfl, a, _, rfl, .inl (SqL.of (s1 _ _ ha)), rfl, hN _ _ (fun _ _ z => z) ?_⟩
   show V.bl _ = V.bl _
   rw [List.length_map, hl, sq r (List.mem_of_getElem? hr)]
   simp
  ·intro D ys H1 hD s1 d1 p1
   rw [isB_map p1] at d1
   refine ⟨D, _, rfl, SqL.of d1, ?_⟩
   have e : (rows.map fun r => decide (r.length ≠ rows.length)).any id = false := by
    rw [List.any_map, List.any_eq_false]
    intro r hr
    simp [sq r hr]
   rw [e]
   exact ⟨_, rfl, iteF (q _ s1)⟩
theorem ok_first_with_a_head {f : Addr} {fd : FuncData} (F : Fun K "first_with_a_head" "first_with_a_head" s_first_with_a_head f fd) (bl : Blt mg)  : FnOk P w K mg base CX0 1 f fd ["rows"] (sp_first_with_a_head K) := by
 refine F.ok sc_first_with_a_head (fun vs H Q E h => ?_) (fun cdv A outer s H vs Q E hr h => ?_)
 ·obtain ⟨x, _, rfl, _⟩ := h; rfl
 ·obtain ⟨a, rows, rfl, ⟨vs, ha, ht⟩, h0, h9, q1, q2⟩ := h
  refine ⟨_, (pss_cons (ps_for PassesOwn.never rfl (pi_enum rfl bl.enumerate_ (pa_cons (pv 0) pa_nil)) (pg_tup rfl (pgs_cons (pg_name (i := 1) sc_first_with_a_head.nd rfl (Or.inl rfl)) (pgs_cons (pg_name (i := 2) sc_first_with_a_head.nd rfl (Or.inl rfl)) pgs_nil)))
   (pss_one (ps_if (pt_cmpR op_ne (pe_ix ix_list (pv 2) pe_int (fun _ _ => rfl)) pe_int (nomark _)) (pss_one (ps_ret (pv 1))) pss_nil)))
  (pss_one (ps_ret pe_non))), ?_⟩
  refine tSeq_i (tFor_i ?_)
  refine ⟨_, rfl, a, vs, rfl, SqL.of ha, gf_enum (K := K) (xs := vs) (fun i σ H1 => Same H H1 /\ (∀ j r, j < i -> rows[j]? = some r -> fn r 0 = 0) /\ ∃ v1 v2, σ = [some (.ref a), v1, v2]) ⟨fun _ _ z => z, fun j r h => absurd h (Nat.not_lt_zero _), _, _, rfl⟩ (fun i σ H1 _ h => SqL.of (h.1 _ _ ha)) ?_ ?_⟩
  ·rintro i v pe σ H1 hi ⟨s1, z1, v1, v2, rfl⟩ hpe
   have s2 := s1.trans (Same.new hpe (.tup [.int (i : Int), v]))
   obtain ⟨b, r, rfl, hr, hb⟩ := (ht.mono s2).of hi
   refine ⟨pe, _, rfl, SqT.of upd_same, rfl, _, _, rfl, _, _, rfl, rfl, ?_⟩
   generalize upd H1 pe (.tup [.int (i : Int), .ref b]) = H2 at *
   have r0 := h0 r (List.mem_of_getElem? hr)
   cases r with
   | nil => exact absurd r0 (Nat.lt_irrefl 0)
   | cons x r =>
    refine ⟨_, rfl, b, _, 0, .int x, rfl, rfl, SqL.of hb, atI_nat (j := 0) rfl, rfl, _, rfl, ?_⟩
    by_cases hx : x = 0
    ·subst hx
     refine iteNS rfl ⟨s2, fun j r' hj hr' => ?_, _, _, rfl⟩
     rcases Nat.lt_succ_iff_lt_or_eq.mp hj with hj | rfl
     ·exact z1 j r' hj hr'
     ·rw [hr] at hr'
      injection hr' with hr'
      subst hr'
      rfl
    ·have e : decide (V.int x = V.int 0) = false := decide_eq_false (fun h => hx (by injection h))
     rw [e]
     exact iteT ⟨_, rfl, q1 _ i _ s2 hr hx⟩
  ·rintro σ H1 ⟨s1, z1, v1, v2, rfl⟩
   refine q2 _ s1 fun r hr => ?_
   obtain ⟨j, hj⟩ := List.getElem?_of_mem hr
   have : j < rows.length := (List.getElem?_eq_some_iff.mp hj).1
   exact z1 j r (by rw [ht.len]; exact this) hj
theorem ok_reduced {f : Addr} {fd : FuncData} (F : Fun K "reduced" "reduced" s_reduced f fd) (bl : Blt mg)  : FnOk P w K mg base CX0 1 f fd ["row", "head", "divisor"] (sp_reduced K) := by
 refine F.ok sc_reduced (fun vs H Q E h => ?_) (fun cdv A outer s H vs Q E hr h => ?_)
 ·obtain ⟨x, _, _, _, _, rfl, _⟩ := h; rfl
 ·obtain ⟨x, h, xs, hs, d, rfl, hx, hh, el, h0, h9, d0, d1, bx, bh, q⟩ := h
  refine ⟨_, (pss_one (ps_ret (pe_comp (own := ["k"]) (caps := [2, 1, 0]) (cns := ["divisor", "head", "row"]) ⟨of_decide_eq_true rfl, rfl, of_decide_eq_true rfl, of_decide_eq_true rfl, of_decide_eq_true rfl, rfl, rfl, of_decide_eq_true rfl⟩ rfl (pi_range2 rfl bl.range_ (pa_cons pe_int (pa_cons (pe_callB call_len_seq rfl bl.len_ bt_len (pa_cons (pv 1) pa_nil)) pa_nil))) (fun _ => (pg_name (i := 0) (of_decide_eq_true rfl) rfl (Or.inl rfl))) (fun _ => pcs_nil) (fun _ => (pe_op op_fdivNB (pe_op op_sub (pe_op op_mulB (pe_ix ix_list (pv 2) pe_int (fun _ _ => rfl)) (pe_ix ix_list (pv 3) (pv 0) (fun _ _ => rfl))) (pe_op op_mulB (pe_ix ix_list (pv 3) pe_int (fun _ _ => rfl)) (pe_ix ix_list (pv 2) (pv 0) (fun _ _ => rfl)))) (pv 1)))))), ?_⟩
  refine tComp_i ?_
  refine ⟨_, rfl, h, _, rfl, .inl (SqL.of hh), 1, _, rfl, ⟨by omega, by omega, by omega, by rw [List.length_map]; omega⟩, ?_⟩
  have e1 : (((hs.map V.int).length : Int) - 1).toNat = hs.length - 1 := by rw [List.length_map]; omega
  rw [e1]
  refine go_mapR (fun j => (fn hs 0 * fn xs (j + 1) - fn xs 0 * fn hs (j + 1)).fdiv d) (Nat.lt_of_le_of_lt (m := 9) (by omega) (by decide)) ?_ ?_
  ·intro k i H1 hi s1 N hN
   have hx1 := s1 _ _ hx
   have hh1 := s1 _ _ hh
   refine ⟨_, rfl, h, _, 0, _, rfl, rfl, SqL.of hh1, atI_fn (j := 0) rfl h0, _, rfl, _, rfl, x, _, _, _, rfl, rfl, SqL.of hx1, atI_fn (j := i + 1) (by omega) (by omega), _, _, rfl, rfl, mul_ok (bh 0) (bx _), ?_⟩
   refine ⟨_, rfl, x, _, 0, _, rfl, rfl, SqL.of hx1, atI_fn (j := 0) rfl (by omega), _, rfl, _, rfl, h, _, _, _, rfl, rfl, SqL.of hh1, atI_fn (j := i + 1) (by omega) (by omega), _, _, rfl, rfl, mul_ok (bx 0) (bh _), ?_⟩
   exact ⟨_, _, rfl, rfl, _, rfl, _, _, rfl, rfl, ⟨d0, log2_lt_2000 d1⟩, hN _ fun _ _ z => z⟩
  ·intro D H1 hD s1 d1
   exact q D H1 s1 hD d1
open Det
structure At (H : Hp) (rows : List (List Int)) (H1 : Hp) (l : Addr) (P : List (List Int)) (left : List (List Int × List Int)) (sign last : Int) : Prop where
 sm : Same H H1
 new : H l = none
 tb : Tb H1 l (left.map (·.2))
 st : Stand P last left
 len : ∀ x ∈ left, x.2.length = left.length
 fr : ∀ x ∈ left, x.1 ∈ rows
 pr : ∀ r ∈ P, r ∈ rows
 many : P.length + left.length = rows.length
 val : det rows = sign * L (P.map fn ++ left.map fun x => fn x.1) (List.range rows.length)
 sgn : sign.natAbs <= 1
theorem At.le {H : Hp} {rows : List (List Int)} {H1 : Hp} {l : Addr} {P : List (List Int)} {left : List (List Int × List Int)} {sign last : Int} (a : At H rows H1 l P left sign last) (sq : Sq (10 ^ 41) rows) {x : List Int × List Int} (hx : x ∈ left) (j : Nat) : (fn x.2 j).natAbs < 2 ^ 2000 := by
 have hp : 0 < left.length := List.length_pos_of_mem hx
 have h := a.many
 have h9 := sq.2.1
 exact pw9 (a.st.le (N := 9) (fun r hr => sq.2.2 r (a.pr r hr)) (by omega) hx (sq.2.2 _ (a.fr x hx)) j) (by omega)
theorem At.last {H : Hp} {rows : List (List Int)} {H1 : Hp} {l : Addr} {P : List (List Int)} {left : List (List Int × List Int)} {sign last : Int} (a : At H rows H1 l P left sign last) (sq : Sq (10 ^ 41) rows) : last.natAbs < 2 ^ 2000 := by
 have h := a.many
 have h9 := sq.2.1
 exact pw9 (a.st.lastLe (N := 9) (fun r hr => sq.2.2 r (a.pr r hr)) (by omega)) (by omega)
theorem At.mono {H : Hp} {rows : List (List Int)} {H1 H2 : Hp} {l : Addr} {P : List (List Int)} {left : List (List Int × List Int)} {sign last : Int} (a : At H rows H1 l P left sign last) (s : Same H1 H2) : At H rows H2 l P left sign last :=
 ⟨a.sm.trans s, a.new, a.tb.mono s, a.st, a.len, a.fr, a.pr, a.many, a.val, a.sgn⟩
theorem one_lt : (1 : Nat) < 2 ^ 2000 := by decide +kernel
theorem ok_determinant {f : Addr} {fd : FuncData} (F : Fun K "determinant" "determinant" s_determinant f fd) (bl : Blt mg) (F_check_table : Fn P w K mg base 1 "check_table" ["rows"] (sp_check_table K)) (F_first_with_a_head : Fn P w K mg base 1 "first_with_a_head" ["rows"] (sp_first_with_a_head K)) (F_reduced : Fn P w K mg base 1 "reduced" ["row", "head", "divisor"] (sp_reduced K)) : FnOk P w K mg base CX0 2 f fd ["rows"] (sp_determinant K) := by
 refine F.ok sc_determinant (fun vs H Q E h => ?_) (fun cdv A outer s H vs Q E hr h => ?_)
 ·obtain ⟨x, _, rfl, _⟩ := h; rfl
 ·obtain ⟨a, rows, rfl, ht, sq, q⟩ := h
  refine ⟨_, (pss_cons (ps_expr (pe_callG F_check_table (hr.mono (by decide)) rfl (pa_cons (pv 0) pa_nil)))
  (pss_cons (ps_set (i := 1) sc_determinant.nd rfl (Or.inl rfl) (pe_callTy call_list_of rfl bl.list_ bt_list (pa_cons (pv 0) pa_nil)))
  (pss_cons (ps_set (i := 2) sc_determinant.nd rfl (Or.inl rfl) pe_int)
  (pss_cons (ps_set (i := 3) sc_determinant.nd rfl (Or.inr rfl) pe_int)
  (pss_cons (ps_while PassesOwn.never (pt_truth (pv 1) (fun _ => rfl))
   (pss_cons (ps_set (i := 4) sc_determinant.nd rfl (Or.inl rfl) (pe_callG F_first_with_a_head (hr.mono (by decide)) rfl (pa_cons (pv 1) pa_nil)))
   (pss_cons (ps_if (pt_cmpR op_isN (pv 4) pe_non (nomark _)) (pss_one (ps_ret pe_int)) pss_nil)
   (pss_cons (ps_join (ps_if (pt_cmpR op_eq (pe_op op_mod (pv 4) pe_int) pe_int (nomark _)) (pss_one (ps_set (i := 2) sc_determinant.nd rfl (Or.inl rfl) (pe_un un_neg (pv 2)))) pss_nil))
   (pss_cons (ps_set (i := 5) sc_determinant.nd rfl (Or.inr rfl) (pe_bm PySem.F.plainAttrs_list PySem.F.slot_list_pop PySem.F.type_list_pop mt_popAt (pv 1) (pa_cons (pv 4) pa_nil)))
   (pss_cons (ps_setComp (i := 1) (own := ["row"]) (caps := [5, 3]) (cns := ["head", "last"]) ⟨of_decide_eq_true rfl, rfl, of_decide_eq_true rfl, of_decide_eq_true rfl, of_decide_eq_true rfl, rfl, rfl, of_decide_eq_true rfl⟩ rfl sc_determinant.nd rfl rfl (pi_list (pv 1)) (fun _ => (pg_name (i := 0) (of_decide_eq_true rfl) rfl (Or.inl rfl))) (fun _ => pcs_nil) (fun _ => (pe_callG F_reduced (hr.mono (by decide)) rfl (pa_cons (pv 0) (pa_cons (pv 1) (pa_cons (pv 2) pa_nil))))) rfl)
   (pss_one (ps_set (i := 3) sc_determinant.nd rfl (Or.inr rfl) (pe_ix ix_list (pv 5) pe_int (fun _ _ => rfl))))))))))
  (pss_one (ps_ret (pe_op op_mulB (pv 2) (pv 3))))))))), ?_⟩
  have h9 := sq.2.1
  refine ⟨_, rfl, a, rows, rfl, ht, sq.1, sq.2.1, fun H1 s1 => ?_⟩
  obtain ⟨vs, ha, hts⟩ := ht.mono s1
  refine ⟨_, rfl, a, vs, rfl, .inl (SqL.of ha), fun l hl => ?_⟩
  have A0 : At H rows (upd H1 l (.lst vs)) l [] (rows.map fun r => (r, r)) 1 1 := by
   refine ⟨s1.trans (Same.new hl _), s1.free hl, ⟨vs, upd_same, ?_⟩, Stand.zero rows, ?_, ?_, fun r hr => (nomatch hr), by simp, ?_, by decide⟩
   ·rw [List.map_map]
    show Trs _ vs (rows.map fun r => r)
    rw [List.map_id']
    exact hts.mono (Same.new hl _)
   ·intro x hx
    obtain ⟨r, hr, rfl⟩ := List.mem_map.mp hx
    rw [List.length_map]
    exact sq.1 r hr
   ·intro x hx
    obtain ⟨r, hr, rfl⟩ := List.mem_map.mp hx
    exact hr
   ·rw [Int.one_mul, List.map_map]
    rfl
  generalize upd H1 l (.lst vs) = H2 at A0 ⊢
  generalize rows.map (fun r => (r, r)) = left0 at A0
  clear hts ha hl
  refine gName_i ?_
  dsimp only
  refine tSeq_i (tAsg_i ?_)
  refine gName_i ?_
  dsimp only
  refine tSeq_i (tAsg_i ?_)
  refine gName_i ?_
  dsimp only
  refine tSeq_i ?_
  refine ⟨fun m σ H3 => ∃ l P left sign last v4 v5, m = left.length /\ At H rows H3 l P left sign last /\ σ = [some (.ref a), some (.ref l), some (.int sign), some (.int last), v4, v5], ⟨_, l, [], left0, 1, 1, _, _, rfl, A0, rfl⟩, ?_⟩
  clear A0
  rintro m σ H3 ⟨l, P, left, sign, last, v4, v5, rfl, A, rfl⟩
  obtain ⟨vs, hl, hts⟩ := A.tb
  refine ⟨_, rfl, _, .inl ⟨vs, SqL.of hl, rfl⟩, ?_⟩
  have hlen : vs.length = left.length := by rw [hts.len, List.length_map]
  refine ite2 (fun hne => ?_) (fun he => ?_)
  rotate_left
  ·have v0 : vs = [] := by simpa using he
   rw [v0] at hlen
   have l0 : left = [] := List.length_eq_zero_iff.mp hlen.symm
   subst l0
   refine ⟨_, rfl, _, rfl, _, _, rfl, rfl, mul_ok (Nat.lt_of_le_of_lt A.sgn one_lt) (A.last sq), ?_⟩
   have m := A.many
   have v := A.val
   have e := A.st.lastEq
   rw [show P.length = rows.length from m] at e
   rw [List.map_nil, List.append_nil, <- e] at v
   rw [v] at q
   exact q _ A.sm
  have v0 : vs ≠ [] := by simpa using hne
  have l0 : 0 < left.length := by rw [<- hlen]; exact List.length_pos_iff.mpr v0
  refine ⟨fun σ' H' => ∃ l P left' sign last v4 v5, left'.length < left.length /\ At H rows H' l P left' sign last /\ σ' = [some (.ref a), some (.ref l), some (.int sign), some (.int last), v4, v5], fun σ' H' ⟨l, P, left', sign, last, v4, v5, h, A', e⟩ => ⟨left'.length, h, l, P, left', sign, last, v4, v5, rfl, A', e⟩, ?_⟩
  have mm := A.many
  refine tSeq_i (tAsg_i ?_)
  refine ⟨_, rfl, l, left.map (·.2), rfl, A.tb, ?_, by rw [List.length_map]; omega, fun H4 p r s4 hp hr0 => ?_, fun H4 s4 hz => ?_⟩
  ·intro r hr
   obtain ⟨x, hx, rfl⟩ := List.mem_map.mp hr
   rw [A.len x hx]
   exact l0
  ·have A4 := A.mono s4
   rw [List.getElem?_map] at hp
   obtain ⟨x, hx, rfl⟩ := Option.map_eq_some_iff.mp hp
   refine gName_i ?_
   dsimp only
   refine tSeq_i (tIfS_i (tTest_i ?_))
   refine ⟨_, rfl, rfl, _, rfl, ?_⟩
   rw [decide_eq_false (by intro e; cases e)]
   refine iteF ?_
   refine tNext_i ?_
   dsimp only
   refine tSeq_i ?_
   refine ⟨fun σ H5 => H5 = H4 /\ σ = [some (.ref a), some (.ref l), some (.int (sg p * sign)), some (.int last), some (.int p), v5], ?_, ?_⟩
   ·refine ⟨_, rfl, _, _, rfl, rfl, (by show (0 : Int) < 2; decide), rfl, _, rfl, ?_⟩
    refine ite2 (fun h => ?_) (fun h => ?_)
    ·have e : (p : Int) % 2 = 1 := by simpa using h
     refine ⟨_, rfl, _, rfl, rfl, ?_⟩
     rw [show sg p * sign = - sign by unfold sg; rw [e]; omega]
     rfl
    ·have e : ¬ (p : Int) % 2 = 1 := by simpa using h
     refine ⟨rfl, ?_⟩
     rw [show sg p * sign = sign by unfold sg; rw [show (p : Int) % 2 = 0 by omega]; omega]
     rfl
   rintro σ H5 ⟨rfl, rfl⟩
   obtain ⟨vs4, hl4, hts4⟩ := A4.tb
   have hlen4 : vs4.length = left.length := by rw [hts4.len, List.length_map]
   obtain ⟨b, hb, hRb⟩ := hts4.get (i := p) (r := x.2) (by rw [List.getElem?_map, hx]; rfl)
   have hpl : p < left.length := (List.getElem?_eq_some_iff.mp hx).1
   have hxm : x ∈ left := List.mem_of_getElem? hx
   dsimp only
   refine tSeq_i (tAsg_i ?_)
   refine ⟨_, rfl, .inl ⟨rfl, _, SqL.of hl4⟩, _, rfl, l, vs4, p, p, .ref b, rfl, rfl, hl4, by omega, by omega, seq_at (by omega), hb, ?_⟩
   have t6 : Paired (fun v (y : List Int × List Int) => Tr (upd H5 l (.lst (vs4.eraseIdx p))) v y.2) (vs4.eraseIdx p) (left.eraseIdx p) :=
    paired_erase p (paired_with (paired_map (f := fun y : List Int × List Int => y.2) hts4) fun v y hv h => h.upd hl4 hv)
   have b6 : Rw (upd H5 l (.lst (vs4.eraseIdx p))) b x.2 := by
    obtain ⟨b', e, h⟩ := Tr.upd (o := .lst (vs4.eraseIdx p)) ⟨b, rfl, hRb⟩ hl4 (List.mem_of_getElem? hb)
    cases e
    exact h
   have s6 : Same H (upd H5 l (.lst (vs4.eraseIdx p))) := A4.sm.at A.new _
   have l6 : upd H5 l (.lst (vs4.eraseIdx p)) l = some (.lst (vs4.eraseIdx p)) := upd_same
   generalize upd H5 l (.lst (vs4.eraseIdx p)) = H6 at *
   refine gName_i ?_
   dsimp only
   refine tSeq_i (tComp_i ?_)
   refine ⟨_, rfl, l, rfl, ⟨_, SqL.of l6⟩, ?_⟩
   have ez : (vs4.eraseIdx p).length < sizeLine := Nat.lt_of_le_of_lt (m := 9) (by rw [List.length_eraseIdx]; split <;> omega) (by decide)
   have em : ∀ y ∈ left.eraseIdx p, y ∈ left := fun y hy => List.mem_of_mem_eraseIdx hy
   refine go_mapN (K := K) (xs := left.eraseIdx p) (fun H v y => Tr H v y.2) Rw (fun y => less x.2 last y.2) (fun _ _ _ _ s h => h.mono s) stays_Rw (SqL.of l6) t6 ez ?_ ?_
   ·intro k i v y H7 hv hy s7 ht7 N hN
    obtain ⟨c, rfl, hc⟩ := ht7
    have hym := em y (List.mem_of_getElem? hy)
    refine ⟨_, rfl, _, rfl, _, rfl, c, b, y.2, x.2, last, rfl, hc, s7 _ _ b6, by rw [A.len y hym, A.len x hxm], by rw [A.len x hxm]; exact l0, by rw [A.len x hxm]; omega, A.st.nz, A.last sq, A.le sq hym, A.le sq hxm, fun u H8 s8 hu hR => ?_⟩
    exact hN u H8 s8 hu hR
   intro D ys H7 hD s7 d7 p7 nD
   refine ⟨_, rfl, b, _, 0, _, rfl, rfl, SqL.of (s7 _ _ b6), atI_fn (j := 0) rfl (by rw [A.len x hxm]; exact l0), ?_⟩
   have el : (left.eraseIdx p).length = left.length - 1 := by rw [List.length_eraseIdx, if_pos hpl]
   refine ⟨D, P ++ [x.1], (left.eraseIdx p).map fun y => (y.1, less x.2 last y.2), sg p * sign, fn x.2 0, _, _, by rw [List.length_map, el]; omega, ?_, rfl⟩
   refine ⟨s6.trans s7, s6.free hD, ⟨ys, d7, ?_⟩, A.st.step hxm hr0 (fun y hy => ⟨em y hy, by rw [A.len y (em y hy), A.len x hxm]⟩), ?_, ?_, ?_, ?_, ?_, ?_⟩
   ·rw [List.map_map]
    exact NewR.trs p7
   ·intro y hy
    obtain ⟨z, hz, rfl⟩ := List.mem_map.mp hy
    rw [List.length_map, el]
    show (less x.2 last z.2).length = _
    unfold less
    rw [List.length_map, List.length_range, A.len x hxm]
   ·intro y hy
    obtain ⟨z, hz, rfl⟩ := List.mem_map.mp hy
    exact A.fr z (em z hz)
   ·intro r hr
    rcases List.mem_append.mp hr with h | h
    ·exact A.pr r h
    ·rw [List.mem_singleton.mp h]
     exact A.fr x hxm
   ·rw [List.length_append, List.length_map, el]
    show P.length + 1 + (left.length - 1) = _
    omega
   ·rw [A.val, det_step hx, List.map_map, <- Int.mul_assoc, Int.mul_comm sign]
    rfl
   ·rw [Int.natAbs_mul]
    have h1 : (sg p).natAbs <= 1 := by unfold sg; omega
    exact Nat.le_trans (Nat.mul_le_mul h1 A.sgn) (by decide)
  ·refine gName_i ?_
   dsimp only
   refine tSeq_i (tIfS_i (tTest_i ?_))
   refine ⟨_, rfl, rfl, _, rfl, ?_⟩
   rw [decide_eq_true rfl]
   refine iteT ?_
   have d0 : det rows = 0 := by
    rw [A.val, <- A.many, A.st.nought (List.length_pos_iff.mp l0) (fun x hx => hz _ (List.mem_map.mpr ⟨x, hx, rfl⟩)), Int.mul_zero]
   rw [d0] at q
   exact q _ (A.sm.trans s4)
open Det
theorem ok_law_number {f : Addr} {fd : FuncData} (F : Fun K "_law_number" "_law_number" s_law_number f fd) (bl : Blt mg) (F_law_take : Fn P w K mg base 1 "_law_take" ["_law_draw", "_law_many"] (sp_law_take K)) : FnOk P w K mg base CX0 2 f fd ["_law_draw", "_law_way"] (sp_law_number K) := by
 refine F.ok sc_law_number (fun vs H Q E h => ?_) (fun cdv A outer s H vs Q E hr h => ?_)
 ·obtain ⟨x, _, _, rfl, _⟩ := h; rfl
 ·obtain ⟨p, a, y, rfl, hp, q⟩ := h
  refine ⟨_, (pss_cons (ps_if (pt_cmpR op_eq (pv 1) pe_int (nomark _)) (pss_one (ps_ret (pe_op op_sub (pe_callG F_law_take (hr.mono (by decide)) rfl (pa_cons (pv 0) (pa_cons pe_int pa_nil))) pe_int))) pss_nil)
  (pss_cons (ps_if (pt_cmpR op_eq (pv 1) pe_int (nomark _)) (pss_one (ps_ret (pe_op op_sub (pe_callG F_law_take (hr.mono (by decide)) rfl (pa_cons (pv 0) (pa_cons pe_int pa_nil))) pe_int))) pss_nil)
  (pss_one (ps_ret (pe_op op_mul (pe_op op_sub pe_int (pe_op op_mul pe_int (pe_callG F_law_take (hr.mono (by decide)) rfl (pa_cons (pv 0) (pa_cons pe_int pa_nil))))) (pe_callG F_law_take (hr.mono (by decide)) rfl (pa_cons (pv 0) (pa_cons (pe_op op_pow pe_int pe_int) pa_nil)))))))), ?_⟩
  refine ⟨_, rfl, rfl, _, rfl, ?_⟩
  refine ite2 (fun _ => ?_) (fun _ => ?_)
  ·refine ⟨_, rfl, p, a, 3, rfl, hp, by decide, by decide, fun a1 z z0 z1 => ?_⟩
   refine ⟨_, _, rfl, rfl, ?_⟩
   exact q _ _ (Nat.le_trans (m := 10) (by have : z < 3 := z1; show (z - 1).natAbs <= 10; omega) (by decide))
  refine ⟨_, rfl, rfl, _, rfl, ?_⟩
  refine ite2 (fun _ => ?_) (fun _ => ?_)
  ·refine ⟨_, rfl, p, a, 19, rfl, hp, by decide, by decide, fun a1 z z0 z1 => ?_⟩
   refine ⟨_, _, rfl, rfl, ?_⟩
   exact q _ _ (Nat.le_trans (m := 20) (by have : z < 19 := z1; show (z - 9).natAbs <= 20; omega) (by decide))
  refine tNext_i ?_
  refine ⟨_, rfl, p, a, 2, rfl, hp, by decide, by decide, fun a1 z z0 z1 => ?_⟩
  have z2 : z < 2 := z1
  refine ⟨_, _, rfl, rfl, .inl ⟨by decide, by decide⟩, _, _, rfl, rfl, ?_⟩
  refine ⟨_, rfl, _, _, rfl, rfl, ⟨by decide, by decide, by decide⟩, p, a1, _, rfl, upd_same, (by show (0 : Int) < 10 ^ Int.toNat 40; decide), (by show (10 : Int) ^ Int.toNat 40 < 2 ^ 200; decide), fun a2 y y0 y1 => ?_⟩
  have y2 : y < 10 ^ 40 := y1
  rw [upd_upd]
  refine ⟨_, _, rfl, rfl, .inl ⟨by omega, by omega⟩, ?_⟩
  refine q _ _ ?_
  show ((1 - 2 * z) * y).natAbs <= 10 ^ 40
  rcases (by omega : z = 0 \/ z = 1) with rfl | rfl
  ·rw [show (1 - 2 * (0 : Int)) * y = y by omega]
   omega
  ·rw [show (1 - 2 * (1 : Int)) * y = - y by omega]
   omega
theorem ok_law_by_rows {f : Addr} {fd : FuncData} (F : Fun K "_law_by_rows" "_law_by_rows" s_law_by_rows f fd) (bl : Blt mg)  (mkF : ∀ d sp, FnOk P w K mg base CX0 d f fd ["_law_rows", "_law_columns"] sp -> Fn P w K mg base d "_law_by_rows" ["_law_rows", "_law_columns"] sp) : FnOk P w K mg base CX0 7 f fd ["_law_rows", "_law_columns"] (sp_law_by_rows K) := by
 have key : ∀ m, FnOk P w K mg base CX0 m f fd ["_law_rows", "_law_columns"] (spBR K m) := by
  intro m
  induction m with
  | zero => exact ⟨fun vs H Q E h => by obtain ⟨_, _, _, _, _, _, _, _, h, _⟩ := h; exact absurd h (Nat.not_lt_zero _), fun A outer s H args us vs Q E _ _ _ _ h => by obtain ⟨_, _, _, _, _, _, _, _, h, _⟩ := h; exact absurd h (Nat.not_lt_zero _)⟩
  | succ m ih =>
   have F_law_by_rows := mkF _ _ ih
   refine F.ok sc_law_by_rows (fun vs H Q E h => ?_) (fun cdv A outer s H vs Q E hr h => ?_)
   ·obtain ⟨x, _, _, _, rfl, _⟩ := h; rfl
   ·obtain ⟨a, c, rows, cs, rfl, ⟨vs, ha, ht⟩, hc, el, hm, h7, hb, bd, q⟩ := h
    refine ⟨_, (pss_cons (ps_if (pt_cmpR (op_eqLL (hu64 hr)) (pv 0) (pe_lst pa_nil) (nomark _)) (pss_one (ps_ret pe_int)) pss_nil)
  (pss_cons (ps_set (i := 2) sc_law_by_rows.nd rfl (Or.inl rfl) pe_int)
  (pss_cons (ps_for PassesOwn.never rfl (pi_range1 rfl bl.range_ (pa_cons (pe_callB call_len_seq rfl bl.len_ bt_len (pa_cons (pv 1) pa_nil)) pa_nil)) (pg_name (i := 3) sc_law_by_rows.nd rfl (Or.inl rfl))
   (pss_cons (ps_set (i := 4) sc_law_by_rows.nd rfl (Or.inl rfl) (pe_op op_cat (pe_slice sl_list (pv 1) po_none (po_some (pv 3))) (pe_slice sl_list (pv 1) (po_some (pe_op op_add (pv 3) pe_int)) po_none)))
   (pss_one (ps_set (i := 2) sc_law_by_rows.nd rfl (Or.inl rfl) (pe_op op_add (pv 2) (pe_op op_mulB (pe_op op_mul (pe_op op_sub pe_int (pe_op op_mul pe_int (pe_op op_mod (pv 3) pe_int))) (pe_ix ix_list (pe_ix ix_list (pv 0) pe_int (fun _ _ => rfl)) (pe_ix ix_list (pv 1) (pv 3) (fun _ _ => rfl)) (fun _ _ => rfl))) (pe_callG F_law_by_rows hr rfl (pa_cons (pe_slice sl_list (pv 0) (po_some pe_int) po_none) (pa_cons (pv 4) pa_nil)))))))))
  (pss_one (ps_ret (pv 2)))))), ?_⟩
    refine tSeq_i (tIfS_i (tTest_i ?_))
    refine ⟨_, rfl, Nat.zero_le _, fun e he => ?_⟩
    have s1 := Same.new he (.lst [])
    refine ⟨a, e, vs, [], rows, [], rfl, rfl, SqL.of (s1 _ _ ha), ht.mono s1, SqL.of upd_same, .nil, _, rfl, ?_⟩
    generalize upd H e (.lst []) = H1 at *
    cases rows with
    | nil =>
     rw [decide_eq_true rfl]
     refine iteT ?_
     have c0 : cs = [] := List.length_eq_zero_iff.mp el.symm
     subst c0
     exact q _ s1
    | cons r rs =>
     rw [decide_eq_false (by intro h; cases h)]
     refine iteF ?_
     refine tNext_i ?_
     dsimp only
     refine tSeq_i (tAsg_i ?_)
     refine gName_i ?_
     dsimp only
     refine tSeq_i (tFor_i ?_)
     have el' : rs.length + 1 = cs.length := el
     have hm' : rs.length < m := Nat.lt_of_succ_lt_succ hm
     have nl : ((cs.map Int.ofNat).map V.int).length = cs.length := by simp
     refine ⟨_, rfl, c, _, rfl, .inl (SqL.of (s1 _ _ hc)), _, rfl, by omega, by omega, ?_⟩
     rw [show ((((cs.map Int.ofNat).map V.int).length : Int)).toNat = cs.length by rw [nl]; rfl]
     refine gf_range (n := cs.length) (fun i σ H2 => Same H H2 /\ ∃ v3 v4, σ = [some (.ref a), some (.ref c), some (.int (sumTo (tm (fn r) (L (rs.map fn)) cs) i)), v3, v4]) ⟨s1, _, _, rfl⟩ ?_ ?_
     ·rintro i σ H2 hi ⟨s2, v3, v4, rfl⟩
      refine gName_i ?_
      refine tSeq_i (tAsg_i ?_)
      have hc2 := s2 _ _ hc
      have c1 : cutV ((cs.map Int.ofNat).map V.int) none (some (0 + (i : Int))) = ((cs.take i).map Int.ofNat).map V.int := by
       rw [cut_to (k := i) (by omega) (by omega), <- List.map_take, <- List.map_take]
      have c2 : cutV ((cs.map Int.ofNat).map V.int) (some (0 + (i : Int) + 1)) none = ((cs.drop (i + 1)).map Int.ofNat).map V.int := by
       rw [cut_from (k := i + 1) (by omega) (by omega), <- List.map_drop, <- List.map_drop]
      refine ⟨_, rfl, _, rfl, _, rfl, c, _, rfl, SqL.of hc2, fun p1 hp1 => ?_⟩
      rw [c1]
      have s3 := Same.new hp1 (.lst (((cs.take i).map Int.ofNat).map V.int))
      have l3 : upd H2 p1 (.lst (((cs.take i).map Int.ofNat).map V.int)) p1 = some (.lst (((cs.take i).map Int.ofNat).map V.int)) := upd_same
      generalize upd H2 p1 (.lst (((cs.take i).map Int.ofNat).map V.int)) = H3 at s3 l3 ⊢
      refine ⟨_, rfl, _, rfl, _, _, rfl, rfl, _, rfl, c, _, rfl, SqL.of (s3 _ _ hc2), fun p2 hp2 => ?_⟩
      dsimp only
      rw [c2]
      have s4 := Same.new hp2 (.lst (((cs.drop (i + 1)).map Int.ofNat).map V.int))
      have l4 : upd H3 p2 (.lst (((cs.drop (i + 1)).map Int.ofNat).map V.int)) p2 = some (.lst (((cs.drop (i + 1)).map Int.ofNat).map V.int)) := upd_same
      generalize upd H3 p2 (.lst (((cs.drop (i + 1)).map Int.ofNat).map V.int)) = H4 at s4 l4 ⊢
      refine ⟨p1, p2, _, _, rfl, rfl, s4 _ _ l3, l4, Nat.le_trans (m := 100) (by simp only [List.length_map, List.length_take, List.length_drop]; omega) (by decide), fun p3 hp3 => ?_⟩
      rw [<- List.map_append, <- List.map_append]
      have s5 := Same.new hp3 (.lst (((cs.take i ++ cs.drop (i + 1)).map Int.ofNat).map V.int))
      have l5 : upd H4 p3 (.lst (((cs.take i ++ cs.drop (i + 1)).map Int.ofNat).map V.int)) p3 = some (.lst (((cs.take i ++ cs.drop (i + 1)).map Int.ofNat).map V.int)) := upd_same
      generalize upd H4 p3 (.lst (((cs.take i ++ cs.drop (i + 1)).map Int.ofNat).map V.int)) = H5 at s5 l5 ⊢
      have s25 := (s3.trans s4).trans s5
      have s05 := s2.trans s25
      have hc5 := s25 _ _ hc2
      have ha5 := s05 _ _ ha
      have ht5 := ht.mono s05
      obtain ⟨b, hvb, hRb⟩ := ht5.get (i := 0) (r := r) rfl
      refine gName_i ?_
      refine tAsg_i ?_
      have hic : cs[i]? = some cs[i] := List.getElem?_eq_getElem hi
      have hcl : cs[i] < r.length := hb r List.mem_cons_self _ (List.getElem_mem hi)
      refine ⟨_, rfl, _, rfl, _, _, rfl, rfl, (by show (0 : Int) < 2; decide), _, _, rfl, rfl, .inl ⟨by decide, by decide⟩, _, _, rfl, rfl, ?_⟩
      refine ⟨_, rfl, a, vs, 0, _, rfl, rfl, SqL.of ha5, atI_nat (j := 0) hvb, _, rfl, _, rfl, c, _, _, .int (Int.ofNat cs[i]), rfl, rfl, SqL.of hc5, ?_, b, _, _, _, rfl, rfl, SqL.of hRb, atI_fn (j := cs[i]) rfl hcl, ?_⟩
      ·rw [Int.zero_add]
       refine atI_nat ?_
       rw [List.getElem?_map, List.getElem?_map, hic]
       rfl
      have hx : ∀ z : Int, z.natAbs <= 10 ^ 41 -> z.natAbs < 2 ^ 2000 := fun z hz => Nat.lt_of_le_of_lt hz (by decide +kernel)
      have sg1 : (1 - 2 * ((0 + (i : Int)) % 2)).natAbs <= 1 := by omega
      refine ⟨_, _, rfl, rfl, .inl ⟨by omega, by omega⟩, ?_⟩
      refine ⟨_, rfl, 1, rfl, a, vs, rfl, SqL.of ha5, fun p4 hp4 => ?_⟩
      have hv : vs.length = rs.length + 1 := ht.len
      have c3 : cutV vs (some 1) none = vs.drop 1 := cut_from (k := 1) rfl (by omega)
      rw [c3]
      have s6 := Same.new hp4 (.lst (vs.drop 1))
      have t6 : Tb (upd H5 p4 (.lst (vs.drop 1))) p4 rs := by
       refine ⟨vs.drop 1, upd_same, ?_⟩
       have := ht5.mono s6
       cases this with
       | cons _ t => exact t
      have l6 := s6 _ _ l5
      generalize upd H5 p4 (.lst (vs.drop 1)) = H6 at s6 t6 l6 ⊢
      have rl : (cs.take i ++ cs.drop (i + 1)).length = rs.length := by
       rw [List.length_append, List.length_take, List.length_drop]
       omega
      refine ⟨_, rfl, p4, p3, rs, _, rfl, t6, l6, rl.symm, hm', by omega, ?_, fun y hy => bd y (List.mem_cons_of_mem _ hy), fun H7 s7 => ?_⟩
      ·intro y hy j hj
       refine hb y (List.mem_cons_of_mem _ hy) j ?_
       rcases List.mem_append.mp hj with h | h
       ·exact List.mem_of_mem_take h
       ·exact List.mem_of_mem_drop h
      have lL := L_le (B := 10 ^ 41) (N := 9) (rs.map fn) (cs.take i ++ cs.drop (i + 1)) (by
       intro y hy j
       obtain ⟨z, hz, rfl⟩ := List.mem_map.mp hy
       exact bd z (List.mem_cons_of_mem _ hz) j) (by rw [rl]; omega)
      rw [List.length_map] at lL
      have lr : ((1 - 2 * ((0 + (i : Int)) % 2)) * fn r cs[i]).natAbs <= 10 ^ 41 := by
       rw [Int.natAbs_mul]
       exact Nat.le_trans (Nat.mul_le_mul sg1 (bd r List.mem_cons_self _)) (by decide)
      refine ⟨_, _, rfl, rfl, mul_ok (hx _ lr) (pw9 lL (by omega)), _, _, rfl, rfl, ?_⟩
      refine ⟨(s05.trans s6).trans s7, some (.int (0 + (i : Int))), some (.ref p3), ?_⟩
      have val : sumTo (tm (fn r) (L (rs.map fn)) cs) (i + 1) = sumTo (tm (fn r) (L (rs.map fn)) cs) i + (1 - 2 * ((0 + (i : Int)) % 2)) * fn r cs[i] * L (rs.map fn) (cs.take i ++ cs.drop (i + 1)) := by
       show sumTo (tm (fn r) (L (rs.map fn)) cs) i + sg i * fn r (cs.getD i 0) * L (rs.map fn) (cs.take i ++ cs.drop (i + 1)) = _
       rw [List.getD_eq_getElem?_getD, hic, Int.zero_add]
       rfl
      rw [val]
      rfl
     ·rintro σ H2 ⟨s2, v3, v4, rfl⟩
      have e2 := E_sum (fn r) cs (L (rs.map fn))
      rw [<- e2]
      exact ⟨_, rfl, q _ s2⟩
 exact key 7
theorem ok_law_told {f : Addr} {fd : FuncData} (F : Fun K "_law_told" "_law_told" s_law_told f fd) (bl : Blt mg) (F_determinant : Fn P w K mg base 2 "determinant" ["rows"] (sp_determinant K)) : FnOk P w K mg base CX0 3 f fd ["_law_rows"] (sp_law_told K) := by
 refine F.ok sc_law_told (fun vs H Q E h => ?_) (fun cdv A outer s H vs Q E hr h => ?_)
 ·obtain ⟨x, _, rfl, _⟩ := h; rfl
 ·obtain ⟨a, rows, rfl, ⟨vs, ha, ht⟩, sq, q⟩ := h
  refine ⟨_, (pss_cons (ps_setComp (i := 1) (own := ["_law_row"]) (caps := []) (cns := []) ⟨of_decide_eq_true rfl, rfl, of_decide_eq_true rfl, of_decide_eq_true rfl, of_decide_eq_true rfl, rfl, rfl, of_decide_eq_true rfl⟩ rfl sc_law_told.nd rfl rfl (pi_list (pv 0)) (fun _ => (pg_name (i := 0) (of_decide_eq_true rfl) rfl (Or.inl rfl))) (fun _ => pcs_nil) (fun _ => (pe_callTy call_list_of rfl bl.list_ bt_list (pa_cons (pv 0) pa_nil))) rfl)
  (pss_cons (ps_set (i := 2) sc_law_told.nd rfl (Or.inl rfl) (pe_callG F_determinant (hr.mono (by decide)) rfl (pa_cons (pv 1) pa_nil)))
  (pss_cons (ps_if (PW.pt (pw_or (pt_cmpR (op_neLL (hu64 hr)) (pv 1) (pv 0) (nomark _)) (pw_or (pt_not (pt_val (pe_callB call_isinst rfl bl.isinstance_ bt_isinstance (pa_cons (pv 2) (pa_cons (pe_bltn (v := .ty "int") rfl bl.int_ bt_int rfl) pa_nil))))) (pw_or1 (pt_val (pe_callB call_isinst rfl bl.isinstance_ bt_isinstance (pa_cons (pv 2) (pa_cons (pe_bltn (v := .ty "bool") rfl bl.bool_ bt_bool rfl) pa_nil)))))))) (pss_one (ps_ret pe_non)) pss_nil)
  (pss_one (ps_ret (pv 2)))))), ?_⟩
  have hl := ht.len
  have h9 := sq.2.1
  refine tSeq_i (tComp_i ?_)
  refine ⟨_, rfl, a, rfl, ⟨_, SqL.of ha⟩, ?_⟩
  refine go_mapN (K := K) (xs := rows) (fun H v r => Tr H v r) Rw (fun r => r) (fun _ _ _ _ s h => h.mono s) stays_Rw (SqL.of ha) ht (Nat.lt_of_le_of_lt (m := 9) (by omega) (by decide)) ?_ ?_
  ·intro k i v r H1 hv hr s1 ht1 N hN
   obtain ⟨b, rfl, hb⟩ := ht1
   exact ⟨_, rfl, b, _, rfl, .inl (SqL.of hb), fun u hu => hN u _ (Same.new hu _) hu upd_same⟩
  intro D ys H1 hD s1 d1 p1 nD
  rw [List.map_id'] at p1
  have t1 : Tb H1 D rows := ⟨ys, d1, NewR.trs p1⟩
  refine ⟨_, rfl, D, rows, rfl, t1, sq, fun H2 s2 => ?_⟩
  refine gName_i ?_
  dsimp only
  refine tSeq_i (tIfS_i ?_)
  have s12 := s1.trans s2
  refine ⟨_, rfl, _, rfl, D, a, ys, vs, rows, rows, rfl, rfl, SqL.of (s2 _ _ d1), (NewR.trs p1).mono s2, SqL.of (s12 _ _ ha), ht.mono s12, _, rfl, iteNS rfl ?_⟩
  refine ⟨_, rfl, _, _, "int", true, rfl, .int _, kit_int_int K, true, rfl, iteF ?_⟩
  refine ⟨_, rfl, _, _, "bool", false, rfl, .int _, kit_int_bool K, _, rfl, iteF ?_⟩
  exact ⟨_, rfl, q _ s12⟩
open Det
theorem cut_ints (ns : List Int) (lo hi : Option Int) : ∃ ms : List Int, cutV (ns.map V.int) lo hi = ms.map V.int /\ ms.length <= ns.length := by
 unfold cutV
 rw [<- List.map_drop, <- List.map_take]
 refine ⟨_, rfl, ?_⟩
 rw [List.length_take, List.length_drop]
 omega
theorem ok_law_steady {f : Addr} {fd : FuncData} (F : Fun K "_law_steady" "_law_steady" s_law_steady f fd) (bl : Blt mg) (F_law_told : Fn P w K mg base 3 "_law_told" ["_law_rows"] (sp_law_told K)) : FnOk P w K mg base CX0 4 f fd ["_law_rows", "_law_script"] (sp_law_steady K) := by
 refine F.ok sc_law_steady (fun vs H Q E h => ?_) (fun cdv A outer s H vs Q E hr h => ?_)
 ·obtain ⟨x, _, _, _, rfl, _⟩ := h; rfl
 ·obtain ⟨a, b, rows, ns, rfl, ⟨vs, ha, ht⟩, sq, hS, h63, q⟩ := h
  refine ⟨_, (pss_cons (ps_set (i := 2) sc_law_steady.nd rfl (Or.inl rfl) (pe_callG F_law_told (hr.mono (by decide)) rfl (pa_cons (pv 0) pa_nil)))
  (pss_cons (ps_set (i := 3) sc_law_steady.nd rfl (Or.inr rfl) (pe_callB call_len_seq rfl bl.len_ bt_len (pa_cons (pv 0) pa_nil)))
  (pss_cons (ps_if (PW.pt (pw_or (pt_cmpR op_isN (pv 2) pe_non (nomark _)) (pw_or1 (pt_cmpR op_lt (pv 3) pe_int (nomark _))))) (pss_one (ps_ret (pe_cmpR op_notN (pv 2) pe_non (nomark _)))) pss_nil)
  (pss_cons (ps_for PassesOwn.never rfl (pi_list (pe_slice sl_list (pv 1) (po_some pe_int) (po_some pe_int))) (pg_name (i := 4) sc_law_steady.nd rfl (Or.inl rfl))
   (pss_cons (ps_set (i := 5) sc_law_steady.nd rfl (Or.inr rfl) (pe_op op_mod (pv 4) (pv 3)))
   (pss_cons (ps_set (i := 6) sc_law_steady.nd rfl (Or.inr rfl) (pe_op op_mod (pe_op op_add (pe_op op_add (pv 5) pe_int) (pe_op op_mod (pe_op op_fdiv (pv 4) (pv 3)) (pe_op op_sub (pv 3) pe_int))) (pv 3)))
   (pss_cons (ps_set (i := 7) sc_law_steady.nd rfl (Or.inr rfl) (pe_op op_sub (pe_op op_mod (pe_op op_fdiv (pv 4) pe_int) pe_int) pe_int))
   (pss_cons (ps_setComp (i := 8) (own := ["_law_row"]) (caps := []) (cns := []) ⟨of_decide_eq_true rfl, rfl, of_decide_eq_true rfl, of_decide_eq_true rfl, of_decide_eq_true rfl, rfl, rfl, of_decide_eq_true rfl⟩ rfl sc_law_steady.nd rfl rfl (pi_list (pv 0)) (fun _ => (pg_name (i := 0) (of_decide_eq_true rfl) rfl (Or.inl rfl))) (fun _ => pcs_nil) (fun _ => (pe_callTy call_list_of rfl bl.list_ bt_list (pa_cons (pv 0) pa_nil))) rfl)
   (pss_cons (ps_asg (pe_comp (own := ["_law_k"]) (caps := [7, 0, 5, 6]) (cns := ["_law_factor", "_law_rows", "_law_one", "_law_other"]) ⟨of_decide_eq_true rfl, rfl, of_decide_eq_true rfl, of_decide_eq_true rfl, of_decide_eq_true rfl, rfl, rfl, of_decide_eq_true rfl⟩ rfl (pi_range1 rfl bl.range_ (pa_cons (pv 3) pa_nil)) (fun _ => (pg_name (i := 0) (of_decide_eq_true rfl) rfl (Or.inl rfl))) (fun _ => pcs_nil) (fun _ => (pe_op op_add (pe_ix ix_list (pe_ix ix_list (pv 2) (pv 3) (fun _ _ => rfl)) (pv 0) (fun _ _ => rfl)) (pe_op op_mul (pv 1) (pe_ix ix_list (pe_ix ix_list (pv 2) (pv 4) (fun _ _ => rfl)) (pv 0) (fun _ _ => rfl)))))) (pg_sub (pv 8) (pv 5) set_list))
   (pss_cons (ps_if (pt_cmpR op_ne (pe_callG F_law_told (hr.mono (by decide)) rfl (pa_cons (pv 8) pa_nil)) (pv 2) (nomark _)) (pss_one (ps_ret pe_bl)) pss_nil)
   (pss_cons (ps_setComp (i := 8) (own := ["_law_row"]) (caps := []) (cns := []) ⟨of_decide_eq_true rfl, rfl, of_decide_eq_true rfl, of_decide_eq_true rfl, of_decide_eq_true rfl, rfl, rfl, of_decide_eq_true rfl⟩ rfl sc_law_steady.nd rfl rfl (pi_list (pv 0)) (fun _ => (pg_name (i := 0) (of_decide_eq_true rfl) rfl (Or.inl rfl))) (fun _ => pcs_nil) (fun _ => (pe_callTy call_list_of rfl bl.list_ bt_list (pa_cons (pv 0) pa_nil))) rfl)
   (pss_cons (ps_asg (pe_ix ix_list (pv 0) (pv 6) (fun _ _ => rfl)) (pg_sub (pv 8) (pv 5) set_list))
   (pss_cons (ps_asg (pe_ix ix_list (pv 0) (pv 5) (fun _ _ => rfl)) (pg_sub (pv 8) (pv 6) set_list))
   (pss_cons (ps_if (pt_cmpR op_ne (pe_callG F_law_told (hr.mono (by decide)) rfl (pa_cons (pv 8) pa_nil)) (pe_un un_neg (pv 2)) (nomark _)) (pss_one (ps_ret pe_bl)) pss_nil)
   (pss_cons (ps_setComp (i := 8) (own := ["_law_row"]) (caps := []) (cns := []) ⟨of_decide_eq_true rfl, rfl, of_decide_eq_true rfl, of_decide_eq_true rfl, of_decide_eq_true rfl, rfl, rfl, of_decide_eq_true rfl⟩ rfl sc_law_steady.nd rfl rfl (pi_list (pv 0)) (fun _ => (pg_name (i := 0) (of_decide_eq_true rfl) rfl (Or.inl rfl))) (fun _ => pcs_nil) (fun _ => (pe_callTy call_list_of rfl bl.list_ bt_list (pa_cons (pv 0) pa_nil))) rfl)
   (pss_cons (ps_asg (pe_comp (own := ["_law_number_here"]) (caps := [7]) (cns := ["_law_factor"]) ⟨of_decide_eq_true rfl, rfl, of_decide_eq_true rfl, of_decide_eq_true rfl, of_decide_eq_true rfl, rfl, rfl, of_decide_eq_true rfl⟩ rfl (pi_list (pe_ix ix_list (pv 0) (pv 5) (fun _ _ => rfl))) (fun _ => (pg_name (i := 0) (of_decide_eq_true rfl) rfl (Or.inl rfl))) (fun _ => pcs_nil) (fun _ => (pe_op op_mul (pv 1) (pv 0)))) (pg_sub (pv 8) (pv 5) set_list))
   (pss_one (ps_if (pt_cmpR op_ne (pe_callG F_law_told (hr.mono (by decide)) rfl (pa_cons (pv 8) pa_nil)) (pe_op op_mul (pv 7) (pv 2)) (nomark _)) (pss_one (ps_ret pe_bl)) pss_nil)))))))))))))))
  (pss_one (ps_ret (pe_cmpR op_eq (pe_callG F_law_told (hr.mono (by decide)) rfl (pa_cons (pe_comp (own := ["_law_j"]) (caps := [0, 3]) (cns := ["_law_rows", "_law_many"]) ⟨of_decide_eq_true rfl, rfl, of_decide_eq_true rfl, of_decide_eq_true rfl, of_decide_eq_true rfl, rfl, rfl, of_decide_eq_true rfl⟩ rfl (pi_range1 rfl bl.range_ (pa_cons (pv 3) pa_nil)) (fun _ => (pg_name (i := 0) (of_decide_eq_true rfl) rfl (Or.inr rfl))) (fun _ => pcs_nil) (fun _ => (pe_comp (own := ["_law_k"]) (caps := [0, 1]) (cns := ["_law_j", "_law_rows"]) ⟨of_decide_eq_true rfl, rfl, of_decide_eq_true rfl, of_decide_eq_true rfl, of_decide_eq_true rfl, rfl, rfl, of_decide_eq_true rfl⟩ rfl (pi_range1 rfl bl.range_ (pa_cons (pv 2) pa_nil)) (fun _ => (pg_name (i := 0) (of_decide_eq_true rfl) rfl (Or.inl rfl))) (fun _ => pcs_nil) (fun _ => (pe_ix ix_list (pe_ix ix_list (pv 2) (pv 0) (fun _ _ => rfl)) (pv 1) (fun _ _ => rfl)))))) pa_nil)) (pv 2) (nomark _)))))))), ?_⟩
  have sq1 : Sq (10 ^ 41) rows := sq.up (by decide)
  have h9 := sq.2.1
  have hl := ht.len
  refine ⟨_, rfl, a, rows, rfl, ⟨vs, ha, ht⟩, sq1, fun H1 s1 => ?_⟩
  refine ⟨_, rfl, a, vs, rfl, .inl (SqL.of (s1 _ _ ha)), ?_⟩
  rw [hl]
  refine gName_i ?_
  dsimp only
  refine tSeq_i (tIfS_i ?_)
  refine ⟨_, rfl, rfl, _, rfl, ?_⟩
  rw [decide_eq_false (by intro e; cases e)]
  refine iteF ?_
  refine ⟨_, rfl, _, _, rfl, rfl, _, rfl, ?_⟩
  refine ite2 (fun _ => ?_) (fun hn => ?_)
  ·refine ⟨_, rfl, rfl, ?_⟩
   rw [decide_eq_false (by intro e; cases e)]
   exact q _ s1
  have n2 : ¬ ((rows.length : Int) < 2) := by simpa using hn
  refine tNext_i ?_
  dsimp only
  refine tSeq_i (tFor_i ?_)
  obtain ⟨ms, em, lm⟩ := cut_ints ns (some 1) (some 7)
  refine ⟨_, rfl, 1, rfl, 7, rfl, b, _, rfl, s1.seq hS, fun r hr1 => ⟨r, rfl, ⟨_, SqL.of upd_same⟩, ?_⟩⟩
  rw [em]
  have s2 := s1.trans (Same.new hr1 (.lst (ms.map V.int)))
  have r2 : upd H1 r (.lst (ms.map V.int)) r = some (.lst (ms.map V.int)) := upd_same
  generalize upd H1 r (.lst (ms.map V.int)) = H2 at s2 r2 ⊢
  refine gf_list (K := K) (xs := ms.map V.int) (fun i σ H3 => Same H2 H3 /\ ∃ v4 v5 v6 v7 v8, σ = [some (.ref a), some (.ref b), some (.int (det rows)), some (.int rows.length), v4, v5, v6, v7, v8]) ⟨fun _ _ z => z, _, _, _, _, _, rfl⟩ (fun i σ H3 _ h => SqL.of (h.1 _ _ r2)) ?_ ?_
  ·rintro i0 xx σ H3 hi ⟨s3, v4, v5, v6, v7, v8, rfl⟩
   obtain ⟨z, _, rfl⟩ := List.mem_map.mp (List.mem_of_getElem? hi)
   have s03 := s2.trans s3
   have ha3 := s03 _ _ ha
   have ht3 := ht.mono s03
   refine gName_i ?_
   dsimp only
   refine tSeq_i (tAsg_i ?_)
   refine ⟨_, rfl, _, rfl, _, _, rfl, rfl, by omega, ?_⟩
   refine gName_i ?_
   dsimp only
   refine tSeq_i (tAsg_i ?_)
   refine ⟨_, rfl, _, _, rfl, rfl, _, rfl, _, rfl, _, _, rfl, rfl, ⟨by omega, by omega⟩, _, rfl, _, _, rfl, rfl, _, _, rfl, rfl, by omega, _, _, rfl, rfl, _, rfl, _, _, rfl, rfl, by omega, ?_⟩
   refine gName_i ?_
   dsimp only
   refine tSeq_i (tAsg_i ?_)
   refine ⟨_, rfl, _, _, rfl, rfl, ⟨by decide, by decide⟩, _, _, rfl, rfl, (by show (0 : Int) < 19; decide), _, _, rfl, rfl, ?_⟩
   have o0 : 0 <= z % (rows.length : Int) := Int.emod_nonneg _ (by omega)
   have o1 : z % (rows.length : Int) < rows.length := Int.emod_lt_of_pos _ (by omega)
   have t0 : 0 <= z / (rows.length : Int) % ((rows.length : Int) - 1) := Int.emod_nonneg _ (by omega)
   have t1 : z / (rows.length : Int) % ((rows.length : Int) - 1) < (rows.length : Int) - 1 := Int.emod_lt_of_pos _ (by omega)
   have one_ne := other_ne o0 o1 t0 t1
   have p0 : 0 <= (z % (rows.length : Int) + 1 + z / (rows.length : Int) % ((rows.length : Int) - 1)) % (rows.length : Int) := Int.emod_nonneg _ (by omega)
   have p1 : (z % (rows.length : Int) + 1 + z / (rows.length : Int) % ((rows.length : Int) - 1)) % (rows.length : Int) < rows.length := Int.emod_lt_of_pos _ (by omega)
   have f0 : 0 <= z / 100 % 19 := Int.emod_nonneg _ (by decide)
   have f1 : z / 100 % 19 < 19 := Int.emod_lt_of_pos _ (by decide)
   dsimp only
   generalize hone : z % (rows.length : Int) = one at *
   generalize hoth : (one + 1 + z / (rows.length : Int) % ((rows.length : Int) - 1)) % (rows.length : Int) = oth at *
   generalize hfac : z / 100 % 19 - 9 = fac at *
   have fb : fac.natAbs <= 9 := by omega
   obtain ⟨i, rfl⟩ := Int.eq_ofNat_of_zero_le o0
   obtain ⟨j, rfl⟩ := Int.eq_ofNat_of_zero_le p0
   have il : i < rows.length := by omega
   have jl : j < rows.length := by omega
   have ij : i ≠ j := by omega
   clear hone hoth hfac o0 o1 t0 t1 p0 p1 f0 f1 one_ne
   have hri : rows[i]? = some rows[i] := List.getElem?_eq_getElem il
   have hrj : rows[j]? = some rows[j] := List.getElem?_eq_getElem jl
   have ril := sq.1 _ (List.getElem_mem il)
   have rjl := sq.1 _ (List.getElem_mem jl)
   refine gName_i ?_
   refine tSeq_i (tComp_i ?_)
   refine ⟨_, rfl, a, rfl, ⟨_, SqL.of ha3⟩, ?_⟩
   refine go_copy ha3 ht3 h9 (fun k b' r' H4 N hb hN => ⟨_, rfl, b', _, rfl, .inl (SqL.of hb), hN⟩) ?_
   intro D ys H4 hD s4 d4 t4
   dsimp only
   refine tSeq_i (tAsg_i (tComp_i ?_))
   refine ⟨_, rfl, _, rfl, by omega, by omega, ?_⟩
   rw [show ((rows.length : Int)).toNat = rows.length from rfl]
   refine go_mapR (fun c => fn rows[i] c + fac * fn rows[j] c) (Nat.lt_of_le_of_lt h9 (by decide)) ?_ ?_
   ·intro k c H5 hc s5 N hN
    have s35 := s4.trans s5
    obtain ⟨bi, hbi, hRi⟩ := (ht3.mono s35).get hri
    obtain ⟨bj, hbj, hRj⟩ := (ht3.mono s35).get hrj
    have ha5 := s35 _ _ ha3
    refine ⟨_, rfl, _, rfl, a, vs, _, .ref bi, rfl, rfl, SqL.of ha5, atI_nat hbi, _, rfl, bi, _, _, _, rfl, rfl, SqL.of hRi, atI_fn (j := c) (by omega) (by omega), ?_⟩
    refine ⟨_, rfl, _, rfl, _, rfl, a, vs, _, .ref bj, rfl, rfl, SqL.of ha5, atI_nat hbj, _, rfl, bj, _, _, _, rfl, rfl, SqL.of hRj, atI_fn (j := c) (by omega) (by omega), ?_⟩
    exact ⟨_, _, rfl, rfl, .inl ⟨by omega, by omega⟩, _, _, rfl, rfl, hN _ fun _ _ z => z⟩
   intro u H5 hu s5 d5
   refine ⟨_, rfl, _, rfl, D, ys, _, i, rfl, rfl, s5 _ _ d4, ix_at rfl (by rw [t4.len]; exact il), ?_⟩
   have hx : fn ((List.range rows.length).map fun c => fn rows[i] c + fac * fn rows[j] c) = fun c => fn rows[i] c + fac * fn rows[j] c := fn_range fun c hc => by
    rw [fn_ge (by omega), fn_ge (by omega)]
    omega
   have hset := Tb.set i (s5 _ _ d4) (t4.mono s5) (show Rw H5 u ((List.range rows.length).map fun c => fn rows[i] c + fac * fn rows[j] c) from d5) (ne_of_none d4 hu).symm
   have s6 : Same H3 (upd H5 D (.lst (ys.set i (.ref u)))) := (s4.trans s5).at hD _
   generalize upd H5 D (.lst (ys.set i (.ref u))) = H6 at hset s6 ⊢
   have hsq : Sq (10 ^ 41) (rows.set i ((List.range rows.length).map fun c => fn rows[i] c + fac * fn rows[j] c)) := by
    refine sq1.set i (by simp) fun c => ?_
    rw [hx]
    have b1 := sq.2.2 _ (List.getElem_mem il) c
    have b2 := sq.2.2 _ (List.getElem_mem jl) c
    have b3 : (fac * fn rows[j] c).natAbs <= 9 * 10 ^ 40 := by
     rw [Int.natAbs_mul]
     exact Nat.mul_le_mul fb b2
    refine Nat.le_trans (Int.natAbs_add_le _ _) (Nat.le_trans (Nat.add_le_add b1 b3) (by decide))
   dsimp only
   refine tSeq_i (tIfS_i (tTest_i ?_))
   refine ⟨_, rfl, D, _, rfl, ⟨_, hset.1, hset.2⟩, hsq, fun H7 s7 => ?_⟩
   refine ⟨_, rfl, rfl, _, rfl, iteNS (congrArg V.int (det_add hri hrj ij fac hx)) ?_⟩
   have s07 := s6.trans s7
   clear hsq hset d5 d4 t4
   refine tNext_i ?_
   dsimp only
   refine tSeq_i (tComp_i ?_)
   have ha7 := s07 _ _ ha3
   have ht7 := ht3.mono s07
   refine ⟨_, rfl, a, rfl, ⟨_, SqL.of ha7⟩, ?_⟩
   refine go_copy ha7 ht7 h9 (fun k b' r' H4 N hb hN => ⟨_, rfl, b', _, rfl, .inl (SqL.of hb), hN⟩) ?_
   intro D2 ys2 H8 hD2 s8 d8 t8
   obtain ⟨bi, hbi, hRi⟩ := (ht7.mono s8).get hri
   obtain ⟨bj, hbj, hRj⟩ := (ht7.mono s8).get hrj
   have ha8 := s8 _ _ ha7
   have bi2 : bi ≠ D2 := by
    obtain ⟨bi', h1, h2⟩ := ht7.get hri
    rw [hbi] at h1
    cases h1
    exact ne_of_none h2 hD2
   have bj2 : bj ≠ D2 := by
    obtain ⟨bj', h1, h2⟩ := ht7.get hrj
    rw [hbj] at h1
    cases h1
    exact ne_of_none h2 hD2
   have a2 : a ≠ D2 := ne_of_none ha7 hD2
   dsimp only
   refine tSeq_i (tAsg_i ?_)
   refine ⟨_, rfl, _, rfl, a, vs, _, .ref bj, rfl, rfl, SqL.of ha8, atI_nat hbj, ?_⟩
   refine ⟨_, rfl, _, rfl, D2, ys2, _, i, rfl, rfl, d8, ix_at rfl (by rw [t8.len]; exact il), ?_⟩
   have hset1 := Tb.set i d8 t8 hRj bj2
   have hRi9 : Rw (upd H8 D2 (.lst (ys2.set i (.ref bj)))) bi rows[i] := by
    show upd H8 D2 _ bi = _
    rw [upd_ne bi2]
    exact hRi
   have ha9 : upd H8 D2 (.lst (ys2.set i (.ref bj))) a = some (.lst vs) := by rw [upd_ne a2]; exact ha8
   have s9 : Same H3 (upd H8 D2 (.lst (ys2.set i (.ref bj)))) := (s07.trans s8).at (s07.free hD2) _
   generalize upd H8 D2 (.lst (ys2.set i (.ref bj))) = H9 at hset1 hRi9 ha9 s9 ⊢
   dsimp only
   refine tSeq_i (tAsg_i ?_)
   refine ⟨_, rfl, _, rfl, a, vs, _, .ref bi, rfl, rfl, SqL.of ha9, atI_nat hbi, ?_⟩
   refine ⟨_, rfl, _, rfl, D2, _, _, j, rfl, rfl, hset1.1, ix_at rfl (by rw [List.length_set, t8.len]; exact jl), ?_⟩
   have hset2 := Tb.set j hset1.1 hset1.2 hRi9 bi2
   have s10 := s9.at (s07.free hD2) (.lst ((ys2.set i (.ref bj)).set j (.ref bi)))
   generalize upd H9 D2 (.lst ((ys2.set i (.ref bj)).set j (.ref bi))) = H10 at hset2 s10 ⊢
   have hsq2 : Sq (10 ^ 41) ((rows.set i rows[j]).set j rows[i]) := (sq1.set i rjl (sq1.2.2 _ (List.getElem_mem jl))).set j (by rw [List.length_set]; exact ril) (sq1.2.2 _ (List.getElem_mem il))
   dsimp only
   refine tSeq_i (tIfS_i (tTest_i ?_))
   refine ⟨_, rfl, D2, _, rfl, ⟨_, hset2.1, hset2.2⟩, hsq2, fun H11 s11 => ?_⟩
   refine ⟨_, rfl, _, rfl, rfl, _, rfl, iteNS (congrArg V.int (det_swap hri hrj ij)) ?_⟩
   have s311 := s10.trans s11
   clear hsq2 hset2 hset1 d8 t8 hRi9 ha9 hRi hRj ha8 hbi hbj bi2 bj2
   refine tNext_i ?_
   dsimp only
   refine tSeq_i (tComp_i ?_)
   have ha11 := s311 _ _ ha3
   have ht11 := ht3.mono s311
   refine ⟨_, rfl, a, rfl, ⟨_, SqL.of ha11⟩, ?_⟩
   refine go_copy ha11 ht11 h9 (fun k b' r' H4 N hb hN => ⟨_, rfl, b', _, rfl, .inl (SqL.of hb), hN⟩) ?_
   intro D3 ys3 H12 hD3 s12 d12 t12
   obtain ⟨bi, hbi, hRi⟩ := (ht11.mono s12).get hri
   dsimp only
   refine tSeq_i (tAsg_i (tComp_i ?_))
   refine ⟨_, rfl, _, rfl, a, vs, _, .ref bi, rfl, rfl, SqL.of (s12 _ _ ha11), atI_nat hbi, bi, rfl, ⟨_, SqL.of hRi⟩, ?_⟩
   refine go_map (K := K) (xs := rows[i]) isI isI (fun x => fac * x) stays_I stays_I (SqL.of hRi) (map_isI _) (Nat.lt_of_le_of_lt (m := 9) (by rw [List.length_map]; omega) (by decide)) ?_ ?_
   ·intro k c v x H13 hv hx s13 sv N hN
    cases (show v = V.int x from sv)
    exact ⟨_, rfl, _, rfl, _, _, rfl, rfl, .inl ⟨by omega, by omega⟩, hN _ _ (fun _ _ z => z) rfl⟩
   intro u ws H14 hu s14 d14 p14
   rw [isI_map p14] at d14
   refine ⟨_, rfl, _, rfl, D3, ys3, _, i, rfl, rfl, s14 _ _ d12, ix_at rfl (by rw [t12.len]; exact il), ?_⟩
   have hset3 := Tb.set i (s14 _ _ d12) (t12.mono s14) (show Rw H14 u (rows[i].map (fac * ·)) from d14) (ne_of_none d12 hu).symm
   have s15 : Same H3 (upd H14 D3 (.lst (ys3.set i (.ref u)))) := ((s311.trans s12).trans s14).at (s311.free hD3) _
   generalize upd H14 D3 (.lst (ys3.set i (.ref u))) = H15 at hset3 s15 ⊢
   have hsq3 : Sq (10 ^ 41) (rows.set i (rows[i].map (fac * ·))) := by
    refine sq1.set i (by rw [List.length_map]; exact ril) fun c => ?_
    rw [fn_smul]
    show (fac * fn rows[i] c).natAbs <= _
    rw [Int.natAbs_mul]
    exact Nat.le_trans (Nat.mul_le_mul fb (sq.2.2 _ (List.getElem_mem il) c)) (by decide)
   dsimp only
   refine tIfS_i (tTest_i ?_)
   refine ⟨_, rfl, D3, _, rfl, ⟨_, hset3.1, hset3.2⟩, hsq3, fun H16 s16 => ?_⟩
   refine ⟨_, rfl, _, rfl, _, _, rfl, rfl, .inl ⟨by omega, by omega⟩, rfl, _, rfl, iteNS (congrArg V.int (det_smul hri fac)) ?_⟩
   exact ⟨(s3.trans s15).trans s16, _, _, _, _, _, rfl⟩
  ·rintro σ H3 ⟨s3, v4, v5, v6, v7, v8, rfl⟩
   have s03 := s2.trans s3
   have ha3 := s03 _ _ ha
   have ht3 := ht.mono s03
   dsimp only
   refine tOp_i (tCall_i (tCons_i (tComp_i ?_)))
   refine ⟨_, rfl, _, rfl, by omega, by omega, ?_⟩
   rw [show ((rows.length : Int)).toNat = rows.length from rfl]
   refine go_mapRN Rw (fun j => (List.range rows.length).map fun i => at2 rows i j) stays_Rw (Nat.lt_of_le_of_lt h9 (by decide)) ?_ ?_
   ·intro k j H5 hj s5 N hN
    refine tComp_i ?_
    refine ⟨_, rfl, _, rfl, by omega, by omega, ?_⟩
    rw [show ((rows.length : Int)).toNat = rows.length from rfl]
    refine go_mapR (fun i => at2 rows i j) (Nat.lt_of_le_of_lt h9 (by decide)) ?_ ?_
    ·intro k2 i H6 hi s6 N6 hN6
     have s36 := s5.trans s6
     have hri : rows[i]? = some rows[i] := List.getElem?_eq_getElem hi
     obtain ⟨bi, hbi, hRi⟩ := (ht3.mono s36).get hri
     have e : at2 rows i j = fn rows[i] j := by
      unfold at2
      rw [List.getD_eq_getElem?_getD, hri]
      rfl
     rw [e] at hN6
     have ril := sq.1 _ (List.getElem_mem hi)
     exact ⟨_, rfl, _, rfl, a, vs, _, .ref bi, rfl, rfl, SqL.of (s36 _ _ ha3), by rw [Int.zero_add]; exact atI_nat hbi, _, rfl, bi, _, _, _, rfl, rfl, SqL.of hRi, atI_fn (j := j) (by omega) (by omega), hN6 _ fun _ _ z => z⟩
    ·intro D H6 hD s6 d6
     exact hN D H6 s6 hD d6
   intro D ys H5 hD s5 d5 p5 nD
   refine ⟨D, turned rows, rfl, ⟨ys, d5, NewR.trs p5⟩, sq1.turned, fun H6 s6 => ⟨_, rfl, rfl, ?_⟩⟩
   rw [det_turned, decide_eq_true rfl]
   exact q _ ((s03.trans s5).trans s6)
open Det
def isPu (H : Hp) (u : Addr) (_ : Unit) : Prop := ∃ x, H u = some (.lst [.int x])
theorem stays_Pu : StaysA isPu := ⟨fun H H' a b _ e ⟨x, h⟩ => ⟨x, e.trans h⟩, fun H a b ⟨x, h⟩ => ⟨_, h⟩⟩
theorem pu_of {H1 H : Hp} : ∀ {ys : List V} {l : List Unit}, Paired (NewR isPu H1 H) ys l -> ∀ v ∈ ys, Pu H1 H v
 | _, _, .nil, v, h => nomatch h
 | _, _, .cons ⟨a, e, n, x, h⟩ t, v, hv => by
  rcases List.mem_cons.mp hv with rfl | hv
  ·exact ⟨a, x, e, h, n⟩
  ·exact pu_of t v hv
theorem fn_tri (k : Nat) (r : List Int) (c : Nat) : fn (List.replicate k 0 ++ r.drop k) c = if c < k then 0 else fn r c := by
 unfold fn
 rw [List.getD_eq_getElem?_getD, List.getD_eq_getElem?_getD]
 by_cases h : c < k
 ·rw [if_pos h, List.getElem?_append_left (by simpa using h), List.getElem?_replicate, if_pos h]
  rfl
 ·rw [if_neg h, List.getElem?_append_right (by simp; omega), List.length_replicate, List.getElem?_drop, show k + (c - k) = c by omega]
theorem rep_tri (k : Nat) (r : List Int) : (List.replicate k [V.int 0]).flatten ++ (r.map V.int).drop k = (List.replicate k 0 ++ r.drop k).map V.int := by
 rw [List.map_append, List.map_drop]
 congr 1
 induction k with
 | zero => rfl
 | succ k ih => rw [List.replicate_succ, List.flatten_cons, ih, List.replicate_succ]; rfl
theorem ok_law {f : Addr} {fd : FuncData} (F : Fun K "law" "law" s_law f fd) (bl : Blt mg) (F_law_purse : Fn P w K mg base 1 "_law_purse" ["_law_script", "_law_k", "_law_plain"] (sp_law_purse K)) (F_law_take : Fn P w K mg base 1 "_law_take" ["_law_draw", "_law_many"] (sp_law_take K)) (F_law_number : Fn P w K mg base 2 "_law_number" ["_law_draw", "_law_way"] (sp_law_number K)) (F_law_told : Fn P w K mg base 3 "_law_told" ["_law_rows"] (sp_law_told K)) (F_law_by_rows : Fn P w K mg base 7 "_law_by_rows" ["_law_rows", "_law_columns"] (sp_law_by_rows K)) (F_law_steady : Fn P w K mg base 4 "_law_steady" ["_law_rows", "_law_script"] (sp_law_steady K)) : FnOk P w K mg base CX0 8 f fd ["_law_script"] (spLaw K) := by
 refine F.ok sc_law (fun vs H Q E h => ?_) (fun cdv A outer s H vs Q E hr h => ?_)
 ·obtain ⟨x, r, rfl, _⟩ := h; rfl
 ·obtain ⟨a, ns, rfl, hS, h63, q⟩ := h
  refine ⟨_, (pss_cons (ps_set (i := 1) sc_law.nd rfl (Or.inl rfl) (pe_callG F_law_purse (hr.mono (by decide)) rfl (pa_cons (pv 0) (pa_cons pe_int (pa_cons pe_bl pa_nil)))))
  (pss_cons (ps_join (ps_if (pt_cmpR op_eq (pe_callG F_law_take (hr.mono (by decide)) rfl (pa_cons (pv 1) (pa_cons pe_int pa_nil))) pe_int (nomark _)) (pss_one (ps_set (i := 1) sc_law.nd rfl (Or.inl rfl) (pe_callG F_law_purse (hr.mono (by decide)) rfl (pa_cons (pv 0) (pa_cons pe_int (pa_cons pe_bl pa_nil)))))) pss_nil))
  (pss_cons (ps_set (i := 2) sc_law.nd rfl (Or.inr rfl) (pe_callG F_law_take (hr.mono (by decide)) rfl (pa_cons (pv 1) (pa_cons pe_int pa_nil))))
  (pss_cons (ps_set (i := 3) sc_law.nd rfl (Or.inr rfl) (pe_callG F_law_take (hr.mono (by decide)) rfl (pa_cons (pv 1) (pa_cons pe_int pa_nil))))
  (pss_cons (ps_join (ps_if (pt_cmpR op_eq (pe_callG F_law_take (hr.mono (by decide)) rfl (pa_cons (pv 1) (pa_cons pe_int pa_nil))) pe_int (nomark _)) (pss_one (ps_set (i := 3) sc_law.nd rfl (Or.inr rfl) (pe_op op_add pe_int (pe_callG F_law_take (hr.mono (by decide)) rfl (pa_cons (pv 1) (pa_cons pe_int pa_nil)))))) pss_nil))
  (pss_cons (ps_set (i := 4) sc_law.nd rfl (Or.inl rfl) (pe_lst pa_nil))
  (pss_cons (ps_for PassesOwn.never rfl (pi_range1 rfl bl.range_ (pa_cons (pv 3) pa_nil)) (pg_name (i := 5) sc_law.nd rfl (Or.inr rfl))
   (pss_cons (ps_setComp (i := 6) (own := ["_law_j"]) (caps := [0, 3, 5]) (cns := ["_law_script", "_law_many", "_law_k"]) ⟨of_decide_eq_true rfl, rfl, of_decide_eq_true rfl, of_decide_eq_true rfl, of_decide_eq_true rfl, rfl, rfl, of_decide_eq_true rfl⟩ rfl sc_law.nd rfl rfl (pi_range1 rfl bl.range_ (pa_cons (pv 3) pa_nil)) (fun _ => (pg_name (i := 0) (of_decide_eq_true rfl) rfl (Or.inl rfl))) (fun _ => pcs_nil) (fun _ => (pe_callG F_law_purse (hr.mono (by decide)) rfl (pa_cons (pv 1) (pa_cons (pe_op op_add (pe_op op_add pe_int (pe_op op_mul (pv 2) (pv 3))) (pv 0)) (pa_cons pe_bl pa_nil))))) rfl)
   (pss_one (ps_expr (pe_bm PySem.F.plainAttrs_list PySem.F.slot_list_append PySem.F.type_list_append mt_append (pv 4) (pa_cons (pe_comp (own := ["_law_purse_here"]) (caps := [2]) (cns := ["_law_way"]) ⟨of_decide_eq_true rfl, rfl, of_decide_eq_true rfl, of_decide_eq_true rfl, of_decide_eq_true rfl, rfl, rfl, of_decide_eq_true rfl⟩ rfl (pi_list (pv 6)) (fun _ => (pg_name (i := 0) (of_decide_eq_true rfl) rfl (Or.inl rfl))) (fun _ => pcs_nil) (fun _ => (pe_callG F_law_number (hr.mono (by decide)) rfl (pa_cons (pv 0) (pa_cons (pv 1) pa_nil))))) pa_nil))))))
  (pss_cons (ps_join (ps_if (PW.pt (pw_and (pt_cmpR op_lt (pv 3) pe_int (nomark _)) (pw_and1 (pt_cmpR op_ne (pe_callG F_law_told (hr.mono (by decide)) rfl (pa_cons (pv 4) pa_nil)) (pe_callG F_law_by_rows (hr.mono (by decide)) rfl (pa_cons (pv 4) (pa_cons (pe_listrange rfl rfl bl.list_ rfl bl.range_ (pv 3)) pa_nil))) (nomark _))))) (pss_one (ps_ret pe_bl)) pss_nil))
  (pss_cons (ps_join (ps_if (pt_cmpR op_gt (pv 3) pe_int (nomark _)) (pss_cons (ps_for PassesOwn.never rfl (pi_range1 rfl bl.range_ (pa_cons (pv 3) pa_nil)) (pg_name (i := 5) sc_law.nd rfl (Or.inr rfl))
    (pss_one (ps_asg (pe_op op_cat (pe_op op_rep (pe_lst (pa_cons pe_int pa_nil)) (pv 5)) (pe_slice sl_list (pe_ix ix_list (pv 4) (pv 5) (fun _ _ => rfl)) (po_some (pv 5)) po_none)) (pg_sub (pv 4) (pv 5) set_list))))
   (pss_cons (ps_set (i := 7) sc_law.nd rfl (Or.inl rfl) pe_int)
   (pss_cons (ps_for PassesOwn.never rfl (pi_range1 rfl bl.range_ (pa_cons (pv 3) pa_nil)) (pg_name (i := 5) sc_law.nd rfl (Or.inr rfl))
    (pss_one (ps_set (i := 7) sc_law.nd rfl (Or.inl rfl) (pe_op op_mulB (pv 7) (pe_ix ix_list (pe_ix ix_list (pv 4) (pv 5) (fun _ _ => rfl)) (pv 5) (fun _ _ => rfl))))))
   (pss_one (ps_if (pt_cmpR op_ne (pe_callG F_law_told (hr.mono (by decide)) rfl (pa_cons (pv 4) pa_nil)) (pv 7) (nomark _)) (pss_one (ps_ret pe_bl)) pss_nil))))) pss_nil))
  (pss_one (ps_ret (pe_callG F_law_steady (hr.mono (by decide)) rfl (pa_cons (pv 4) (pa_cons (pv 0) pa_nil)))))))))))))), ?_⟩
  refine ⟨_, rfl, a, ns, 0, true, rfl, hS, Int.le_refl 0, by decide, fun p0 x0 hp0 => ?_⟩
  refine ⟨fun σ H1 => ∃ p x, Same H H1 /\ H p = none /\ H1 p = some (.lst [.int x]) /\ σ = [some (.ref a), some (.ref p), none, none, none, none, none, none], ?_, ?_⟩
  ·refine ⟨_, rfl, p0, x0, 2, rfl, upd_same, by decide, by decide, fun x1 z1 _ _ => ?_⟩
   rw [upd_upd]
   have s1 := Same.new hp0 (.lst [.int x1])
   refine ⟨rfl, _, rfl, ?_⟩
   refine ite2 (fun _ => ?_) (fun _ => ⟨p0, x1, s1, hp0, upd_same, rfl⟩)
   refine ⟨_, rfl, a, ns, 0, false, rfl, s1.seq hS, Int.le_refl 0, by decide, fun p2 x2 hp2 => ?_⟩
   exact ⟨p2, x2, s1.trans (Same.new hp2 _), s1.free hp2, upd_same, rfl⟩
  clear hp0
  rintro σ H1 ⟨p, x, s1, hp, l1, rfl⟩
  refine ⟨_, rfl, p, x, 3, rfl, l1, by decide, by decide, fun x2 way _ _ => ?_⟩
  have s2 : Same H (upd H1 p (.lst [.int x2])) := s1.at hp _
  have l2 : upd H1 p (.lst [.int x2]) p = some (.lst [.int x2]) := upd_same
  generalize upd H1 p (.lst [.int x2]) = H2 at s2 l2 ⊢
  refine ⟨_, rfl, p, x2, 6, rfl, l2, by decide, by decide, fun x3 m m0 m1 => ?_⟩
  have s3 : Same H (upd H2 p (.lst [.int x3])) := s2.at hp _
  have l3 : upd H2 p (.lst [.int x3]) p = some (.lst [.int x3]) := upd_same
  generalize upd H2 p (.lst [.int x3]) = H3 at s3 l3 ⊢
  have m1' : m < 6 := m1
  refine ⟨fun σ H4 => Same H H4 /\ ∃ n : Nat, n <= 9 /\ σ = [some (.ref a), some (.ref p), some (.int way), some (.int n), none, none, none, none], ?_, ?_⟩
  ·refine ⟨_, rfl, p, x3, 4, rfl, l3, by decide, by decide, fun x4 z4 _ _ => ?_⟩
   have s4 : Same H (upd H3 p (.lst [.int x4])) := s3.at hp _
   have l4 : upd H3 p (.lst [.int x4]) p = some (.lst [.int x4]) := upd_same
   generalize upd H3 p (.lst [.int x4]) = H4 at s4 l4 ⊢
   refine ⟨rfl, _, rfl, ?_⟩
   refine ite2 (fun _ => ?_) (fun _ => ?_)
   ·refine ⟨_, rfl, p, x4, 4, rfl, l4, by decide, by decide, fun x5 z5 z50 z51 => ?_⟩
    have z52 : z5 < 4 := z51
    obtain ⟨k, rfl⟩ := Int.eq_ofNat_of_zero_le z50
    exact ⟨_, _, rfl, rfl, s4.at hp _, 6 + k, by omega, rfl⟩
   ·obtain ⟨k, rfl⟩ := Int.eq_ofNat_of_zero_le m0
    exact ⟨s4, k, by omega, rfl⟩
  clear l3 s3 l2 s2 l1 s1
  rintro σ H4 ⟨s4, n, n9, rfl⟩
  refine ⟨Nat.zero_le _, fun r hr4 => ?_⟩
  have s5 := s4.trans (Same.new hr4 (.lst []))
  have hr0 := s4.free hr4
  have r5 : upd H4 r (.lst []) r = some (.lst []) := upd_same
  generalize upd H4 r (.lst []) = H5 at s5 r5 ⊢
  refine gName_i ?_
  dsimp only
  refine tSeq_i (tFor_i ?_)
  refine ⟨_, rfl, _, rfl, by omega, by omega, ?_⟩
  rw [show ((n : Int)).toNat = n from rfl]
  refine gf_range (n := n) (fun i σ H6 => ∃ rows v5 v6, Same H H6 /\ Tb H6 r rows /\ rows.length = i /\ (∀ y ∈ rows, y.length = n) /\ (∀ y ∈ rows, ∀ j, (fn y j).natAbs <= 10 ^ 40) /\ σ = [some (.ref a), some (.ref p), some (.int way), some (.int n), some (.ref r), v5, v6, none]) ⟨[], _, _, s5, ⟨[], r5, .nil⟩, rfl, fun y h => (nomatch h), fun y h => (nomatch h), rfl⟩ ?_ ?_
  ·rintro i σ H6 hi ⟨rows, v5, v6, s6, ⟨vs, hr6, ht6⟩, rl, yl, yb, rfl⟩
   refine gName_i ?_
   dsimp only
   refine tSeq_i (tComp_i ?_)
   refine ⟨_, rfl, _, rfl, by omega, by omega, ?_⟩
   rw [show ((n : Int)).toNat = n from rfl]
   have nk : (n : Int) * (0 + (i : Int)) <= 9 * 9 := Int.mul_le_mul (by omega) (by omega) (by omega) (by decide)
   have nk0 : (0 : Int) <= (n : Int) * (0 + (i : Int)) := Int.mul_nonneg (by omega) (by omega)
   refine go_mapRN isPu (fun _ => ()) stays_Pu (Nat.lt_of_le_of_lt n9 (by decide)) ?_ ?_
   ·intro k j H7 hj s7 N hN
    exact ⟨_, rfl, _, rfl, _, rfl, _, _, rfl, rfl, .inl ⟨by omega, by omega⟩, _, _, rfl, rfl, _, rfl, _, _, rfl, rfl, a, ns, _, true, rfl, (s6.trans s7).seq hS, by omega, by omega, fun p1 x1 hp1 => hN p1 _ (Same.new hp1 _) hp1 ⟨x1, upd_same⟩⟩
   intro D us H7 hD s7 d7 p7 nD
   have pl := Paired.length p7
   rw [List.length_map, List.length_range] at pl
   dsimp only
   have hr7 := s7 _ _ hr6
   refine ⟨_, rfl, .inl ⟨rfl, _, SqL.of hr7⟩, ?_⟩
   refine tCons_i (tComp_i ?_)
   refine ⟨_, rfl, D, rfl, ⟨_, SqL.of d7⟩, ?_⟩
   refine go_nums (K := K) (H0 := H6) (10 ^ 40) d7 (Nat.lt_of_le_of_lt (m := 9) (by omega) (by decide)) (pu_of p7) s7 (fun k p1 x1 H8 N hp1 hN => ⟨_, rfl, _, rfl, p1, x1, way, rfl, hp1, hN⟩) ?_
   intro D2 zs H8 hD2 s8 d8 zl zb
   have hr8 := s8 _ _ hr6
   have vl := ht6.len
   refine ⟨r, vs, .ref D2, rfl, rfl, hr8, Nat.lt_of_le_of_lt (m := 9) (by omega) (by decide), ?_⟩
   refine ⟨rows ++ [zs], _, _, (s6.trans s8).at hr0 _, ⟨vs ++ [.ref D2], upd_same, ?_⟩, by simp [rl], ?_, ?_, rfl⟩
   ·refine paired_append (.cons ⟨D2, rfl, ?_⟩ .nil) (paired_with (ht6.mono s8) fun v y hv h => h.upd hr8 hv)
    show upd H8 r _ D2 = _
    rw [upd_ne (ne_of_none hr6 hD2).symm]
    exact d8
   ·intro y hy
    rcases List.mem_append.mp hy with h | h
    ·exact yl y h
    ·rw [List.mem_singleton.mp h, zl, pl]
   ·intro y hy j
    rcases List.mem_append.mp hy with h | h
    ·exact yb y h j
    ·rw [List.mem_singleton.mp h]
     by_cases hj : j < zs.length
     ·unfold fn
      rw [List.getD_eq_getElem?_getD, List.getElem?_eq_getElem hj]
      exact zb _ (List.getElem_mem hj)
     ·rw [fn_ge (by omega)]
      exact Nat.zero_le _
  ·rintro σ H6 ⟨rows, v5, v6, s6, ht6, rl, yl, yb, rfl⟩
   have sq : Sq (10 ^ 40) rows := ⟨fun y hy => by rw [yl y hy, rl], by omega, yb⟩
   dsimp only
   refine tSeq_i ?_
   refine ⟨fun σ H7 => Same H H7 /\ Tb H7 r rows /\ σ = [some (.ref a), some (.ref p), some (.int way), some (.int n), some (.ref r), v5, v6, none], ?_, ?_⟩
   ·refine ⟨_, rfl, _, _, rfl, rfl, _, rfl, ?_⟩
    refine ite2 (fun hm => ?_) (fun _ => iteF ⟨s6, ht6, rfl⟩)
    have n6' : (n : Int) < 6 := by simpa using hm
    have n6 : n < 6 := by omega
    refine ⟨_, rfl, r, rows, rfl, ht6, sq.up (by decide), fun H7 s7 => ?_⟩
    refine ⟨_, rfl, _, rfl, n, rfl, by omega, fun l hl => ?_⟩
    have s8 := s7.trans (Same.new hl (.lst ((cnt n).map V.int)))
    refine ⟨r, l, rows, List.range n, rfl, ht6.mono s8, upd_same, by simp [rl], by omega, by decide, fun y hy j hj => ?_, fun y hy j => Nat.le_trans (yb y hy j) (by decide), fun H9 s9 => ?_⟩
    ·rw [yl y hy]
     exact List.mem_range.mp hj
    ·refine ⟨rfl, _, rfl, iteNS (congrArg V.int ?_) ⟨(s6.trans s8).trans s9, (ht6.mono s8).mono s9, rfl⟩⟩
     unfold det
     rw [rl]
   clear s6 ht6
   rintro σ H6 ⟨s6, ht6, rfl⟩
   dsimp only
   refine tSeq_i ?_
   refine ⟨fun σ H7 => ∃ rows v5 v6 v7, Same H H7 /\ Tb H7 r rows /\ Sq (10 ^ 40) rows /\ σ = [some (.ref a), some (.ref p), some (.int way), some (.int n), some (.ref r), v5, v6, v7], ?_, ?_⟩
   ·refine ⟨_, rfl, _, _, rfl, rfl, _, rfl, ?_⟩
    refine ite2 (fun hm => ?_) (fun _ => ⟨rows, _, _, _, s6, ht6, sq, rfl⟩)
    refine tSeq_i (tFor_i ?_)
    refine ⟨_, rfl, _, rfl, by omega, by omega, ?_⟩
    rw [show ((n : Int)).toNat = n from rfl]
    refine gf_range (n := n) (fun i σ H7 => ∃ rows v5, Same H H7 /\ Tb H7 r rows /\ Sq (10 ^ 40) rows /\ rows.length = n /\ (∀ (j : Nat) y, j < i -> rows[j]? = some y -> ∀ c, c < j -> fn y c = 0) /\ σ = [some (.ref a), some (.ref p), some (.int way), some (.int n), some (.ref r), v5, v6, none]) ⟨rows, _, s6, ht6, sq, rl, fun j y h => absurd h (Nat.not_lt_zero _), rfl⟩ ?_ ?_
    ·clear s6 ht6 sq rl yl yb
     rintro i σ H7 hi ⟨rows, v5, s7, ⟨vs, hr7, ht7⟩, sq, rl, tz, rfl⟩
     refine gName_i ?_
     refine tAsg_i ?_
     have vl := ht7.len
     have hri : rows[i]? = some rows[i] := List.getElem?_eq_getElem (by omega)
     have ril := sq.1 _ (List.getElem_mem (by omega : i < rows.length))
     refine ⟨(by show 1 <= sizeLine; decide), fun l1 hl1 => ?_⟩
     have s8 := Same.new hl1 (.lst [V.int 0])
     refine ⟨_, rfl, l1, 0 + (i : Int), _, rfl, rfl, upd_same, by omega, by omega, Nat.le_trans (m := 9) (by show 1 * _ <= 9; omega) (by decide), fun l2 hl2 => ?_⟩
     generalize upd H7 l1 (.lst [V.int 0]) = H8 at s8 hl2 ⊢
     have e0 : (0 + (i : Int)).toNat = i := by omega
     rw [e0]
     have s9 := s8.trans (Same.new hl2 (.lst (List.replicate i [V.int 0]).flatten))
     have k2 : upd H8 l2 (.lst (List.replicate i [V.int 0]).flatten) l2 = some (.lst (List.replicate i [V.int 0]).flatten) := upd_same
     generalize upd H8 l2 (.lst (List.replicate i [V.int 0]).flatten) = H9 at s9 k2 ⊢
     obtain ⟨b, hb, hRb⟩ := (ht7.mono s9).get hri
     have c1 : cutV (rows[i].map V.int) (some (0 + (i : Int))) none = (rows[i].map V.int).drop i := cut_from (by omega) (by rw [List.length_map]; omega)
     refine ⟨_, rfl, _, rfl, r, vs, _, .ref b, rfl, rfl, SqL.of (s9 _ _ hr7), by rw [Int.zero_add]; exact atI_nat hb, _, rfl, _, rfl, b, _, rfl, SqL.of hRb, fun l3 hl3 => ?_⟩
     rw [c1]
     have s10 := s9.trans (Same.new hl3 (.lst ((rows[i].map V.int).drop i)))
     have k2' := Same.new hl3 (.lst ((rows[i].map V.int).drop i)) _ _ k2
     have k3 : upd H9 l3 (.lst ((rows[i].map V.int).drop i)) l3 = some (.lst ((rows[i].map V.int).drop i)) := upd_same
     generalize upd H9 l3 (.lst ((rows[i].map V.int).drop i)) = H10 at s10 k2' k3 ⊢
     refine ⟨l2, l3, _, _, rfl, rfl, k2', k3, Nat.le_trans (m := 100) (by rw [len_rep, List.length_drop, List.length_map]; show i * 1 + _ <= _; omega) (by decide), fun u hu => ?_⟩
     rw [rep_tri]
     have s11 := s10.trans (Same.new hu (.lst ((List.replicate i 0 ++ rows[i].drop i).map V.int)))
     have k4 : upd H10 u (.lst ((List.replicate i 0 ++ rows[i].drop i).map V.int)) u = some (.lst ((List.replicate i 0 ++ rows[i].drop i).map V.int)) := upd_same
     have ur : u ≠ r := (ne_of_none (s10 _ _ hr7) hu).symm
     generalize upd H10 u (.lst ((List.replicate i 0 ++ rows[i].drop i).map V.int)) = H11 at s11 k4 ⊢
     have hr11 := s11 _ _ hr7
     refine ⟨_, rfl, _, rfl, r, vs, _, i, rfl, rfl, hr11, ix_at (by omega) (by omega), ?_⟩
     have hset := Tb.set i hr11 (ht7.mono s11) k4 ur
     refine ⟨rows.set i (List.replicate i 0 ++ rows[i].drop i), _, (s7.trans s11).at hr0 _, ⟨_, hset.1, hset.2⟩, ?_, by rw [List.length_set]; exact rl, ?_, rfl⟩
     ·refine sq.set i (by rw [List.length_append, List.length_replicate, List.length_drop]; omega) fun c => ?_
      rw [fn_tri]
      split
      ·exact Nat.zero_le _
      ·exact sq.2.2 _ (List.getElem_mem _) c
     ·intro j y hj hy c hc
      rw [List.getElem?_set] at hy
      by_cases ij : i = j
      ·subst ij
       rw [if_pos rfl, if_pos (by omega)] at hy
       injection hy with hy
       rw [<- hy, fn_tri, if_pos hc]
      ·rw [if_neg ij] at hy
       exact tz j y (by omega) hy c hc
    clear s6 ht6 sq rl yl yb
    rintro σ H7 ⟨rows, v5, s7, ht7, sq, rl, tz, rfl⟩
    dsimp only
    refine tSeq_i (tAsg_i ?_)
    refine gName_i ?_
    dsimp only
    refine tSeq_i (tFor_i ?_)
    refine ⟨_, rfl, _, rfl, by omega, by omega, ?_⟩
    rw [show ((n : Int)).toNat = n from rfl]
    refine gf_range (n := n) (fun i σ H8 => H8 = H7 /\ ∃ v5, (prodTo (fun i => at2 rows i i) i).natAbs <= (9 * 10 ^ 41) ^ i /\ σ = [some (.ref a), some (.ref p), some (.int way), some (.int n), some (.ref r), v5, v6, some (.int (prodTo (fun i => at2 rows i i) i))]) ⟨rfl, _, Nat.le_refl 1, rfl⟩ ?_ ?_
    ·rintro i σ H8 hi ⟨rfl, v5, pb, rfl⟩
     obtain ⟨vs, hr8, ht8⟩ := ht7
     refine gName_i ?_
     refine tAsg_i ?_
     have vl := ht8.len
     have il : i < rows.length := by omega
     have hri : rows[i]? = some rows[i] := List.getElem?_eq_getElem il
     have ril := sq.1 _ (List.getElem_mem il)
     obtain ⟨b, hb, hRb⟩ := ht8.get hri
     have ea : at2 rows i i = fn rows[i] i := by
      unfold at2
      rw [List.getD_eq_getElem?_getD, hri]
      rfl
     have eb : (fn rows[i] i).natAbs <= 9 * 10 ^ 41 := Nat.le_trans (sq.2.2 _ (List.getElem_mem il) i) (by decide)
     refine ⟨_, rfl, _, rfl, _, rfl, r, vs, _, .ref b, rfl, rfl, SqL.of hr8, by rw [Int.zero_add]; exact atI_nat hb, _, rfl, b, _, _, _, rfl, rfl, SqL.of hRb, atI_fn (j := i) (by omega) (by omega), _, _, rfl, rfl, mul_ok (pw9 pb (by omega)) (pw9 (k := 1) (by rw [Nat.pow_one]; exact eb) (by decide)), ?_⟩
     have pe : prodTo (fun i => at2 rows i i) (i + 1) = prodTo (fun i => at2 rows i i) i * fn rows[i] i := by
      show _ * at2 rows i i = _
      rw [ea]
     refine ⟨rfl, some (.int (0 + (i : Int))), ?_, ?_⟩
     ·rw [pe, Int.natAbs_mul, Nat.pow_succ]
      exact Nat.mul_le_mul pb eb
     ·rw [pe]
      rfl
    rintro σ H8 ⟨rfl, v5, pb, rfl⟩
    dsimp only
    refine tIfS_i (tTest_i ?_)
    refine ⟨_, rfl, r, rows, rfl, ht7, sq.up (by decide), fun H9 s9 => ?_⟩
    have dt := det_tri (rows := rows) (fun i y hy c hc => tz i y (by have := (List.getElem?_eq_some_iff.mp hy).1; omega) hy c hc)
    rw [rl] at dt
    refine ⟨_, rfl, rfl, _, rfl, iteNS (congrArg V.int dt) ⟨rows, _, _, _, s7.trans s9, ht7.mono s9, sq, rfl⟩⟩
   ·clear s6 ht6 sq rl yl yb
    rintro σ H7 ⟨rows, v5, v6, v7, s7, ht7, sq, rfl⟩
    exact ⟨_, rfl, _, rfl, r, a, rows, ns, rfl, ht7, sq, s7.seq hS, h63, fun H8 _ => q _⟩
end
theorem all_mk {l : PySem.W.OpenLaw} {w : World} {K : PySem.W.Frag} {h : Heap} {mg : Str -> Option Value} {fa f0 f1 f2 f3 f4 f5 f6 f7 f8 f9 f10 : Addr} (X : K.In h) (G : h.Ns mainGlobals mg) (hfa : mg "law" = some (.ref fa))
  {od0 an0 od1 an1 od2 an2 od3 an3 od4 an4 od5 an5 od6 an6 od7 an7 od8 an8 od9 an9 od10 an10 : Option Addr} {sl0 sl1 sl2 sl3 sl4 sl5 sl6 sl7 sl8 sl9 sl10 : Array (Option Value)} {oc0 kV0 dc0 pm0 cd0 ct0 oc1 kV1 dc1 pm1 cd1 ct1 oc2 kV2 dc2 pm2 cd2 ct2 oc3 kV3 dc3 pm3 cd3 ct3 oc4 kV4 dc4 pm4 cd4 ct4 oc5 kV5 dc5 pm5 cd5 ct5 oc6 kV6 dc6 pm6 cd6 ct6 oc7 kV7 dc7 pm7 cd7 ct7 oc8 kV8 dc8 pm8 cd8 ct8 oc9 kV9 dc9 pm9 cd9 ct9 oc10 kV10 dc10 pm10 cd10 ct10 : Value}
  (a0 : PySem.W.nsIn K mainGlobals "check_table" = some (some (.ref f0)))
  (l0 : K.lookup f0 = some ⟨oc0, od0, .func (PySem.W.fnOf "check_table" "check_table" (defArgs s_check_table) (defBody s_check_table) (defScope s_check_table) .none kV0 dc0 pm0 an0 cd0 ct0), sl0⟩) (c0 : PySem.W.codeIn K cd0 "check_table" = true) (k0 : PySem.W.keepIn K (.ref f0) = true)
  (a1 : PySem.W.nsIn K mainGlobals "first_with_a_head" = some (some (.ref f1)))
  (l1 : K.lookup f1 = some ⟨oc1, od1, .func (PySem.W.fnOf "first_with_a_head" "first_with_a_head" (defArgs s_first_with_a_head) (defBody s_first_with_a_head) (defScope s_first_with_a_head) .none kV1 dc1 pm1 an1 cd1 ct1), sl1⟩) (c1 : PySem.W.codeIn K cd1 "first_with_a_head" = true) (k1 : PySem.W.keepIn K (.ref f1) = true)
  (a2 : PySem.W.nsIn K mainGlobals "reduced" = some (some (.ref f2)))
  (l2 : K.lookup f2 = some ⟨oc2, od2, .func (PySem.W.fnOf "reduced" "reduced" (defArgs s_reduced) (defBody s_reduced) (defScope s_reduced) .none kV2 dc2 pm2 an2 cd2 ct2), sl2⟩) (c2 : PySem.W.codeIn K cd2 "reduced" = true) (k2 : PySem.W.keepIn K (.ref f2) = true)
  (a3 : PySem.W.nsIn K mainGlobals "determinant" = some (some (.ref f3)))
  (l3 : K.lookup f3 = some ⟨oc3, od3, .func (PySem.W.fnOf "determinant" "determinant" (defArgs s_determinant) (defBody s_determinant) (defScope s_determinant) .none kV3 dc3 pm3 an3 cd3 ct3), sl3⟩) (c3 : PySem.W.codeIn K cd3 "determinant" = true) (k3 : PySem.W.keepIn K (.ref f3) = true)
  (a4 : PySem.W.nsIn K mainGlobals "_law_take" = some (some (.ref f4)))
  (l4 : K.lookup f4 = some ⟨oc4, od4, .func (PySem.W.fnOf "_law_take" "_law_take" (defArgs s_law_take) (defBody s_law_take) (defScope s_law_take) .none kV4 dc4 pm4 an4 cd4 ct4), sl4⟩) (c4 : PySem.W.codeIn K cd4 "_law_take" = true) (k4 : PySem.W.keepIn K (.ref f4) = true)
  (a5 : PySem.W.nsIn K mainGlobals "_law_purse" = some (some (.ref f5)))
  (l5 : K.lookup f5 = some ⟨oc5, od5, .func (PySem.W.fnOf "_law_purse" "_law_purse" (defArgs s_law_purse) (defBody s_law_purse) (defScope s_law_purse) .none kV5 dc5 pm5 an5 cd5 ct5), sl5⟩) (c5 : PySem.W.codeIn K cd5 "_law_purse" = true) (k5 : PySem.W.keepIn K (.ref f5) = true)
  (a6 : PySem.W.nsIn K mainGlobals "_law_number" = some (some (.ref f6)))
  (l6 : K.lookup f6 = some ⟨oc6, od6, .func (PySem.W.fnOf "_law_number" "_law_number" (defArgs s_law_number) (defBody s_law_number) (defScope s_law_number) .none kV6 dc6 pm6 an6 cd6 ct6), sl6⟩) (c6 : PySem.W.codeIn K cd6 "_law_number" = true) (k6 : PySem.W.keepIn K (.ref f6) = true)
  (a7 : PySem.W.nsIn K mainGlobals "_law_by_rows" = some (some (.ref f7)))
  (l7 : K.lookup f7 = some ⟨oc7, od7, .func (PySem.W.fnOf "_law_by_rows" "_law_by_rows" (defArgs s_law_by_rows) (defBody s_law_by_rows) (defScope s_law_by_rows) .none kV7 dc7 pm7 an7 cd7 ct7), sl7⟩) (c7 : PySem.W.codeIn K cd7 "_law_by_rows" = true) (k7 : PySem.W.keepIn K (.ref f7) = true)
  (a8 : PySem.W.nsIn K mainGlobals "_law_told" = some (some (.ref f8)))
  (l8 : K.lookup f8 = some ⟨oc8, od8, .func (PySem.W.fnOf "_law_told" "_law_told" (defArgs s_law_told) (defBody s_law_told) (defScope s_law_told) .none kV8 dc8 pm8 an8 cd8 ct8), sl8⟩) (c8 : PySem.W.codeIn K cd8 "_law_told" = true) (k8 : PySem.W.keepIn K (.ref f8) = true)
  (a9 : PySem.W.nsIn K mainGlobals "_law_steady" = some (some (.ref f9)))
  (l9 : K.lookup f9 = some ⟨oc9, od9, .func (PySem.W.fnOf "_law_steady" "_law_steady" (defArgs s_law_steady) (defBody s_law_steady) (defScope s_law_steady) .none kV9 dc9 pm9 an9 cd9 ct9), sl9⟩) (c9 : PySem.W.codeIn K cd9 "_law_steady" = true) (k9 : PySem.W.keepIn K (.ref f9) = true)
  (a10 : PySem.W.nsIn K mainGlobals "law" = some (some (.ref f10)))
  (l10 : K.lookup f10 = some ⟨oc10, od10, .func (PySem.W.fnOf "law" "law" (defArgs s_law) (defBody s_law) (defScope s_law) .none kV10 dc10 pm10 an10 cd10 ct10), sl10⟩) (c10 : PySem.W.codeIn K cd10 "law" = true) (k10 : PySem.W.keepIn K (.ref f10) = true)
  (z_any : PySem.W.nsIn K mainGlobals "any" = some none)
  (z_bool : PySem.W.nsIn K mainGlobals "bool" = some none)
  (z_enumerate : PySem.W.nsIn K mainGlobals "enumerate" = some none)
  (z_int : PySem.W.nsIn K mainGlobals "int" = some none)
  (z_isinstance : PySem.W.nsIn K mainGlobals "isinstance" = some none)
  (z_len : PySem.W.nsIn K mainGlobals "len" = some none)
  (z_list : PySem.W.nsIn K mainGlobals "list" = some none)
  (z_range : PySem.W.nsIn K mainGlobals "range" = some none)
  : ∃ fd : FuncData, (∀ (s : Shared) (v : Value), BindsTo s fd ⟨[v], []⟩ [("_law_script", v)]) /\ ∀ base : Heap, K.In base -> base.Ns mainGlobals mg -> FnOk l.prog w K mg base CX0 8 fa fd ["_law_script"] (spLaw K) := by
 have e := hfa.symm.trans (PySem.W.mg_of X G a10)
 cases e
 have bl : Blt mg := ⟨PySem.W.mg_none_of X G z_any, PySem.W.mg_none_of X G z_bool, PySem.W.mg_none_of X G z_enumerate, PySem.W.mg_none_of X G z_int, PySem.W.mg_none_of X G z_isinstance, PySem.W.mg_none_of X G z_len, PySem.W.mg_none_of X G z_list, PySem.W.mg_none_of X G z_range⟩
 have T0 := fun_mk (st := s_check_table) l0 c0 k0
 have b0 := T0.binds (ps := ["rows"]) fun _ _ _ _ _ _ us hl => match us, hl with | [_], _ => rfl
 have T1 := fun_mk (st := s_first_with_a_head) l1 c1 k1
 have b1 := T1.binds (ps := ["rows"]) fun _ _ _ _ _ _ us hl => match us, hl with | [_], _ => rfl
 have T2 := fun_mk (st := s_reduced) l2 c2 k2
 have b2 := T2.binds (ps := ["row", "head", "divisor"]) fun _ _ _ _ _ _ us hl => match us, hl with | [_, _, _], _ => rfl
 have T3 := fun_mk (st := s_determinant) l3 c3 k3
 have b3 := T3.binds (ps := ["rows"]) fun _ _ _ _ _ _ us hl => match us, hl with | [_], _ => rfl
 have T4 := fun_mk (st := s_law_take) l4 c4 k4
 have b4 := T4.binds (ps := ["_law_draw", "_law_many"]) fun _ _ _ _ _ _ us hl => match us, hl with | [_, _], _ => rfl
 have T5 := fun_mk (st := s_law_purse) l5 c5 k5
 have b5 := T5.binds (ps := ["_law_script", "_law_k", "_law_plain"]) fun _ _ _ _ _ _ us hl => match us, hl with | [_, _, _], _ => rfl
 have T6 := fun_mk (st := s_law_number) l6 c6 k6
 have b6 := T6.binds (ps := ["_law_draw", "_law_way"]) fun _ _ _ _ _ _ us hl => match us, hl with | [_, _], _ => rfl
 have T7 := fun_mk (st := s_law_by_rows) l7 c7 k7
 have b7 := T7.binds (ps := ["_law_rows", "_law_columns"]) fun _ _ _ _ _ _ us hl => match us, hl with | [_, _], _ => rfl
 have T8 := fun_mk (st := s_law_told) l8 c8 k8
 have b8 := T8.binds (ps := ["_law_rows"]) fun _ _ _ _ _ _ us hl => match us, hl with | [_], _ => rfl
 have T9 := fun_mk (st := s_law_steady) l9 c9 k9
 have b9 := T9.binds (ps := ["_law_rows", "_law_script"]) fun _ _ _ _ _ _ us hl => match us, hl with | [_, _], _ => rfl
 have T10 := fun_mk (st := s_law) l10 c10 k10
 have b10 := T10.binds (ps := ["_law_script"]) fun _ _ _ _ _ _ us hl => match us, hl with | [_], _ => rfl
 refine ⟨PySem.W.fnOf "law" "law" (defArgs s_law) (defBody s_law) (defScope s_law) .none kV10 dc10 pm10 an10 cd10 ct10, fun s v => .of_eq rfl, fun base _ _ => ?_⟩
 have F_check_table : Fn l.prog w K mg base 1 "check_table" ["rows"] (sp_check_table K) := ⟨_, _, ok_check_table T0 bl , b0, k0, PySem.W.mg_of X G a0⟩
 have F_first_with_a_head : Fn l.prog w K mg base 1 "first_with_a_head" ["rows"] (sp_first_with_a_head K) := ⟨_, _, ok_first_with_a_head T1 bl , b1, k1, PySem.W.mg_of X G a1⟩
 have F_reduced : Fn l.prog w K mg base 1 "reduced" ["row", "head", "divisor"] (sp_reduced K) := ⟨_, _, ok_reduced T2 bl , b2, k2, PySem.W.mg_of X G a2⟩
 have F_determinant : Fn l.prog w K mg base 2 "determinant" ["rows"] (sp_determinant K) := ⟨_, _, ok_determinant T3 bl F_check_table F_first_with_a_head F_reduced, b3, k3, PySem.W.mg_of X G a3⟩
 have F_law_take : Fn l.prog w K mg base 1 "_law_take" ["_law_draw", "_law_many"] (sp_law_take K) := ⟨_, _, ok_law_take T4 bl , b4, k4, PySem.W.mg_of X G a4⟩
 have F_law_purse : Fn l.prog w K mg base 1 "_law_purse" ["_law_script", "_law_k", "_law_plain"] (sp_law_purse K) := ⟨_, _, ok_law_purse T5 bl , b5, k5, PySem.W.mg_of X G a5⟩
 have F_law_number : Fn l.prog w K mg base 2 "_law_number" ["_law_draw", "_law_way"] (sp_law_number K) := ⟨_, _, ok_law_number T6 bl F_law_take, b6, k6, PySem.W.mg_of X G a6⟩
 have F_law_by_rows : Fn l.prog w K mg base 7 "_law_by_rows" ["_law_rows", "_law_columns"] (sp_law_by_rows K) := ⟨_, _, ok_law_by_rows T7 bl  (fun d sp h => ⟨_, _, h, b7, k7, PySem.W.mg_of X G a7⟩), b7, k7, PySem.W.mg_of X G a7⟩
 have F_law_told : Fn l.prog w K mg base 3 "_law_told" ["_law_rows"] (sp_law_told K) := ⟨_, _, ok_law_told T8 bl F_determinant, b8, k8, PySem.W.mg_of X G a8⟩
 have F_law_steady : Fn l.prog w K mg base 4 "_law_steady" ["_law_rows", "_law_script"] (sp_law_steady K) := ⟨_, _, ok_law_steady T9 bl F_law_told, b9, k9, PySem.W.mg_of X G a9⟩
 exact ok_law T10 bl F_law_purse F_law_take F_law_number F_law_told F_law_by_rows F_law_steady
theorem walk {l : PySem.W.OpenLaw} {q : Program} {loose : List Str} {XP : (Str -> Option Value) -> Heap -> Prop} {YP : World -> Heap -> Prop} {d : DefRec} {K : Params -> PySem.W.Frag} (hn : l.most = some 63) (hdf : d.params.defaults = [])
  (hY : ∀ (w : World) (h : Heap), YP w h -> (K w.params).In h)
  (F : ∀ (w : World) (mg : Str -> Option Value) (fa : Addr) (h : Heap), (K w.params).In h -> h.Ns mainGlobals mg -> mg d.name = some (.ref fa) ->
   ∃ fd : FuncData, (∀ (s : Shared) (u : Value), BindsTo s fd ⟨[u], []⟩ [("_law_script", u)]) /\ ∀ base : Heap, (K w.params).In base -> base.Ns mainGlobals mg -> FnOk l.prog w (K w.params) mg base CX0 8 fa fd ["_law_script"] (spLaw (K w.params))) :
  PySem.W.WalkO q loose XP YP l.row.toRowW d [] (fun f vs => PySem.call f vs) :=
 L2.walk_of (n := 63) (k := 8) (x := "_law_script") (CX := fun _ => CX0) (sp := fun w => spLaw (K w.params)) hn (by decide) hdf ⟨rfl, by decide, by decide⟩ hY F (fun _ _ a ns hl _ hS => ⟨a, ns, rfl, hS, hl, fun _ => rfl⟩) fun _ _ _ _ _ z => z
end My
open PySem PySem.W PyProof.Rows
set_option maxRecDepth 100000 in
set_option maxHeartbeats 0 in
theorem PySem.Challenge.cw_sootring_k23_determinants_holds : PySem.Challenge.rw_sootring_k23_determinants.Holds := by
 w_on; o_law; k_head; (case hw => w_witness2)
 k_fill
 refine My.walk (l := PySem.Challenge.rw_sootring_k23_determinants) rfl rfl (fun w h Y => PySem.W.kIn_of Y) ?F
 case F =>
  intro w mg fa h KX G hmg
  refine' My.all_mk KX G hmg ?a0 ?l0 ?c0 ?k0 ?a1 ?l1 ?c1 ?k1 ?a2 ?l2 ?c2 ?k2 ?a3 ?l3 ?c3 ?k3 ?a4 ?l4 ?c4 ?k4 ?a5 ?l5 ?c5 ?k5 ?a6 ?l6 ?c6 ?k6 ?a7 ?l7 ?c7 ?k7 ?a8 ?l8 ?c8 ?k8 ?a9 ?l9 ?c9 ?k9 ?a10 ?l10 ?c10 ?k10 ?z_any ?z_bool ?z_enumerate ?z_int ?z_isinstance ?z_len ?z_list ?z_range
  (case a0 => k_is)
  (case l0 => k_is)
  (case c0 => k_is)
  (case k0 => k_is)
  (case a1 => k_is)
  (case l1 => k_is)
  (case c1 => k_is)
  (case k1 => k_is)
  (case a2 => k_is)
  (case l2 => k_is)
  (case c2 => k_is)
  (case k2 => k_is)
  (case a3 => k_is)
  (case l3 => k_is)
  (case c3 => k_is)
  (case k3 => k_is)
  (case a4 => k_is)
  (case l4 => k_is)
  (case c4 => k_is)
  (case k4 => k_is)
  (case a5 => k_is)
  (case l5 => k_is)
  (case c5 => k_is)
  (case k5 => k_is)
  (case a6 => k_is)
  (case l6 => k_is)
  (case c6 => k_is)
  (case k6 => k_is)
  (case a7 => k_is)
  (case l7 => k_is)
  (case c7 => k_is)
  (case k7 => k_is)
  (case a8 => k_is)
  (case l8 => k_is)
  (case c8 => k_is)
  (case k8 => k_is)
  (case a9 => k_is)
  (case l9 => k_is)
  (case c9 => k_is)
  (case k9 => k_is)
  (case a10 => k_is)
  (case l10 => k_is)
  (case c10 => k_is)
  (case k10 => k_is)
  (case z_any => k_is)
  (case z_bool => k_is)
  (case z_enumerate => k_is)
  (case z_int => k_is)
  (case z_isinstance => k_is)
  (case z_len => k_is)
  (case z_list => k_is)
  (case z_range => k_is)
