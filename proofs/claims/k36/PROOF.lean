import PyProof.Rows.All
import Wide.All
import OpenK.AllK
import Wide.FinOn
import Lean
import PyProof.EqAt
import PyProof.EqKinds
import PyProof.TupleCall
import PyProof.ConsumeWalk
import KE.KIntText
import KE.IntTextLaws
import PyProof.StrWalks
import PyProof.StrCalls2
import PyProof.Rows.StrRev
import PyProof.StrOps2
import PySem.Challenge.RW_sootring_k36_texts_refused
namespace Hex
end Hex
set_option Elab.async false
set_option linter.all false
set_option maxRecDepth 100000
namespace L2
open PySem PySem.Spec PyProof.Rows
abbrev Key := Sum Int Str
def keyIs : Key -> Value -> Bool
 | .inl k, v => Value.isInt k v
 | .inr x, v => Value.isStrOf x v
def keyH (w : World) : Key -> Int
 | .inl k => hashInt k
 | .inr x => hashStr w x
theorem keyIs_shape : ∀ {k : Key} {v : Value}, keyIs k v = true -> (∃ i t, k = Sum.inl i /\ v = Value.int i t) \/ (∃ x t, k = Sum.inr x /\ v = Value.str x t)
 | .inl i, v, h => by
  obtain ⟨t, e⟩ := Value.isInt_shape (k := i) (v := v) h
  exact .inl ⟨i, t, rfl, e⟩
 | .inr x, v, h => by
  obtain ⟨t, e⟩ := Value.isStrOf_shape (x := x) (v := v) h
  exact .inr ⟨x, t, rfl, e⟩
theorem key_ll (a b : Int) : decide ((Sum.inl a : Key) = Sum.inl b) = (a == b) := by
 by_cases e : a = b
 ·subst e; simp
 ·have h : ¬ (Sum.inl a : Key) = Sum.inl b := fun q => e (Sum.inl.inj q)
  rw [decide_eq_false h]
  exact (beq_eq_false_iff_ne.mpr e).symm
theorem key_rr (a b : Str) : decide ((Sum.inr a : Key) = Sum.inr b) = decide (a = b) := by
 by_cases e : a = b
 ·subst e; simp
 ·have h : ¬ (Sum.inr a : Key) = Sum.inr b := fun q => e (Sum.inr.inj q)
  rw [decide_eq_false h, decide_eq_false e]
theorem key_lr (a : Int) (b : Str) : decide ((Sum.inl a : Key) = Sum.inr b) = false := decide_eq_false (fun q => nomatch q)
theorem key_rl (a : Str) (b : Int) : decide ((Sum.inr a : Key) = Sum.inl b) = false := decide_eq_false (fun q => nomatch q)
def mixKind (prog : Program) (w : World) : PySem.KeyKind prog w Key where
 is := keyIs
 hash := keyH w
 inj := fun v a b ha hb => by
  rcases keyIs_shape ha with ⟨i, t, rfl, rfl⟩ | ⟨x, t, rfl, rfl⟩
  ·rcases keyIs_shape hb with ⟨j, u, rfl, e⟩ | ⟨y, u, rfl, e⟩
   ·injection e with e1 _; rw [e1]
   ·exact nomatch e
  ·rcases keyIs_shape hb with ⟨j, u, rfl, e⟩ | ⟨y, u, rfl, e⟩
   ·exact nomatch e
   ·injection e with e1 _; rw [e1]
 byValue := fun k v h => by
  rcases keyIs_shape h with ⟨i, t, rfl, rfl⟩ | ⟨x, t, rfl, rfl⟩ <;> rfl
 pyHash := fun hv h => by
  rcases keyIs_shape hv with ⟨i, t, rfl, rfl⟩ | ⟨x, t, rfl, rfl⟩
  ·exact wpAny_pyHash_int h
  ·exact wpAny_pyHash_str h
 eqBool := fun hu hv h => by
  rcases keyIs_shape hu with ⟨i, t, rfl, rfl⟩ | ⟨x, t, rfl, rfl⟩
  ·rcases keyIs_shape hv with ⟨j, u, rfl, rfl⟩ | ⟨y, u, rfl, rfl⟩
   ·rw [key_ll] at h; exact wpAny_eqBool_int h
   ·rw [key_lr] at h; exact SeqAt.EqAt.int_str i t y u _ _ _ _ h
  ·rcases keyIs_shape hv with ⟨j, u, rfl, rfl⟩ | ⟨y, u, rfl, rfl⟩
   ·rw [key_rl] at h; exact SeqAt.EqAt.str_int x t j u _ _ _ _ h
   ·rw [key_rr] at h; exact wpAny_eqBool_str h
 «strs» := fun k x t v h => by
  rcases keyIs_shape h with ⟨i, u, rfl, e⟩ | ⟨y, u, rfl, e⟩
  ·exact nomatch e
  ·injection e with e1 _
   subst e1
   cases v <;> rfl
end L2
namespace L2
open PySem PySem.Spec PyProof.Rows
inductive V where
 | non | bl (b : Bool) | int (i : Int) | str (x : Str) | byt (b : Array UInt8) | flt (b : UInt64) | ref (a : Addr) | ty (n : String)
 deriving DecidableEq
def RelV : V -> Value -> Prop
 | .non, u => u = Value.none
 | .bl b, u => u = Value.bool b
 | .int i, u => ∃ t, u = Value.int i t
 | .str x, u => ∃ t, u = Value.str x t
 | .byt b, u => ∃ t, u = Value.bytes b t
 | .flt b, u => ∃ t, u = Value.float b t
 | .ref a, u => u = Value.ref a
 | .ty n, u => u = Value.type n
abbrev Vals : List V -> List Value -> Prop := Paired RelV
theorem Vals.length {xs : List V} {us : List Value} (r : Vals xs us) : xs.length = us.length := Paired.length r
theorem Vals.get : ∀ {xs : List V} {us : List Value} {i : Nat} {x : V}, Vals xs us -> xs[i]? = some x -> ∃ u, us[i]? = some u /\ RelV x u
 | _, _, _, _, .nil, e => by simp at e
 | _, _, 0, _, .cons r _, e => by simp at e; subst e; exact ⟨_, rfl, r⟩
 | _, _, i + 1, x, .cons _ t, e => by
  obtain ⟨u, h1, h2⟩ := Vals.get (i := i) (x := x) t (by simpa using e)
  exact ⟨u, by simpa using h1, h2⟩
theorem Vals.set {x : V} {u : Value} (r : RelV x u) : ∀ {xs : List V} {us : List Value} (i : Nat), Vals xs us -> Vals (xs.set i x) (us.set i u)
 | _, _, _, .nil => .nil
 | _, _, 0, .cons _ t => .cons r t
 | _, _, i + 1, .cons q t => .cons q (Vals.set r i t)
theorem Vals.append : ∀ {xs ys : List V} {us ws : List Value}, Vals xs us -> Vals ys ws -> Vals (xs ++ ys) (us ++ ws)
 | _, _, _, _, .nil, s => s
 | _, _, _, _, .cons r t, s => .cons r (Vals.append t s)
def RelO : Option V -> Option Value -> Prop
 | some v, some u => RelV v u
 | none, none => True
 | _, _ => False
def KV {κ : Type} : List (κ × V) -> List (κ × Value) -> Prop := Paired fun (p : κ × V) (q : κ × Value) => p.1 = q.1 /\ RelV p.2 q.2
def kV : Key -> V
 | .inl i => .int i
 | .inr x => .str x
inductive HO where
 | lst (xs : List V)
 | tup (xs : List V)
 | dK (kvs : List (Key × V)) | dT (kvs : List (List Key × V))
 | set (S : Int -> Bool) (n : Nat)
 | ins (C dx : Addr) (fs : List (Str × V))
 | own (x : Addr)
 | xd (fs : List (Str × V))
 | met (f x : Addr)
 | rng (lo hi : Int)
 | frz (o : Obj) (u : HO)
 | tbl (ps : Array Value)
 | ext (φ : Heap -> Prop)
abbrev Hp := Addr -> Option HO
def upd (H : Hp) (a : Addr) (o : HO) : Hp := fun b => if b = a then some o else H b
theorem upd_same {H : Hp} {a : Addr} {o : HO} : upd H a o a = some o := by unfold upd; rw [if_pos rfl]
theorem upd_ne {H : Hp} {a b : Addr} {o : HO} (h : b ≠ a) : upd H a o b = H b := by unfold upd; rw [if_neg h]
theorem upd_upd {H : Hp} {a : Addr} {o u : HO} : upd (upd H a o) a u = upd H a u := by
 funext b; unfold upd; split <;> rfl
theorem ne_of_none {H : Hp} {a b : Addr} {o : HO} (h : H a = some o) (h' : H b = none) : a ≠ b := by
 intro e; subst e; rw [h] at h'; cases h'
section
variable (P : Program) (w : World)
def ObjOk (H : Hp) (h : Heap) (a : Addr) : HO -> Prop
 | .lst xs => xs.length <= sizeLine /\ ∃ (its : List Value) (n : Nat), Vals xs its /\ h.get? a = some { cls := .type "list", data := .seq its.toArray n }
 | .tup xs => xs.length <= sizeLine /\ ∃ its : List Value, Vals xs its /\ IsTup h a its.toArray
 | .dK kvs => kvs.length <= sizeLine /\ (a == sysModules) = false /\ ∃ vs, KV kvs vs /\ h.DictOf (mixKind P w) a vs
 | .dT kvs => kvs.length <= sizeLine /\ (a == sysModules) = false /\ ∃ xs : List (List Key × Addr × Value),
   Paired (fun (p : List Key × V) (q : List Key × Addr × Value) => p.1 = q.1 /\ H q.2.1 = some (.tup (p.1.map kV)) /\ RelV p.2 q.2.2) kvs xs /\
   ∃ o es ep, h.get? a = some o /\ o.ExactDict /\ o.data = .dict es ep /\ es.toList = xs.map (entryOfKey (tupleKind (mixKind P w))) /\ (xs.map (·.1)).Nodup
 | .set S n => h.SetOf (intKind P w) a S n
 | .ins C dx fs => H dx = some (.own a) /\ fs.length <= 1000 /\ dx ≠ a /\ h.get? a = some (PySem.W.instObj C dx) /\
   ∃ mA, h.Ns1 dx mA /\ (∀ f, RelO (fs.lookup f) (mA f)) /\ PySem.Within mA (fs.map (·.1))
 | .own _ => ∃ o, h.get? a = some o
 | .xd fs => ∃ mA, h.Ns1 a mA /\ ∀ f, RelO (fs.lookup f) (mA f)
 | .rng lo hi => ∃ t u v, h.get? a = some { cls := .type "range", data := .fields #[.int lo t, .int hi u, .int 1 v] }
 | .frz o u => h.get? a = some o /\ ObjOk H h a u
 | .tbl ps => h.get? a = some { cls := .none, data := .fields ps }
 | .met f x => h.get? a = some (PySem.W.methodObj (.ref f) (.ref x))
 | .ext φ => φ h /\ (∃ o, h.get? a = some o) /\ ∀ h1 h2 : Heap, φ h1 -> (∀ o, h1.get? a = some o -> h2.get? a = some o) -> φ h2
def HOk (H : Hp) (h : Heap) : Prop := ∀ a o, H a = some o -> ObjOk P w H h a o
end
section
variable {P : Program} {w : World} {H H' : Hp} {h h' : Heap} {a : Addr} {o : HO}
theorem ObjOk.lt (x : ObjOk P w H h a o) : a < h.objs.size := by
 cases o with
 | lst xs => obtain ⟨_, _, _, _, e⟩ := x; exact Heap.lt_size e
 | tup xs => obtain ⟨_, _, _, p⟩ := x; exact p.lt
 | dK kvs => obtain ⟨_, _, _, _, o, _, _, e, _⟩ := x; exact Heap.lt_size e
 | dT kvs => obtain ⟨_, _, _, _, o, _, _, e, _⟩ := x; exact Heap.lt_size e
 | set S n => obtain ⟨o, _, _, _, e, _⟩ := x; exact Heap.lt_size e
 | ins C dx fs => obtain ⟨_, _, _, e, _⟩ := x; exact Heap.lt_size e
 | own y => obtain ⟨_, e⟩ := x; exact Heap.lt_size e
 | xd fs => obtain ⟨_, ⟨_, _, _, e, _⟩, _⟩ := x; exact Heap.lt_size e
 | rng lo hi => obtain ⟨_, _, _, e⟩ := x; exact Heap.lt_size e
 | frz ob u => obtain ⟨e, _⟩ := x; exact Heap.lt_size e
 | tbl ps => exact Heap.lt_size (show h.get? a = some _ from x)
 | met f y => exact Heap.lt_size (show h.get? a = some _ from x)
 | ext φ => obtain ⟨_, ⟨_, e⟩, _⟩ := x; exact Heap.lt_size e
theorem Paired.mapP {α β : Type} {F G : α -> β -> Prop} : ∀ {l₁ : List α} {l₂ : List β}, Paired F l₁ l₂ -> (∀ a b, F a b -> G a b) -> Paired G l₁ l₂
 | _, _, .nil, _ => .nil
 | _, _, .cons r t, f => .cons (f _ _ r) (Paired.mapP t f)
theorem ObjOk.stay (x : ObjOk P w H h a o) (k : ∀ b u, (b = a \/ H b = some (.own a)) -> h.get? b = some u -> h'.get? b = some u)
  (ho : ∀ b, H b = some (.own a) -> H' b = some (.own a)) (ht : ∀ b xs, H b = some (.tup xs) -> H' b = some (.tup xs)) : ObjOk P w H' h' a o := by
 induction o with
 | lst xs => obtain ⟨z, its, n, r, e⟩ := x; exact ⟨z, its, n, r, k _ _ (.inl rfl) e⟩
 | tup xs => obtain ⟨z, its, r, ob, e, c⟩ := x; exact ⟨z, its, r, ob, k _ _ (.inl rfl) e, c⟩
 | dK kvs => obtain ⟨z, y, vs, r, ob, es, ep, e, c⟩ := x; exact ⟨z, y, vs, r, ob, es, ep, k _ _ (.inl rfl) e, c⟩
 | dT kvs =>
  obtain ⟨z, y, xs, r, ob, es, ep, e, c⟩ := x
  exact ⟨z, y, xs, Paired.mapP r fun p q z => ⟨z.1, ht _ _ z.2.1, z.2.2⟩, ob, es, ep, k _ _ (.inl rfl) e, c⟩
 | set S n => obtain ⟨ob, es, ep, t, e, c⟩ := x; exact ⟨ob, es, ep, t, k _ _ (.inl rfl) e, c⟩
 | ins C dx fs =>
  obtain ⟨d, z, ne, e, mA, ⟨od, es, ep, e2, c⟩, r⟩ := x
  exact ⟨ho _ d, z, ne, k _ _ (.inl rfl) e, mA, ⟨od, es, ep, k _ _ (.inr d) e2, c⟩, r⟩
 | own y => obtain ⟨ob, e⟩ := x; exact ⟨ob, k _ _ (.inl rfl) e⟩
 | xd fs => obtain ⟨mA, ⟨od, es, ep, e, c⟩, r⟩ := x; exact ⟨mA, ⟨od, es, ep, k _ _ (.inl rfl) e, c⟩, r⟩
 | rng lo hi => obtain ⟨t, u, v, e⟩ := x; exact ⟨t, u, v, k _ _ (.inl rfl) e⟩
 | frz ob u ih => obtain ⟨e, q⟩ := x; exact ⟨k _ _ (.inl rfl) e, ih q⟩
 | tbl ps =>
  have e : h.get? a = some { cls := .none, data := .fields ps } := x
  show h'.get? a = some { cls := .none, data := .fields ps }
  exact k a _ (.inl rfl) e
 | met f y =>
  have e : h.get? a = some (PySem.W.methodObj (.ref f) (.ref y)) := x
  show h'.get? a = some (PySem.W.methodObj (.ref f) (.ref y))
  exact k a _ (.inl rfl) e
 | ext φ => obtain ⟨p, ⟨o, e⟩, st⟩ := x; exact ⟨st _ _ p fun o q => k _ _ (.inl rfl) q, ⟨o, k _ _ (.inl rfl) e⟩, st⟩
theorem HOk.lt (x : HOk P w H h) (e : H a = some o) : a < h.objs.size := (x a o e).lt
theorem HOk.fresh (x : HOk P w H h) (e : h.objs.size <= a) : H a = none := by
 cases q : H a with
 | none => rfl
 | some u => exact absurd (Nat.lt_of_lt_of_le (x.lt q) e) (Nat.lt_irrefl _)
theorem HOk.kept (x : HOk P w H h) (k : ∀ b u, h.get? b = some u -> h'.get? b = some u) : HOk P w H h' := fun a o e =>
 (x a o e).stay (fun b u _ q => k b u q) (fun _ q => q) fun _ _ q => q
theorem HOk.laid (x : HOk P w H h) (k : ∀ b u, h.get? b = some u -> h'.get? b = some u) (hp : h.objs.size <= a) (new : ObjOk P w (upd H a o) h' a o) : HOk P w (upd H a o) h' := fun b u e => by
 have hn := x.fresh hp
 by_cases hb : b = a
 ·subst hb; rw [upd_same] at e; cases e; exact new
 ·rw [upd_ne hb] at e
  exact (x b u e).stay (fun c v _ q => k c v q) (fun c q => by rw [upd_ne (ne_of_none q hn)]; exact q) fun c xs q => by rw [upd_ne (ne_of_none q hn)]; exact q
end
def Rd (H : Hp) (a : Addr) (u : HO) : Prop := H a = some u \/ ∃ o, H a = some (.frz o u)
theorem Rd.ok {P : Program} {w : World} {H : Hp} {h : Heap} {a : Addr} {u : HO} (r : Rd H a u) (x : HOk P w H h) : ObjOk P w H h a u := by
 rcases r with r | ⟨o, r⟩
 ·exact x a u r
 ·obtain ⟨_, q⟩ := x a _ r
  exact q
def Mut : Option HO -> Prop
 | some (.lst _) => True
 | some (.dK _) => True
 | some (.dT _) => True
 | some (.set _ _) => True
 | some (.ins _ _ _) => True
 | some (.ext _) => True
 | _ => False
section
variable {P : Program} {w : World} {H : Hp} {h h' : Heap} {x e : Addr} {o' : HO}
theorem HOk.write (ok : HOk P w H h) (mu : Mut (H x)) (he : e = x \/ H e = some (.own x)) (k : ∀ b u, b ≠ e -> h.get? b = some u -> h'.get? b = some u) (heo : ∃ u, h'.get? e = some u)
  (new : ObjOk P w (upd H x o') h' x o') : HOk P w (upd H x o') h' := fun b u q => by
 have nown : ∀ c y, H c = some (.own y) -> c ≠ x := fun c y r z => by subst z; rw [r] at mu; exact mu
 have ntup : ∀ c xs, H c = some (.tup xs) -> c ≠ x := fun c xs r z => by subst z; rw [r] at mu; exact mu
 by_cases hb : b = x
 ·subst hb; rw [upd_same] at q; cases q; exact new
 ·rw [upd_ne hb] at q
  by_cases hbe : b = e
  ·have q' : H b = some (.own x) := by
    rcases he with z | z
    ·exact absurd (hbe.trans z) hb
    ·rw [hbe]; exact z
   rw [q] at q'; cases q'
   obtain ⟨v, hv⟩ := heo
   exact ⟨v, by rw [hbe]; exact hv⟩
  ·refine (ok b u q).stay (fun c v hc r => k c v ?_ r) (fun c r => by rw [upd_ne (nown c b r)]; exact r) fun c xs r => by rw [upd_ne (ntup c xs r)]; exact r
   rcases hc with rfl | hc
   ·exact hbe
   ·rintro rfl
    rcases he with z | z
    ·exact nown c b hc z
    ·rw [hc] at z; cases z; exact hb rfl
end
structure Un (fs ex : List Addr) (H H' : Hp) (h h' : Heap) : Prop where
 keep : ∀ b o, h.get? b = some o -> H b = none -> b ∉ fs -> b ∉ ex -> h'.get? b = some o
 slot : ∀ b o, h.get? b = some o -> H b = none -> b ∈ fs -> b ∉ ex -> ∃ sl, h'.get? b = some { o with slots := sl }
 free : ∀ b o, h.get? b = some o -> H b = none -> b ∉ ex -> H' b = none
 there : ∀ b o, h.get? b = some o -> b ∉ ex -> ∃ o', h'.get? b = some o'
 tups : ∀ b xs, H b = some (.tup xs) -> H' b = some (.tup xs)
 frzs : ∀ b o u, H b = some (.frz o u) -> H' b = some (.frz o u)
 tbls : ∀ b ps, H b = some (.tbl ps) -> ∃ more, H' b = some (.tbl (ps ++ more))
section
variable {fs fs' ex ex' : List Addr} {H H1 H2 : Hp} {h h1 h2 h' : Heap} {a x e : Addr} {o : HO}
theorem Un.any (u : Un fs ex H H1 h h1) {b : Addr} {ob : Obj} (q : h.get? b = some ob) (n : H b = none) (hx : b ∉ ex) : ∃ sl, h1.get? b = some { ob with slots := sl } := by
 by_cases hb : b ∈ fs
 ·exact u.slot b ob q n hb hx
 ·exact ⟨ob.slots, u.keep b ob q n hb hx⟩
theorem Un.kept (k : ∀ b u, h.get? b = some u -> h'.get? b = some u) : Un fs ex H H h h' :=
 ⟨fun b ob q _ _ _ => k b ob q, fun b ob q _ _ _ => ⟨ob.slots, k b ob q⟩, fun _ _ _ n _ => n, fun b ob q _ => ⟨ob, k b ob q⟩, fun _ _ q => q, fun _ _ _ q => q, fun _ ps q => ⟨#[], by rw [q]; simp⟩⟩
theorem Un.refl : Un fs ex H H h h := Un.kept fun _ _ q => q
theorem Un.laid (k : ∀ b u, h.get? b = some u -> h'.get? b = some u) (hp : h.objs.size <= a) (hn : H a = none) : Un fs ex H (upd H a o) h h' where
 keep := fun b u q _ _ _ => k b u q
 slot := fun b u q _ _ _ => ⟨u.slots, k b u q⟩
 free := fun b u q n _ => by rw [upd_ne (Nat.ne_of_lt (Nat.lt_of_lt_of_le (Heap.lt_size q) hp))]; exact n
 there := fun b u q _ => ⟨u, k b u q⟩
 tups := fun b xs q => by rw [upd_ne (ne_of_none q hn)]; exact q
 frzs := fun b u xs q => by rw [upd_ne (ne_of_none q hn)]; exact q
 tbls := fun b ps q => ⟨#[], by rw [upd_ne (ne_of_none q hn), q]; simp⟩
theorem Un.write (mu : Mut (H x)) (he : e = x \/ H e = some (.own x)) (k : ∀ b u, b ≠ e -> h.get? b = some u -> h'.get? b = some u) (heo : ∃ u, h'.get? e = some u) : Un fs ex H (upd H x o) h h' := by
 have hx : ∀ b, H b = none -> b ≠ x := fun b n z => by subst z; rw [n] at mu; exact mu
 have hb : ∀ b, H b = none -> b ≠ e := fun b n z => by
  subst z
  rcases he with r | r
  ·exact hx b n r
  ·rw [n] at r; cases r
 have hm : ∀ b u, H b = some u -> ¬ Mut (some u) -> b ≠ x := fun b u q nm z => by subst z; rw [q] at mu; exact nm mu
 refine ⟨fun b u q n _ _ => k b u (hb b n) q, fun b u q n _ _ => ⟨u.slots, k b u (hb b n) q⟩, fun b u q n _ => by rw [upd_ne (hx b n)]; exact n, fun b u q _ => ?_,
  fun b xs q => by rw [upd_ne (hm b _ q fun z => z)]; exact q, fun b u xs q => by rw [upd_ne (hm b _ q fun z => z)]; exact q, fun b ps q => ⟨#[], by rw [upd_ne (hm b _ q fun z => z), q]; simp⟩⟩
 by_cases hbe : b = e
 ·subst hbe; exact heo
 ·exact ⟨u, k b u hbe q⟩
end
def trk (h : Heap) (H : Hp) : List Addr := (List.range h.objs.size).filter fun a => (H a).isSome
def hidT (h : Heap) (H : Hp) : Heap := PySem.W.hideAll h (trk h H)
theorem hidT_size (h : Heap) (H : Hp) : (hidT h H).objs.size = h.objs.size := PySem.W.hideAll_size _ _
theorem hidT_get {h : Heap} {H : Hp} {b : Addr} {o : Obj} (e : h.get? b = some o) (n : H b = none) : (hidT h H).get? b = some o :=
 PySem.W.hideAll_get _ e fun hm => by
  have q : (H b).isSome = true := (List.mem_filter.mp hm).2
  rw [n] at q; simp at q
theorem of_hidT {h : Heap} {H : Hp} {b : Addr} {o : Obj} (e : (hidT h H).get? b = some o) : h.get? b = some o /\ H b = none := by
 have e' : h.get? b = some o := PySem.W.of_hideAll (trk h H) e
 refine ⟨e', ?_⟩
 cases q : H b with
 | none => rfl
 | some x =>
  have hm : b ∈ trk h H := List.mem_filter.mpr ⟨List.mem_range.mpr (Heap.lt_size e'), by simp [q]⟩
  have z : (hidT h H).get? b = none := PySem.W.hideAll_none (trk h H) hm
  rw [z] at e; cases e
end L2
namespace L2
open PySem PySem.Spec PyProof.Rows
structure Mod (K : PySem.W.Frag) (mg : Str -> Option Value) (base : Heap) : Prop where
 kin : K.In base
 glob : base.Ns mainGlobals mg
 blt : ∃ mb, base.Ns builtinsNs mb /\ ∀ x : Str, x ≠ "__name__" -> mb x = bootBuiltins x
 nolimit : base.NoLimit
structure Cx where
 prog : Program
 w : World
 K : PySem.W.Frag
 mg : Str -> Option Value
 base : Heap
 A : Around
 N : List Str
 s₀ : Shared
 H₀ : Hp
 env : Env
 outer : List Env
 stack : List Env
 ex : List Addr
 fn : Str -> Bool
 calm : Bool
 pn : List (Addr × Obj)
 xe : Value -> Shared -> Prop
def frs (l : List Env) : List Addr := l.filterMap (·.frame)
abbrev Cx.fs (X : Cx) : List Addr := frs X.outer
def Vis (sc : Scope) (x : Str) : Prop := sc.names.lookup x = some .local \/ sc.names.lookup x = some .cell \/ sc.names.lookup x = some .free
def Loc (sc : Scope) (x : Str) : Prop := sc.names.lookup x = some .local \/ sc.names.lookup x = some .cell
def Look (env : Env) (h : Heap) (m : Str -> Option Value) (x : Str) (u : Value) : Prop :=
 (env.kindOf x = some .local /\ m x = some u) \/ ((env.kindOf x = some .cell \/ env.kindOf x = some .free) /\ ∃ c, env.cells.lookup x = some c /\ h.IsCell c (some u))
structure Cx.Ok (X : Cx) : Prop where
 mod : Mod X.K X.mg X.base
 kind : X.env.scope.kind = .function
 glob : X.env.globals = mainGlobals
 blt : X.env.builtins = builtinsNs
 above : X.s₀.heap.objs.size <= X.env.locals
 inj : ∀ x y c, X.env.cells.lookup x = some c -> X.env.cells.lookup y = some c -> x = y
 has : ∀ x, (X.env.kindOf x = some .cell \/ X.env.kindOf x = some .free) -> ∃ c, X.env.cells.lookup x = some c
 cab : ∀ x c, X.fn x = true -> X.env.cells.lookup x = some c -> X.s₀.heap.objs.size <= c
 hd : X.calm = true -> X.A.handled = none
 frames : X.A.frames = some X.stack
 stk : X.stack = X.outer \/ (X.stack = X.env :: X.outer /\ X.env.frame = some X.env.locals)
 exf : ∀ b ∈ X.ex, b ≠ X.env.locals /\ ∀ x c, X.env.cells.lookup x = some c -> c ≠ b
 bs : ∀ b o, X.base.get? b = some o -> X.s₀.heap.get? b = some o /\ X.H₀ b = none
 bsz : X.base.objs.size <= X.s₀.heap.objs.size
 noex : ∀ b o, X.base.get? b = some o -> b ∉ X.ex
 exfs : ∀ b ∈ X.ex, b ∉ X.fs
 funs : X.s₀.heap.FunFrames X.base X.outer
 frf : ∀ b ∈ X.fs, X.H₀ b = none
structure Inv (X : Cx) (pins : List (Addr × Obj)) (σ : List (Option V)) (H : Hp) (s : Shared) : Prop where
 ok : X.Ok
 os : s.os = X.s₀.os
 bare : AllBare s.gens
 base : Un X.fs X.ex X.H₀ H X.s₀.heap s.heap
 loc : ∃ m, s.heap.Ns X.env.locals m /\ ∀ (i : Nat) (x : Str) (v : V), X.N[i]? = some x -> σ[i]? = some (some v) -> Vis X.env.scope x -> ∃ u, RelV v u /\ Look X.env s.heap m x u
 cell : ∀ x c, X.env.cells.lookup x = some c -> ∃ v, s.heap.IsCell c v
 free : H X.env.locals = none
 freeC : ∀ x c, X.env.cells.lookup x = some c -> H c = none
 pin : ∀ p ∈ X.pn ++ pins, s.heap.get? p.1 = some p.2 /\ H p.1 = none /\ p.1 ≠ X.env.locals /\ p.1 ∉ X.fs /\ ∀ v, p.2.data ≠ .cell v
 hok : HOk X.prog X.w H s.heap
 len : σ.length = X.N.length
section
variable {X : Cx} {pins : List (Addr × Obj)} {σ : List (Option V)} {H H' : Hp} {s : Shared} {h' : Heap}
theorem Cx.Ok.nofr (ok : X.Ok) {b : Addr} {o : Obj} (e : X.base.get? b = some o) : b ∉ X.fs := fun hb => by
 have := (ok.funs.mem hb).1
 rw [e] at this; cases this
theorem Inv.bs (I : Inv X pins σ H s) : ∀ b o, X.base.get? b = some o -> s.heap.get? b = some o /\ H b = none := fun b o e =>
 ⟨I.base.keep b o (I.ok.bs b o e).1 (I.ok.bs b o e).2 (I.ok.nofr e) (I.ok.noex b o e), I.base.free b o (I.ok.bs b o e).1 (I.ok.bs b o e).2 (I.ok.noex b o e)⟩
theorem Inv.bk (I : Inv X pins σ H s) : ∀ b o, X.base.get? b = some o -> s.heap.get? b = some o := fun b o e => (I.bs b o e).1
theorem Inv.mod (I : Inv X pins σ H s) : Mod X.K X.mg X.base := I.ok.mod
theorem Inv.kIn (I : Inv X pins σ H s) : X.K.In s.heap := I.ok.mod.kin.keeps I.bk
theorem Inv.lt (I : Inv X pins σ H s) : X.env.locals < s.heap.objs.size := let ⟨_, hn, _⟩ := I.loc; hn.lt
theorem Inv.sz (I : Inv X pins σ H s) : X.s₀.heap.objs.size <= s.heap.objs.size := Nat.le_trans I.ok.above (Nat.le_of_lt I.lt)
theorem Inv.nofs (I : Inv X pins σ H s) {a : Addr} (h : s.heap.objs.size <= a) : a ∉ X.fs := fun hb => by
 obtain ⟨_, o, ho, _⟩ := I.ok.funs.mem hb
 exact absurd (Nat.lt_of_lt_of_le (Heap.lt_size ho) (Nat.le_trans I.sz h)) (Nat.lt_irrefl _)
theorem Inv.cne (I : Inv X pins σ H s) : ∀ x c, X.env.cells.lookup x = some c -> c ≠ X.env.locals := fun x c e z => by
 obtain ⟨v, o, ho, hd⟩ := I.cell x c e
 obtain ⟨m, ⟨o', es, ep, ho', hd', _⟩, _⟩ := I.loc
 rw [z, ho'] at ho; cases ho; rw [hd'] at hd; cases hd
theorem Inv.funs (I : Inv X pins σ H s) : s.heap.FunFrames X.base X.outer := by
 have all : ∀ (l : List Env), (∀ b ∈ frs l, b ∈ X.fs) -> X.s₀.heap.FunFrames X.base l -> s.heap.FunFrames X.base l := by
  intro l
  induction l with
  | nil => intro _ _; trivial
  | cons env r ih =>
   intro hs hl
   obtain ⟨hk, ⟨L, o, hf, hn, ho, hd⟩, hr⟩ := hl
   have hL : L ∈ X.fs := hs L (by unfold frs; rw [List.filterMap_cons, hf]; exact List.mem_cons_self)
   obtain ⟨sl, e⟩ := I.base.slot L o ho (I.ok.frf L hL) hL fun z => I.ok.exfs L z hL
   exact ⟨hk, ⟨L, _, hf, hn, e, hd⟩, ih (fun b hb => hs b (by unfold frs; rw [List.filterMap_cons, hf]; exact List.mem_cons_of_mem _ hb)) hr⟩
 exact all X.outer (fun _ hb => hb) I.ok.funs
theorem Inv.stack (I : Inv X pins σ H s) : s.heap.FunFrames X.base X.stack := by
 rcases I.ok.stk with e | ⟨e, hf⟩
 ·rw [e]; exact I.funs
 ·rw [e]
  obtain ⟨m, hn, _⟩ := I.loc
  refine .cons (by rw [I.ok.kind]; decide) hf hn ?_ I.funs
  exact Heap.get?_none_of_le (Nat.le_trans I.ok.bsz I.ok.above)
theorem Inv.stkSub (I : Inv X pins σ H s) : ∀ b ∈ frs X.stack, b ∈ X.env.locals :: X.fs := fun b hb => by
 rcases I.ok.stk with e | ⟨e, hf⟩
 ·rw [e] at hb; exact List.mem_cons_of_mem _ hb
 ·rw [e] at hb
  unfold frs at hb
  rw [List.filterMap_cons, hf] at hb
  exact hb
theorem Inv.stkFree (I : Inv X pins σ H s) : ∀ b ∈ frs X.stack, H b = none := fun b hb => by
 rcases List.mem_cons.mp (I.stkSub b hb) with e | hb
 ·rw [e]; exact I.free
 ·obtain ⟨_, o, ho, _⟩ := I.ok.funs.mem hb
  exact I.base.free b o ho (I.ok.frf b hb) fun z => I.ok.exfs b z hb
theorem Inv.step {g' : Array GenState} {t' : Nat} {d' : Drawn} {ch : List Addr} (I : Inv X pins σ H s)
  (hch : ∀ b ∈ ch, (b ∈ X.ex \/ X.s₀.heap.objs.size <= b) /\ b ≠ X.env.locals /\ (∀ x c, X.env.cells.lookup x = some c -> c ≠ b) /\ ∀ p ∈ X.pn ++ pins, p.1 ≠ b)
  (keep : ∀ b o, b ≠ X.env.locals -> b ∉ X.fs -> b ∉ ch -> s.heap.get? b = some o -> H b = none -> h'.get? b = some o)
  (slot : ∀ b o, b ≠ X.env.locals -> b ∈ X.fs -> b ∉ ch -> s.heap.get? b = some o -> H b = none -> ∃ sl, h'.get? b = some { o with slots := sl }) (free : ∀ b o, b ∉ ch -> s.heap.get? b = some o -> H b = none -> H' b = none)
  (there : ∀ b o, b ∉ ch -> s.heap.get? b = some o -> ∃ o', h'.get? b = some o')
  (tups : ∀ b xs, H b = some (.tup xs) -> H' b = some (.tup xs)) (frzs : ∀ b o u, H b = some (.frz o u) -> H' b = some (.frz o u)) (tbls : ∀ b ps, H b = some (.tbl ps) -> ∃ more, H' b = some (.tbl (ps ++ more)))
  (ns : ∀ m, s.heap.Ns X.env.locals m -> h'.Ns X.env.locals m) (hok : HOk X.prog X.w H' h') (hg : AllBare g') :
  Inv X pins σ H' { s with heap := h', gens := g', drawn := d', toks := t' } := by
 have neL : ∀ b o, X.s₀.heap.get? b = some o -> b ≠ X.env.locals := fun b o e => Nat.ne_of_lt (Nat.lt_of_lt_of_le (Heap.lt_size e) I.ok.above)
 have neC : ∀ b o, X.s₀.heap.get? b = some o -> b ∉ X.ex -> b ∉ ch := fun b o e hx hb => by
  rcases (hch b hb).1 with z | z
  ·exact hx z
  ·exact absurd (Nat.lt_of_lt_of_le (Heap.lt_size e) z) (Nat.lt_irrefl _)
 have cellK : ∀ x c, X.env.cells.lookup x = some c -> ∀ v, s.heap.IsCell c v -> h'.IsCell c v := fun x c e v ⟨o, ho, hd⟩ => by
  have nch : c ∉ ch := fun z => (hch c z).2.2.1 x c e rfl
  by_cases hc : c ∈ X.fs
  ·obtain ⟨sl, q⟩ := slot c o (I.cne x c e) hc nch ho (I.freeC x c e)
   exact ⟨_, q, hd⟩
  ·exact ⟨o, keep c o (I.cne x c e) hc nch ho (I.freeC x c e), hd⟩
 refine ⟨I.ok, I.os, hg, ⟨fun b o e n hb hx => ?_, fun b o e n hb hx => ?_, fun b o e n hx => ?_, fun b o e hx => ?_, fun b xs e => tups b xs (I.base.tups b xs e), fun b o xs e => frzs b o xs (I.base.frzs b o xs e), fun b ps e => ?_⟩, ?_, fun x c e => ?_, ?_, fun x c e => ?_, fun p hp => ?_, hok, I.len⟩
 ·exact keep b o (neL b o e) hb (neC b o e hx) (I.base.keep b o e n hb hx) (I.base.free b o e n hx)
 ·obtain ⟨sl, e1⟩ := I.base.slot b o e n hb hx
  obtain ⟨sl', e2⟩ := slot b _ (neL b o e) hb (neC b o e hx) e1 (I.base.free b o e n hx)
  exact ⟨sl', e2⟩
 ·obtain ⟨o', e1⟩ := I.base.there b o e hx
  exact free b o' (neC b o e hx) e1 (I.base.free b o e n hx)
 ·obtain ⟨o', e1⟩ := I.base.there b o e hx
  exact there b o' (neC b o e hx) e1
 ·obtain ⟨m1, e1⟩ := I.base.tbls b ps e
  obtain ⟨m2, e2⟩ := tbls b _ e1
  exact ⟨m1 ++ m2, by rw [e2, Array.append_assoc]⟩
 ·obtain ⟨m, hn, hl⟩ := I.loc
  refine ⟨m, ns m hn, fun i x v e1 e2 e3 => ?_⟩
  obtain ⟨u, r, l⟩ := hl i x v e1 e2 e3
  refine ⟨u, r, ?_⟩
  rcases l with l | ⟨k, c, e, z⟩
  ·exact .inl l
  ·exact .inr ⟨k, c, e, cellK x c e _ z⟩
 ·obtain ⟨v, z⟩ := I.cell x c e
  exact ⟨v, cellK x c e v z⟩
 ·obtain ⟨m, ⟨o, _, _, ho, _⟩, _⟩ := I.loc
  exact free _ o (fun z => (hch _ z).2.1 rfl) ho I.free
 ·obtain ⟨v, o, ho, hd⟩ := I.cell x c e
  exact free c o (fun z => (hch c z).2.2.1 x c e rfl) ho (I.freeC x c e)
 ·obtain ⟨e, n, ne, nf, d⟩ := I.pin p hp
  have nch : p.1 ∉ ch := fun z => (hch p.1 z).2.2.2 p hp rfl
  exact ⟨keep p.1 p.2 ne nf nch e n, free p.1 p.2 nch e n, ne, nf, d⟩
theorem Inv.un {t' : Nat} (I : Inv X pins σ H s) (u : Un X.fs [] H H' s.heap h') (hok : HOk X.prog X.w H' h') : Inv X pins σ H' { s with heap := h', toks := t' } := by
 obtain ⟨m, ⟨o, es, ep, ho, r⟩, _⟩ := id I.loc
 obtain ⟨sl, hL⟩ := u.any ho I.free (by simp)
 exact I.step (g' := s.gens) (d' := s.drawn) (ch := []) (fun _ z => nomatch z) (fun b o _ hb _ e n => u.keep b o e n hb (by simp)) (fun b o _ hb _ e n => u.slot b o e n hb (by simp)) (fun b o _ e n => u.free b o e n (by simp)) (fun b o _ e => u.there b o e (by simp)) u.tups u.frzs u.tbls (fun m' hm => by
  obtain ⟨o', es', ep', ho', r'⟩ := hm
  rw [ho] at ho'; cases ho'
  exact ⟨_, es', ep', hL, r'⟩) hok I.bare
theorem Inv.call {g' : Array GenState} {t' : Nat} {d' : Drawn} {ch : List Addr} (I : Inv X pins σ H s) (u : Un (frs X.stack) ch H H' s.heap h') (hok : HOk X.prog X.w H' h') (hg : AllBare g')
  (hch : ∀ b ∈ ch, (b ∈ X.ex \/ X.s₀.heap.objs.size <= b) /\ b ≠ X.env.locals /\ (∀ x c, X.env.cells.lookup x = some c -> c ≠ b) /\ ∀ p ∈ X.pn ++ pins, p.1 ≠ b) :
  Inv X pins σ H' { s with heap := h', gens := g', drawn := d', toks := t' } := by
 obtain ⟨m, ⟨o, es, ep, ho, r⟩, _⟩ := id I.loc
 obtain ⟨sl, hL⟩ := u.any ho I.free fun z => (hch _ z).2.1 rfl
 exact I.step (ch := ch) hch (fun b o hL hb hc e n => u.keep b o e n (fun z => (List.mem_cons.mp (I.stkSub b z)).elim hL hb) hc) (fun b o _ _ hc e n => u.any e n hc) (fun b o hc e n => u.free b o e n hc) (fun b o hc e => u.there b o e hc) u.tups u.frzs u.tbls (fun m' hm => by
  obtain ⟨o', es', ep', ho', r'⟩ := hm
  rw [ho] at ho'; cases ho'
  exact ⟨_, es', ep', hL, r'⟩) hok hg
theorem Inv.turned {t' : Nat} {it : Addr} (I : Inv X pins σ H s) (k : ∀ b o, b ≠ it -> s.heap.get? b = some o -> h'.get? b = some o) (hn : H it = none) (hL : it ≠ X.env.locals)
  (h1 : it ∈ X.ex \/ X.s₀.heap.objs.size <= it) (h2 : ∀ x c, X.env.cells.lookup x = some c -> c ≠ it) (h3 : ∀ p ∈ X.pn ++ pins, p.1 ≠ it) : Inv X pins σ H { s with heap := h', toks := t' } := by
 have nit : ∀ b u, H b = some u -> b ≠ it := fun b u e z => by rw [z, hn] at e; cases e
 refine I.step (g' := s.gens) (d' := s.drawn) (ch := [it]) (fun b hb => ?_) (fun b o _ _ hc e _ => k b o (fun z => hc (by simp [z])) e) (fun b o _ _ hc e _ => ⟨o.slots, k b o (fun z => hc (by simp [z])) e⟩) (fun _ _ _ _ n => n)
  (fun b o hc e => ⟨o, k b o (fun z => hc (by simp [z])) e⟩) (fun _ _ e => e) (fun _ _ _ e => e) (fun b ps e => ⟨#[], by rw [e]; simp⟩) (fun m hm => ?_) (fun b u e => ?_) I.bare
 ·have e : b = it := by simpa using hb
  subst e
  exact ⟨h1, hL, h2, h3⟩
 ·obtain ⟨o, es, ep, ho, r⟩ := hm
  exact ⟨o, es, ep, k _ o (Ne.symm hL) ho, r⟩
 ·refine (I.hok b u e).stay (fun c v hc q => k c v ?_ q) (fun _ q => q) fun _ _ q => q
  rcases hc with z | z
  ·rw [z]; exact nit b u e
  ·exact nit c _ z
theorem Inv.tok (I : Inv X pins σ H s) (t : Nat) : Inv X pins σ H { s with toks := t } := I.un (h' := s.heap) (t' := t) Un.refl I.hok
theorem Inv.kept {t' : Nat} (I : Inv X pins σ H s) (k : ∀ b u, s.heap.get? b = some u -> h'.get? b = some u) : Inv X pins σ H { s with heap := h', toks := t' } := I.un (Un.kept k) (I.hok.kept k)
theorem Inv.laid {a : Addr} {o : HO} {t' : Nat} (I : Inv X pins σ H s) (k : ∀ b u, s.heap.get? b = some u -> h'.get? b = some u) (hp : s.heap.objs.size <= a) (new : ObjOk X.prog X.w (upd H a o) h' a o) :
  Inv X pins σ (upd H a o) { s with heap := h', toks := t' } := I.un (Un.laid k hp (I.hok.fresh hp)) (I.hok.laid k hp new)
theorem Inv.write {x e : Addr} {o : HO} {t' : Nat} (I : Inv X pins σ H s) (mu : Mut (H x)) (he : e = x \/ H e = some (.own x)) (k : ∀ b u, b ≠ e -> s.heap.get? b = some u -> h'.get? b = some u) (heo : ∃ u, h'.get? e = some u)
  (new : ObjOk X.prog X.w (upd H x o) h' x o) : Inv X pins σ (upd H x o) { s with heap := h', toks := t' } := I.un (Un.write mu he k heo) (I.hok.write mu he k heo new)
theorem Inv.pins_of {pins' : List (Addr × Obj)} (I : Inv X pins σ H s) (h : ∀ p ∈ pins', s.heap.get? p.1 = some p.2 /\ H p.1 = none /\ p.1 ≠ X.env.locals /\ p.1 ∉ X.fs /\ ∀ v, p.2.data ≠ .cell v) : Inv X pins' σ H s :=
 ⟨I.ok, I.os, I.bare, I.base, I.loc, I.cell, I.free, I.freeC, fun p hp => (List.mem_append.mp hp).elim (fun z => I.pin p (List.mem_append_left _ z)) (h p), I.hok, I.len⟩
theorem nodup_ix {N : List Str} (hN : N.Nodup) {i j : Nat} {x : Str} (a : N[i]? = some x) (b : N[j]? = some x) : i = j := by
 obtain ⟨h1, e1⟩ := List.getElem?_eq_some_iff.mp a
 obtain ⟨h2, e2⟩ := List.getElem?_eq_some_iff.mp b
 exact (List.getElem_inj hN).mp (e1.trans e2.symm)
theorem store_ok2 {M : Model} {A : Around} {E : Value -> Shared -> Prop} {i : Nat} {x : Str} {v : V} {u : Value} {Q : Unit -> Shared -> Prop} (I : Inv X pins σ H s) (hN : X.N.Nodup) (hi : X.N[i]? = some x) (hx : Loc X.env.scope x) (r : RelV v u)
  (h : ∀ s', Inv X pins (σ.set i (some v)) H s' -> (∃ a, Heap.SameBut a s.heap s'.heap /\ (a = X.env.locals \/ X.env.cells.lookup x = some a)) -> Q () s') (hf : X.fn x = true \/ X.env.scope.names.lookup x = some .local := by first | exact .inl rfl | exact .inr rfl | assumption) : wpAny M A (storeName X.env x u) Q E s := by
 obtain ⟨m, hn, hl⟩ := id I.loc
 have hcls : (X.env.scope.kind == .class || (X.env.scope.kind == .module && X.env.locals != X.env.globals)) = false := by rw [I.ok.kind]; rfl
 have hiσ : i < σ.length := by rw [I.len]; exact (List.getElem?_eq_some_iff.mp hi).1
 have cne := I.cne
 have tracked : ∀ {a : Addr} {h' : Heap}, (∃ o, s.heap.get? a = some o /\ H a = none) -> Heap.SameBut a s.heap h' -> HOk X.prog X.w H h' := fun {a h'} ha hs b ob e => by
  obtain ⟨_, _, hfree⟩ := ha
  refine (I.hok b ob e).stay (fun c w' hc q => (hs.2 c ?_).trans q) (fun _ q => q) fun _ _ q => q
  rintro rfl
  rcases hc with rfl | hc
  ·rw [hfree] at e; cases e
  ·rw [hfree] at hc; cases hc
 rcases hx with hk | hk
 ·refine wpAny_storeName_local hk hn (fun h' hn' hs => ?_) hcls
  obtain ⟨oL, _, _, hoL, _⟩ := id hn
  refine h _ ⟨I.ok, I.os, I.bare, ⟨fun b o e n hb hx => ?_, fun b o e n hb hx => ?_, I.base.free, fun b o e hx => ?_, I.base.tups, I.base.frzs, I.base.tbls⟩, ⟨_, hn', fun j y v' e1 e2 e3 => ?_⟩, fun y c e => ?_, I.free, I.freeC, fun p hp => ?_, tracked ⟨oL, hoL, I.free⟩ hs, by simpa using I.len⟩ ⟨_, hs, .inl rfl⟩
  ·exact (hs.2 b (Nat.ne_of_lt (Nat.lt_of_lt_of_le (Heap.lt_size e) I.ok.above))).trans (I.base.keep b o e n hb hx)
  ·obtain ⟨sl, e1⟩ := I.base.slot b o e n hb hx
   exact ⟨sl, (hs.2 b (Nat.ne_of_lt (Nat.lt_of_lt_of_le (Heap.lt_size e) I.ok.above))).trans e1⟩
  ·obtain ⟨o', e1⟩ := I.base.there b o e hx
   exact ⟨o', (hs.2 b (Nat.ne_of_lt (Nat.lt_of_lt_of_le (Heap.lt_size e) I.ok.above))).trans e1⟩
  ·by_cases hj : j = i
   ·subst hj
    rw [hi] at e1; cases e1
    rw [List.getElem?_set_self hiσ] at e2
    cases e2
    exact ⟨u, r, .inl ⟨hk, by simp⟩⟩
   ·rw [List.getElem?_set_ne (Ne.symm hj)] at e2
    obtain ⟨u', r', q⟩ := hl j y v' e1 e2 e3
    refine ⟨u', r', ?_⟩
    rcases q with ⟨k, e⟩ | ⟨k, c, e, z⟩
    ·refine .inl ⟨k, ?_⟩
     have : y ≠ x := fun e => hj (nodup_ix hN e1 (e ▸ hi))
     simp [this, e]
    ·exact .inr ⟨k, c, e, z.sameBut hs (cne y c e)⟩
  ·obtain ⟨w', z⟩ := I.cell y c e
   exact ⟨w', z.sameBut hs (cne y c e)⟩
  ·obtain ⟨e, n, ne, nf, d⟩ := I.pin p hp
   exact ⟨(hs.2 p.1 ne).trans e, n, ne, nf, d⟩
 ·have hfn : X.fn x = true := by
   rcases hf with z | z
   ·exact z
   ·rw [z] at hk; cases hk
  obtain ⟨c, hc⟩ := I.ok.has x (.inl hk)
  obtain ⟨w', z⟩ := I.cell x c hc
  refine wpAny_storeName_cell I.ok.kind hk hc z (fun h' hc' hs => ?_)
  obtain ⟨oc, hoc, hocd⟩ := id z
  refine h { s with heap := h' } ⟨I.ok, I.os, I.bare, ⟨fun b o e n hb hx => ?_, fun b o e n hb hx => ?_, I.base.free, fun b o e hx => ?_, I.base.tups, I.base.frzs, I.base.tbls⟩, ⟨m, hn.sameBut hs (Ne.symm (cne x c hc)), fun j y v' e1 e2 e3 => ?_⟩, fun y c' e => ?_, I.free, I.freeC, fun p hp => ?_, tracked ⟨oc, hoc, I.freeC x c hc⟩ hs, by simpa using I.len⟩ ⟨c, hs, .inr hc⟩
  ·exact (hs.2 b (Nat.ne_of_lt (Nat.lt_of_lt_of_le (Heap.lt_size e) (I.ok.cab x c hfn hc)))).trans (I.base.keep b o e n hb hx)
  ·obtain ⟨sl, e1⟩ := I.base.slot b o e n hb hx
   exact ⟨sl, (hs.2 b (Nat.ne_of_lt (Nat.lt_of_lt_of_le (Heap.lt_size e) (I.ok.cab x c hfn hc)))).trans e1⟩
  ·obtain ⟨o', e1⟩ := I.base.there b o e hx
   exact ⟨o', (hs.2 b (Nat.ne_of_lt (Nat.lt_of_lt_of_le (Heap.lt_size e) (I.ok.cab x c hfn hc)))).trans e1⟩
  ·by_cases hj : j = i
   ·subst hj
    rw [hi] at e1; cases e1
    rw [List.getElem?_set_self hiσ] at e2
    cases e2
    exact ⟨u, r, .inr ⟨.inl hk, c, hc, hc'⟩⟩
   ·rw [List.getElem?_set_ne (Ne.symm hj)] at e2
    obtain ⟨u', r', q⟩ := hl j y v' e1 e2 e3
    refine ⟨u', r', ?_⟩
    rcases q with q | ⟨k, c', e, z'⟩
    ·exact .inl q
    ·refine .inr ⟨k, c', e, z'.sameBut hs ?_⟩
     rintro rfl
     exact hj (nodup_ix hN e1 (I.ok.inj _ _ _ e hc ▸ hi))
  ·by_cases hcc : c' = c
   ·subst hcc; exact ⟨_, hc'⟩
   ·obtain ⟨w2, z2⟩ := I.cell y c' e
    exact ⟨w2, z2.sameBut hs hcc⟩
  ·obtain ⟨e, n, ne, nf, d⟩ := I.pin p hp
   refine ⟨(hs.2 p.1 ?_).trans e, n, ne, nf, d⟩
   intro q
   rw [q, hoc] at e
   have q' : oc = p.2 := Option.some.inj e
   exact d w' (by rw [<- q']; exact hocd)
theorem store_ok {M : Model} {A : Around} {E : Value -> Shared -> Prop} {i : Nat} {x : Str} {v : V} {u : Value} {Q : Unit -> Shared -> Prop} (I : Inv X pins σ H s) (hN : X.N.Nodup) (hi : X.N[i]? = some x) (hx : Loc X.env.scope x) (r : RelV v u)
  (h : ∀ s', Inv X pins (σ.set i (some v)) H s' -> Q () s') (hf : X.fn x = true \/ X.env.scope.names.lookup x = some .local := by first | exact .inl rfl | exact .inr rfl | assumption) : wpAny M A (storeName X.env x u) Q E s :=
 store_ok2 I hN hi hx r (fun s' I' _ => h s' I') hf
theorem Inv.call' {s' : Shared} {ch : List Addr} (I : Inv X pins σ H s) (ho : s'.os = s.os) (u : Un (frs X.stack) ch H H' s.heap s'.heap) (hok : HOk X.prog X.w H' s'.heap) (hg : AllBare s'.gens)
  (hch : ∀ b ∈ ch, (b ∈ X.ex \/ X.s₀.heap.objs.size <= b) /\ b ≠ X.env.locals /\ (∀ x c, X.env.cells.lookup x = some c -> c ≠ b) /\ ∀ p ∈ X.pn ++ pins, p.1 ≠ b) : Inv X pins σ H' s' := by
 obtain ⟨h', g', d', t', o'⟩ := s'
 have e : o' = s.os := ho
 subst e
 exact I.call (g' := g') (t' := t') (d' := d') u hok hg hch
end
abbrev XK := Value -> Option Addr -> Hp -> Prop
abbrev St := List (Option V)
abbrev VK := V -> Hp -> Prop
abbrev TE := St -> Hp -> VK -> Prop
abbrev TT := St -> Hp -> (Bool -> Hp -> Prop) -> Prop
abbrev TA := St -> Hp -> (List V -> Hp -> Prop) -> Prop
structure Ends where
 nx : St -> Hp -> Prop
 rt : VK
 bk : St -> Hp -> Prop := fun _ _ => False
 ct : St -> Hp -> Prop := fun _ _ => False
abbrev TS := Ends -> St -> Hp -> Prop
def EP (X : Cx) (pins : List (Addr × Obj)) (σ : St) (Q : VK) (u : Value) (s' : Shared) : Prop := ∃ v H', Inv X pins σ H' s' /\ RelV v u /\ Q v H'
def TP (X : Cx) (pins : List (Addr × Obj)) (σ : St) (Q : Bool -> Hp -> Prop) (b : Bool) (s' : Shared) : Prop := ∃ H', Inv X pins σ H' s' /\ Q b H'
def AP (X : Cx) (pins : List (Addr × Obj)) (σ : St) (Q : List V -> Hp -> Prop) (us : List Value) (s' : Shared) : Prop := ∃ vs H', Inv X pins σ H' s' /\ Vals vs us /\ Q vs H'
def SP (X : Cx) (pins : List (Addr × Obj)) (D : Ends) (f : Flow) (s' : Shared) : Prop :=
 match f with
 | .next => ∃ σ' H', Inv X pins σ' H' s' /\ D.nx σ' H'
 | .brk => ∃ σ' H', Inv X pins σ' H' s' /\ D.bk σ' H'
 | .cont => ∃ σ' H', Inv X pins σ' H' s' /\ D.ct σ' H'
 | .ret u => ∃ v σ' H', Inv X pins σ' H' s' /\ RelV v u /\ D.rt v H'
def PE (X : Cx) (e : Expr) (t : TE) : Prop :=
 ∀ (pins : List (Addr × Obj)) (s : Shared) (σ : St) (H : Hp) (Q : VK), Inv X pins σ H s -> t σ H Q -> wpAny (model X.prog X.w) X.A (eval e X.env) (EP X pins σ Q) X.xe s
def PT (X : Cx) (e : Expr) (t : TT) : Prop :=
 ∀ (pins : List (Addr × Obj)) (s : Shared) (σ : St) (H : Hp) (Q : Bool -> Hp -> Prop), Inv X pins σ H s -> t σ H Q -> wpAny (model X.prog X.w) X.A (isTrue e X.env (eval e X.env)) (TP X pins σ Q) X.xe s
def PW (X : Cx) (e : Expr) (t : TT) : Prop :=
 ∀ (whole : Sem Value) (pins : List (Addr × Obj)) (s : Shared) (σ : St) (H : Hp) (Q : Bool -> Hp -> Prop), Inv X pins σ H s -> t σ H Q -> wpAny (model X.prog X.w) X.A (isTrue e X.env whole) (TP X pins σ Q) X.xe s
theorem PW.pt {X : Cx} {e : Expr} {t : TT} (h : PW X e t) : PT X e t := h _
def PA (X : Cx) (es : List Expr) (t : TA) : Prop :=
 ∀ (pos : Pos) (pins : List (Addr × Obj)) (s : Shared) (σ : St) (H : Hp) (Q : List V -> Hp -> Prop), Inv X pins σ H s -> t σ H Q -> wpAny (model X.prog X.w) X.A (spliced (backTo pos (starEach es X.env))) (AP X pins σ Q) X.xe s
def PS (X : Cx) (st : Stmt) (t : TS) : Prop :=
 ∀ (pins : List (Addr × Obj)) (s : Shared) (σ : St) (H : Hp) (D : Ends), Inv X pins σ H s -> t D σ H -> wpAny (model X.prog X.w) X.A (exec st X.env) (SP X pins D) X.xe s
def PSs (X : Cx) (st : List Stmt) (t : TS) : Prop :=
 ∀ (pins : List (Addr × Obj)) (s : Shared) (σ : St) (H : Hp) (D : Ends), Inv X pins σ H s -> t D σ H -> wpAny (model X.prog X.w) X.A (execs st X.env) (SP X pins D) X.xe s
theorem thn {α : Type} {t : Sem α} {Q Q' : α -> Shared -> Prop} {M : Model} {A : Around} {E : Value -> Shared -> Prop} {s : Shared} (h : wpAny M A t Q E s) (hQ : ∀ a s, Q a s -> Q' a s) : wpAny M A t Q' E s := wpAny_mono h hQ fun _ _ x => x
end L2
namespace L2
open PySem PySem.Spec PyProof.Rows
section
variable {X : Cx}
theorem bin {a b : Expr} {ta tb : TE} (ha : PE X a ta) (hb : PE X b tb) {pins : List (Addr × Obj)} {s : Shared} {σ : St} {H : Hp} {R : V -> V -> Hp -> Prop} (I : Inv X pins σ H s) (h : ta σ H fun x H1 => tb σ H1 fun y H2 => R x y H2)
  {α : Type} {Q : α -> Shared -> Prop} {f : Value -> Value -> Sem α}
  (hf : ∀ v u s2 x y H2, Inv X pins σ H2 s2 -> RelV x v -> RelV y u -> R x y H2 -> wpAny (model X.prog X.w) X.A (f v u) Q X.xe s2) :
  wpAny (model X.prog X.w) X.A (eval a X.env) (fun v s₁ => wpAny (model X.prog X.w) X.A (eval b X.env) (fun u s₂ => wpAny (model X.prog X.w) X.A (f v u) Q X.xe s₂) X.xe s₁) X.xe s := by
 refine thn (ha pins s σ H _ I h) fun v s1 ⟨x, H1, I1, r1, q1⟩ => ?_
 refine thn (hb pins s1 σ H1 _ I1 q1) fun u s2 ⟨y, H2, I2, r2, q2⟩ => ?_
 exact hf v u s2 x y H2 I2 r1 r2 q2
def tVar (i : Nat) : TE := fun σ H Q => ∃ v, σ[i]? = some (some v) /\ Q v H
def tC (v : V) : TE := fun _ H Q => Q v H
theorem pe_var {i : Nat} {x : Str} {pos : Pos} (hN : X.N[i]? = some x) (hv : Vis X.env.scope x) (hd : (x == ("__debug__" : Str)) = false := by decide) (hcd : (x == ("__classdict__" : Str)) = false := by decide) : PE X (.Name x pos) (tVar i) := by
 intro pins s σ H Q I h
 obtain ⟨v, e, h⟩ := h
 obtain ⟨m, hn, hl⟩ := I.loc
 obtain ⟨u, r, l⟩ := hl i x v hN e hv
 have fin : EP X pins σ Q u s := ⟨v, H, I, r, h⟩
 rcases l with ⟨hk, hm⟩ | ⟨hk, c, hc, hcell⟩
 ·exact wpAny_Name (wpAny_loadName_local I.ok.kind hk hn hm fin) hd
 ·rcases hk with hk | hk
  ·exact wpAny_Name (wpAny_loadName_cell I.ok.kind hk hc hcell fin) hd
  ·exact wpAny_Name (wpAny_loadName_free I.ok.kind hk hc hcell fin hcd) hd
theorem pe_int {i j pos} : PE X (.Constant (.int i) j pos) (tC (.int i)) := fun _ _ _ H _ I h => wpAny_Constant_int ⟨.int i, H, I.tok _, ⟨_, rfl⟩, h⟩
theorem pe_bl {b j pos} : PE X (.Constant (.bool b) j pos) (tC (.bl b)) := fun _ _ _ H _ I h => Constant_bool ⟨.bl b, H, I, rfl, h⟩
theorem pe_non {j pos} : PE X (.Constant .none j pos) (tC .non) := fun _ _ _ H _ I h => Constant_none ⟨.non, H, I, rfl, h⟩
theorem pe_str {x j pos} : PE X (.Constant (.str x) j pos) (tC (.str x)) := fun _ _ _ H _ I h => Calls.Constant_str ⟨.str x, H, I.tok _, ⟨_, rfl⟩, h⟩
def Gl (X : Cx) (x : Str) : Prop := X.env.kindOf x = some .globalImplicit
theorem ld_glob {E : Value -> Shared -> Prop} {pins : List (Addr × Obj)} {s : Shared} {σ : St} {H : Hp} {x : Str} {u : Value} {pos : Pos} {Q : Value -> Shared -> Prop} (I : Inv X pins σ H s) (hg : Gl X x) (hm : X.mg x = some u) (h : Q u s)
  (hd : (x == ("__debug__" : Str)) = false := by decide) : wpAny (model X.prog X.w) X.A (eval (.Name x pos) X.env) Q E s :=
 Calls.Name_function_global I.ok.kind hg (Calls.loadGlobal_global (by rw [I.ok.glob]; exact I.mod.glob.keeps I.bk) hm h) hd
theorem ld_blt {E : Value -> Shared -> Prop} {pins : List (Addr × Obj)} {s : Shared} {σ : St} {H : Hp} {x : Str} {u : Value} {pos : Pos} {Q : Value -> Shared -> Prop} (I : Inv X pins σ H s) (hg : Gl X x) (hm : X.mg x = none) (hv : bootBuiltins x = some u) (h : Q u s)
  (hn : x ≠ "__name__" := by decide) (hd : (x == ("__debug__" : Str)) = false := by decide) : wpAny (model X.prog X.w) X.A (eval (.Name x pos) X.env) Q E s := by
 obtain ⟨mb, h1, h2⟩ := I.mod.blt
 exact Calls.Name_function_global I.ok.kind hg (Calls.loadGlobal_builtin (by rw [I.ok.glob]; exact I.mod.glob.keeps I.bk) hm (by rw [I.ok.blt]; exact h1.keeps I.bk) ((h2 x hn).trans hv) h) hd
theorem pe_glob {x : Str} {v : V} {u : Value} {pos : Pos} (hg : Gl X x) (hm : X.mg x = some u) (r : RelV v u) (hd : (x == ("__debug__" : Str)) = false := by decide) : PE X (.Name x pos) (tC v) :=
 fun _ _ _ H _ I h => ld_glob I hg hm ⟨v, H, I, r, h⟩ hd
theorem pe_bltn {x : Str} {v : V} {u : Value} {pos : Pos} (hg : Gl X x) (hm : X.mg x = none) (hv : bootBuiltins x = some u) (r : RelV v u) (hn : x ≠ "__name__" := by decide) (hd : (x == ("__debug__" : Str)) = false := by decide) : PE X (.Name x pos) (tC v) :=
 fun _ _ _ H _ I h => ld_blt I hg hm hv ⟨v, H, I, r, h⟩ hn hd
variable {a b : Expr} {ta tb : TE} {pos : Pos}
def PC (X : Cx) (op : CmpOp) (a b : Expr) (t : TE) : Prop :=
 ∀ (pins : List (Addr × Obj)) (s : Shared) (σ : St) (H : Hp) (Q : VK), Inv X pins σ H s -> t σ H Q ->
  wpAny (model X.prog X.w) X.A (eval a X.env) (fun v s₁ => wpAny (model X.prog X.w) X.A (eval b X.env) (fun u s₂ => wpAny (model X.prog X.w) X.A (compareOp op v u) (EP X pins σ Q) X.xe s₂) X.xe s₁) X.xe s
def tB (t : TE) : TT := fun σ H Q => t σ H fun x H1 => ∃ c, x = .bl c /\ Q c H1
theorem pt_cmp {op : CmpOp} {t : TE} (h : PC X op a b t) (h1 : behindInMarks op b = false := by first | exact nobehind _ (by decide) (by decide) | rfl) : PT X (.Compare a [op] [b] pos) (tB t) := by
 intro pins s σ H Q I hw
 refine wpAny_isTrue_Compare1 (thn (h pins s σ H _ I hw) fun v s1 h1 => thn h1 fun u s2 h2 => thn h2 fun c s3 ⟨x, H1, I1, r1, q1⟩ => ?_) h1
 obtain ⟨d, rfl, q⟩ := q1
 cases r1
 exact wpAny_truthy_bool ⟨H1, I1, q⟩
theorem pt_val {e : Expr} {t : TE} (h : PE X e t) (he : ∀ whole, isTrue e X.env whole = (do let v <- whole; standAt e.pos; holding [v] (truthy v)) := by intro _; rfl) : PT X e (tB t) := by
 intro pins s σ H Q I hw
 refine isTrue_plain (thn (h pins s σ H _ I hw) fun v s1 ⟨x, H1, I1, r1, q1⟩ => ?_) (he _)
 obtain ⟨d, rfl, q⟩ := q1
 cases r1
 exact wpAny_truthy_bool ⟨H1, I1, q⟩
variable {tA tB' : TT} {rest : List Expr}
def tAnd (t u : TT) : TT := fun σ H Q => t σ H fun c H1 => if c = true then u σ H1 Q else Q false H1
def tOr (t u : TT) : TT := fun σ H Q => t σ H fun c H1 => if c = true then Q true H1 else u σ H1 Q
def tNot (t : TT) : TT := fun σ H Q => t σ H fun c H1 => Q (!c) H1
theorem pw_and1 (ha : PT X a tA) : PW X (.BoolOp .And [a] pos) tA := by
 intro wh pins s σ H Q I h
 refine isTrue_and (thn (ha pins s σ H Q I h) fun c s1 e => ?_)
 cases c with
 | true => exact isTrue_and_nil e
 | false => exact e
theorem pw_or1 (ha : PT X a tA) : PW X (.BoolOp .Or [a] pos) tA := by
 intro wh pins s σ H Q I h
 refine isTrue_or (thn (ha pins s σ H Q I h) fun c s1 e => ?_)
 cases c with
 | false => exact isTrue_or_nil e
 | true => exact e
theorem pw_and (ha : PT X a tA) (hb : PW X (.BoolOp .And (b :: rest) pos) tB') : PW X (.BoolOp .And (a :: b :: rest) pos) (tAnd tA tB') := by
 intro wh pins s σ H Q I h
 refine isTrue_and (thn (ha pins s σ H _ I h) fun c s1 ⟨H1, I1, q1⟩ => ?_)
 cases c with
 | true => exact hb wh pins s1 σ H1 Q I1 q1
 | false => exact ⟨H1, I1, q1⟩
theorem pw_or (ha : PT X a tA) (hb : PW X (.BoolOp .Or (b :: rest) pos) tB') : PW X (.BoolOp .Or (a :: b :: rest) pos) (tOr tA tB') := by
 intro wh pins s σ H Q I h
 refine isTrue_or (thn (ha pins s σ H _ I h) fun c s1 ⟨H1, I1, q1⟩ => ?_)
 cases c with
 | true => exact ⟨H1, I1, q1⟩
 | false => exact hb wh pins s1 σ H1 Q I1 q1
theorem pt_not (ha : PT X a tA) : PT X (.UnaryOp .Not a pos) (tNot tA) := by
 intro pins s σ H Q I h
 exact isTrue_not (ha pins s σ H (fun c H1 => Q (!c) H1) I h)
def tAndV (ta tb : TE) : TE := fun σ H Q => ta σ H fun x H1 => ∃ c, x = .bl c /\ if c = true then tb σ H1 Q else Q (.bl false) H1
def tOrV (ta tb : TE) : TE := fun σ H Q => ta σ H fun x H1 => ∃ c, x = .bl c /\ if c = true then Q (.bl true) H1 else tb σ H1 Q
def tNotV (ta : TE) : TE := fun σ H Q => ta σ H fun x H1 => ∃ c, x = .bl c /\ Q (.bl (!c)) H1
theorem pe_one {op} {t : TE} (h : PE X a t) : PE X (.BoolOp op [a] pos) t := fun pins s σ H Q I hw => BoolOp_one (h pins s σ H Q I hw)
theorem pe_and (ha : PE X a ta) (hb : PE X (.BoolOp .And (b :: rest) pos) tb) : PE X (.BoolOp .And (a :: b :: rest) pos) (tAndV ta tb) := by
 intro pins s σ H Q I h
 refine BoolOp_and (thn (ha pins s σ H _ I h) fun v s1 ⟨x, H1, I1, r1, q1⟩ => ?_)
 obtain ⟨c, rfl, q1⟩ := q1
 cases r1
 refine wpAny_truthy_bool ?_
 cases c with
 | true => exact hb pins s1 σ H1 Q I1 q1
 | false => exact ⟨.bl false, H1, I1, rfl, q1⟩
theorem pe_or (ha : PE X a ta) (hb : PE X (.BoolOp .Or (b :: rest) pos) tb) : PE X (.BoolOp .Or (a :: b :: rest) pos) (tOrV ta tb) := by
 intro pins s σ H Q I h
 refine BoolOp_or (thn (ha pins s σ H _ I h) fun v s1 ⟨x, H1, I1, r1, q1⟩ => ?_)
 obtain ⟨c, rfl, q1⟩ := q1
 cases r1
 refine wpAny_truthy_bool ?_
 cases c with
 | false => exact hb pins s1 σ H1 Q I1 q1
 | true => exact ⟨.bl true, H1, I1, rfl, q1⟩
theorem pe_not (ha : PE X a ta) : PE X (.UnaryOp .Not a pos) (tNotV ta) := by
 intro pins s σ H Q I h
 refine UnaryOp_ (thn (ha pins s σ H _ I h) fun v s1 ⟨x, H1, I1, r1, q1⟩ => ?_)
 obtain ⟨c, rfl, q1⟩ := q1
 cases r1
 exact not_of (wpAny_truthy_bool ⟨.bl (!c), H1, I1, rfl, q1⟩)
end
end L2
namespace L2
open PySem PySem.Spec PyProof.Rows
def SqL (K : PySem.W.Frag) (H : Hp) (a : Addr) (xs : List V) : Prop :=
 Rd H a (.lst xs) \/
  ∃ (o : Obj) (its : Array Value) (n : Nat), K.lookup a = some o /\ o.cls = .type "list" /\ o.dict = none /\ o.data = .seq its n /\ its.size <= sizeLine /\ Vals xs its.toList
def SqT (K : PySem.W.Frag) (H : Hp) (a : Addr) (xs : List V) : Prop :=
 Rd H a (.tup xs) \/
  ∃ (o : Obj) (its : Array Value) (n : Nat), K.lookup a = some o /\ o.cls = .type "tuple" /\ o.data = .seq its n /\ its.size <= sizeLine /\ Vals xs its.toList
def absV : Value -> Option V
 | .none => some .non
 | .bool b => some (.bl b)
 | .int i _ => some (.int i)
 | .str x _ => some (.str x)
 | .bytes b _ => some (.byt b)
 | .float b _ => some (.flt b)
 | .ref a => some (.ref a)
 | .type n => some (.ty n)
 | _ => none
theorem RelV.abs {x : V} {u : Value} (r : RelV x u) : absV u = some x := by
 cases x with
 | non => cases r; rfl
 | bl _ => cases r; rfl
 | int _ => obtain ⟨t, rfl⟩ := r; rfl
 | str _ => obtain ⟨t, rfl⟩ := r; rfl
 | byt _ => obtain ⟨t, rfl⟩ := r; rfl
 | flt _ => obtain ⟨t, rfl⟩ := r; rfl
 | ref _ => cases r; rfl
 | ty _ => cases r; rfl
theorem RelV.inj {x y : V} {u : Value} (r : RelV x u) (q : RelV y u) : x = y := Option.some.inj (r.abs.symm.trans q.abs)
theorem Vals.inj : ∀ {xs ys : List V} {us : List Value}, Vals xs us -> Vals ys us -> xs = ys
 | _, _, _, .nil, .nil => rfl
 | _, _, _, .cons r t, .cons r' t' => by rw [r.inj r', Vals.inj t t']
section
variable {X : Cx} {pins : List (Addr × Obj)} {σ : St} {H : Hp} {s : Shared} {a : Addr} {xs ys : List V}
theorem SqL.of {K : PySem.W.Frag} (h : H a = some (.lst xs)) : SqL K H a xs := .inl (.inl h)
theorem SqT.of {K : PySem.W.Frag} (h : H a = some (.tup xs)) : SqT K H a xs := .inl (.inl h)
theorem Inv.list (I : Inv X pins σ H s) (h : SqL X.K H a xs) : ∃ its : List Value, Vals xs its /\ PlainL s.heap a its.toArray /\ xs.length <= sizeLine := by
 rcases h with h | ⟨o, its, n, hk, hc, hd, hs, hz, r⟩
 ·obtain ⟨z, its, n, r, e⟩ := h.ok I.hok
  exact ⟨its, r, ⟨_, n, e, rfl, rfl, rfl⟩, z⟩
 ·refine ⟨its.toList, r, ⟨o, n, I.kIn a o hk, hc, hd, by simpa using hs⟩, ?_⟩
  have e := r.length
  simp only [Array.length_toList] at e
  omega
theorem Inv.tuple (I : Inv X pins σ H s) (h : SqT X.K H a xs) : ∃ its : List Value, Vals xs its /\ IsTup s.heap a its.toArray /\ xs.length <= sizeLine := by
 rcases h with h | ⟨o, its, n, hk, hc, hs, hz, r⟩
 ·obtain ⟨z, its, r, p⟩ := h.ok I.hok
  exact ⟨its, r, p, z⟩
 ·refine ⟨its.toList, r, ⟨o, I.kIn a o hk, hc, n, by simpa using hs⟩, ?_⟩
  have e := r.length
  simp only [Array.length_toList] at e
  omega
theorem Inv.list_inj (I : Inv X pins σ H s) (h : SqL X.K H a xs) (h' : SqL X.K H a ys) : xs = ys := by
 obtain ⟨its, r, ⟨o, n, e, _, _, d⟩, _⟩ := I.list h
 obtain ⟨its', r', ⟨o', n', e', _, _, d'⟩, _⟩ := I.list h'
 rw [e] at e'; cases e'
 rw [d] at d'
 injection d' with d1 _
 have : its = its' := by simpa using congrArg Array.toList d1
 subst this
 exact r.inj r'
end
abbrev Cx.wish (X : Cx) (E : Value -> Shared -> Prop) : Cx := { X with xe := E }
abbrev Cx.nox (X : Cx) : Cx := X.wish fun _ _ => False
theorem Cx.Ok.wish {X : Cx} (ok : X.Ok) (E : Value -> Shared -> Prop) : (X.wish E).Ok :=
 ⟨ok.mod, ok.kind, ok.glob, ok.blt, ok.above, ok.inj, ok.has, ok.cab, ok.hd, ok.frames, ok.stk, ok.exf, ok.bs, ok.bsz, ok.noex, ok.exfs, ok.funs, ok.frf⟩
theorem Cx.Ok.unwish {X : Cx} {E : Value -> Shared -> Prop} (ok : (X.wish E).Ok) : X.Ok :=
 ⟨ok.mod, ok.kind, ok.glob, ok.blt, ok.above, ok.inj, ok.has, ok.cab, ok.hd, ok.frames, ok.stk, ok.exf, ok.bs, ok.bsz, ok.noex, ok.exfs, ok.funs, ok.frf⟩
section
variable {X : Cx} {pins : List (Addr × Obj)} {σ : St} {H : Hp} {s : Shared} {E : Value -> Shared -> Prop}
theorem Inv.wish (I : Inv X pins σ H s) (E : Value -> Shared -> Prop) : Inv (X.wish E) pins σ H s := ⟨I.ok.wish E, I.os, I.bare, I.base, I.loc, I.cell, I.free, I.freeC, I.pin, I.hok, I.len⟩
theorem Inv.unwish (I : Inv (X.wish E) pins σ H s) : Inv X pins σ H s := ⟨I.ok.unwish, I.os, I.bare, I.base, I.loc, I.cell, I.free, I.freeC, I.pin, I.hok, I.len⟩
theorem SP.unwish {D : Ends} {f : Flow} {s' : Shared} (h : SP (X.wish E) pins D f s') : SP X pins D f s' := by
 cases f with
 | next => obtain ⟨σ', H', I, q⟩ := h; exact ⟨σ', H', I.unwish, q⟩
 | brk => obtain ⟨σ', H', I, q⟩ := h; exact ⟨σ', H', I.unwish, q⟩
 | cont => obtain ⟨σ', H', I, q⟩ := h; exact ⟨σ', H', I.unwish, q⟩
 | ret u => obtain ⟨v, σ', H', I, r, q⟩ := h; exact ⟨v, σ', H', I.unwish, r, q⟩
theorem PSs.nox {st : List Stmt} {t : TS} (h : PSs X.nox st t) : PSs X st t := fun pins s σ H D I hw =>
 wpAny_mono (h pins s σ H D (I.wish _) hw) (fun _ _ q => q.unwish) fun _ _ z => False.elim z
end
section
variable {X : Cx} {st : Stmt} {rest : List Stmt} {t u : TS} {e : Expr} {te : TE} {pos : Pos}
def tNext : TS := fun D σ H => D.nx σ H
def tSeq (t u : TS) : TS := fun D σ H => t { D with nx := u D } σ H
theorem pss_nil : PSs X [] tNext := fun _ _ σ H _ I h => wpAny_execs_nil ⟨σ, H, I, h⟩
theorem pss_cons (h1 : PS X st t) (h2 : PSs X rest u) : PSs X (st :: rest) (tSeq t u) := by
 intro pins s σ H D I h
 refine wpAny_execs_cons (thn (h1 pins s σ H { D with nx := u D } I h) fun f s1 q => ?_)
 cases f with
 | next =>
  obtain ⟨σ', H', I', q⟩ := q
  exact h2 pins s1 σ' H' D I' q
 | ret v => exact q
 | brk => exact q
 | cont => exact q
theorem pss_one (h1 : PS X st t) : PSs X [st] t := by
 intro pins s σ H D I h
 refine wpAny_execs_cons (thn (h1 pins s σ H D I h) fun f s1 q => ?_)
 cases f with
 | next => exact wpAny_execs_nil q
 | ret v => exact q
 | brk => exact q
 | cont => exact q
theorem Inv.quiet {pins : List (Addr × Obj)} {σ : St} {H : Hp} {s : Shared} (I : Inv X pins σ H s) : interactive X.env = false := by simp [interactive, I.ok.kind]
def tDrop (te : TE) : TS := fun D σ H => te σ H fun _ H1 => D.nx σ H1
theorem ps_expr (he : PE X e te) (hs : swapsWith e none pos.line X.env = pure false := by rfl) : PS X (.Expr e pos) (tDrop te) := by
 intro pins s σ H D I h
 exact wpAny_Expr_any (thn (he pins s σ H _ I h) fun v s1 ⟨x, H1, I1, r1, q1⟩ => ⟨σ, H1, I1, q1⟩) I.quiet hs
def tRet (te : TE) : TS := fun D σ H => te σ H D.rt
theorem ps_ret (he : PE X e te) : PS X (.Return (some e) pos) (tRet te) := by
 intro pins s σ H D I h
 exact wpAny_Return_some (thn (he pins s σ H _ I h) fun v s1 ⟨x, H1, I1, r1, q1⟩ => ⟨x, σ, H1, I1, r1, q1⟩)
def tIfS (c : TT) (t u : TS) : TS := fun D σ H => c σ H fun b H1 => if b = true then t D σ H1 else u D σ H1
theorem ps_if {c : Expr} {a b : List Stmt} {tc : TT} (hc : PT X c tc) (ha : PSs X a t) (hb : PSs X b u) : PS X (.If c a b pos) (tIfS tc t u) := by
 intro pins s σ H D I h
 refine wpAny_If (thn (hc pins s σ H _ I h) fun d s1 ⟨H1, I1, q1⟩ => ?_)
 cases d with
 | true => exact ha pins s1 σ H1 D I1 q1
 | false => exact hb pins s1 σ H1 D I1 q1
end
abbrev TG := V -> St -> Hp -> (St -> Hp -> Prop) -> Prop
abbrev TGs := List V -> St -> Hp -> (St -> Hp -> Prop) -> Prop
def PG (X : Cx) (target : Expr) (t : TG) : Prop :=
 ∀ (pins : List (Addr × Obj)) (s : Shared) (σ : St) (H : Hp) (v : V) (u : Value) (Q : St -> Hp -> Prop), Inv X pins σ H s -> RelV v u -> t v σ H Q ->
  wpAny (model X.prog X.w) X.A (assign target X.env u) (fun _ s' => ∃ σ' H', Inv X pins σ' H' s' /\ Q σ' H') X.xe s
def PGs (X : Cx) (ts : List Expr) (t : TGs) : Prop :=
 ∀ (pins : List (Addr × Obj)) (s : Shared) (σ : St) (H : Hp) (vs : List V) (us : List Value) (Q : St -> Hp -> Prop), Inv X pins σ H s -> Vals vs us -> t vs σ H Q ->
  wpAny (model X.prog X.w) X.A (assignInOrder ((assignEach ts X.env).map (·.2)) us) (fun _ s' => ∃ σ' H', Inv X pins σ' H' s' /\ Q σ' H') X.xe s
abbrev TSet := V -> V -> V -> Hp -> (Hp -> Prop) -> Prop
def PSet (X : Cx) (t : TSet) : Prop :=
 ∀ (pins : List (Addr × Obj)) (s : Shared) (σ : St) (H : Hp) (o i v : V) (ov iv u : Value) (Q : Hp -> Prop), Inv X pins σ H s -> RelV o ov -> RelV i iv -> RelV v u -> t o i v H Q ->
  wpAny (model X.prog X.w) X.A (setItem ov iv u) (fun _ s' => ∃ H', Inv X pins σ H' s' /\ Q H') X.xe s
section
variable {X : Cx} {pos : Pos}
def gName (i : Nat) : TG := fun v σ H Q => Q (σ.set i (some v)) H
theorem pg_name {i : Nat} {x : Str} (hN : X.N.Nodup) (hi : X.N[i]? = some x) (hx : Loc X.env.scope x) (hf : X.fn x = true \/ X.env.scope.names.lookup x = some .local := by first | exact .inl rfl | exact .inr rfl | assumption) : PG X (.Name x pos) (gName i) := by
 intro pins s σ H v u Q I r h
 exact wpAny_assign_Name (store_ok I hN hi hx r (fun s' I' => ⟨_, H, I', h⟩) hf)
def gNil : TGs := fun vs σ H Q => vs = [] /\ Q σ H
def gCons (t : TG) (u : TGs) : TGs := fun vs σ H Q => ∃ v r, vs = v :: r /\ t v σ H fun σ' H' => u r σ' H' Q
theorem pgs_nil : PGs X [] gNil := by
 intro pins s σ H vs us Q I r h
 obtain ⟨e, h⟩ := h
 subst e
 cases r
 exact assignInOrder_nil ⟨σ, H, I, h⟩
theorem pgs_cons {e : Expr} {es : List Expr} {t : TG} {u : TGs} (h1 : PG X e t) (h2 : PGs X es u)
  (hs : (assignEach (e :: es) X.env).map (·.2) = assign e X.env :: (assignEach es X.env).map (·.2) := by rfl) : PGs X (e :: es) (gCons t u) := by
 intro pins s σ H vs us Q I r h
 obtain ⟨v, vr, e1, h⟩ := h
 subst e1
 cases r with
 | cons r rr =>
  rw [hs]
  refine assignInOrder_cons (thn (h1 pins s σ H _ _ _ I r h) fun _ s1 ⟨σ1, H1, I1, q1⟩ => ?_)
  exact h2 pins s1 σ1 H1 _ _ Q I1 rr q1
def gTup (K : PySem.W.Frag) (n : Nat) (t : TGs) : TG := fun v σ H Q => ∃ a xs, v = .ref a /\ SqT K H a xs /\ xs.length = n /\ t xs σ H Q
theorem pg_tup {es : List Expr} {k : Nat} {t : TGs} {n : Nat} (hc : X.calm = true) (h : PGs X es t)
  (hn : (assignEach es X.env).length = n := by rfl) (hst : (assignEach es X.env).findIdx? (·.1) = none := by rfl) : PG X (.Tuple es k pos) (gTup X.K n t) := by
 intro pins s σ H v u Q I r hw
 obtain ⟨a, xs, e1, hq, hl, hw⟩ := hw
 subst e1
 cases r
 obtain ⟨its, rv, ht, hz⟩ := I.tuple hq
 refine assign_Tuple_tuple (I.ok.hd hc) ht (by simp [hn, <- hl, rv.length]) hst fun h' hx => ?_
 have I1 : Inv X pins σ H { s with heap := h' } := I.kept (t' := s.toks) fun b o e => hx b o (Nat.ne_of_lt (Heap.lt_size e)) e
 exact h pins _ σ H xs _ Q I1 (by simpa using rv) hw
def gSub (to ti : TE) (t : TSet) : TG := fun v σ H Q => to σ H fun o H1 => ti σ H1 fun i H2 => t o i v H2 fun H3 => Q σ H3
theorem pg_sub {o i : Expr} {to ti : TE} {t : TSet} (ho : PE X o to) (hi : PE X i ti) (hs : PSet X t)
  (ha : ∀ v, assign (.Subscript o i pos) X.env v = (do
   let ov <- holding [v] (eval o X.env)
   let iv <- holding [v, ov] (eval i X.env)
   standAt pos
   holding [v, ov, iv] (setItem ov iv v)
   release [v, ov, iv] []) := by intro _; rfl) : PG X (.Subscript o i pos) (gSub to ti t) := by
 intro pins s σ H v u Q I r h
 rw [ha]
 refine wpAny_bind (wpAny_holding (thn (ho pins s σ H _ I h) fun ov s1 ⟨x, H1, I1, r1, q1⟩ => ?_))
 refine wpAny_bind (wpAny_holding (thn (hi pins s1 σ H1 _ I1 q1) fun iv s2 ⟨y, H2, I2, r2, q2⟩ => ?_))
 refine wpAny_bind (wpAny_standAt (wpAny_bind (wpAny_holding (thn (hs pins s2 σ H2 x y v ov iv u _ I2 r1 r2 r q2) fun _ s3 ⟨H3, I3, q3⟩ => ?_))))
 exact wpAny_release ⟨σ, H3, I3, q3⟩
def tAsg (te : TE) (g : TG) : TS := fun D σ H => te σ H fun x H1 => g x σ H1 D.nx
theorem ps_asg {tg e : Expr} {te : TE} {g : TG} (he : PE X e te) (hg : PG X tg g) (hs : swapsWithSole [tg] e pos.line X.env = pure false := by rfl) (hw : swappedStores [tg] e X.env = pure none := by rfl)
  (h1 : (assignEach [tg] X.env).map (·.2) = [assign tg X.env] := by rfl) : PS X (.Assign [tg] e pos) (tAsg te g) := by
 intro pins s σ H D I h
 refine wpAny_Assign_stores (thn (he pins s σ H _ I h) fun v s1 ⟨x, H1, I1, r1, q1⟩ => ?_) hs hw
 rw [h1]
 exact thn (hg pins s1 σ H1 x v _ I1 r1 q1) fun _ s2 q => q
theorem ps_set {i : Nat} {x : Str} {e : Expr} {te : TE} {pos' : Pos} (hN : X.N.Nodup) (hi : X.N[i]? = some x) (hx : Loc X.env.scope x) (he : PE X e te) (hs : swapsWith e (some (.Name x pos')) pos.line X.env = pure false := by rfl) (hf : X.fn x = true \/ X.env.scope.names.lookup x = some .local := by first | exact .inl rfl | exact .inr rfl | assumption) :
  PS X (.Assign [.Name x pos'] e pos) (tAsg te (gName i)) := by
 intro pins s σ H D I h
 refine wpAny_Assign_Name (thn (he pins s σ H _ I h) fun v s1 ⟨y, H1, I1, r1, q1⟩ => ?_) hs
 exact store_ok I1 hN hi hx r1 (fun s2 I2 => ⟨_, H1, I2, q1⟩) hf
end
section
variable {X : Cx} {pos : Pos}
end
structure It where
 go : Nat -> Hp -> Prop
 yld : Nat -> Hp -> V -> Hp -> Prop
 stop : Nat -> Hp -> Prop
def FpOk (X : Cx) (pins : List (Addr × Obj)) (H : Hp) (b : Addr) : Prop :=
 H b = none /\ b ≠ X.env.locals /\ b ∉ X.fs /\ (b ∈ X.ex \/ X.s₀.heap.objs.size <= b) /\ (∀ x c, X.env.cells.lookup x = some c -> c ≠ b) /\ ∀ p ∈ X.pn ++ pins, p.1 ≠ b
theorem Inv.fpOk {X : Cx} {pins : List (Addr × Obj)} {σ : St} {H H' : Hp} {s : Shared} {b : Addr} (I : Inv X pins σ H s) (hb : s.heap.objs.size <= b) (hn : H' b = none) : FpOk X pins H' b := by
 refine ⟨hn, Nat.ne_of_gt (Nat.lt_of_lt_of_le I.lt hb), I.nofs hb, .inr (Nat.le_trans I.sz hb), fun x c e z => ?_, fun p hp z => ?_⟩
 ·obtain ⟨v, q⟩ := I.cell x c e
  exact absurd (Nat.lt_of_lt_of_le q.lt (by rw [z]; exact hb)) (Nat.lt_irrefl _)
 ·exact absurd (Nat.lt_of_lt_of_le (Heap.lt_size (I.pin p hp).1) (by rw [z]; exact hb)) (Nat.lt_irrefl _)
structure Turn (P : Program) (w : World) (K : PySem.W.Frag) (tg : Expr) (J : It) (fp : List Addr) (it : Addr) (tn : Nat -> Heap -> Prop) : Prop where
 mem : it ∈ fp
 obj : ∀ i h, tn i h -> ∀ b ∈ fp, ∃ o, h.get? b = some o /\ ∀ v, o.data ≠ .cell v
 keep : ∀ i h h', tn i h -> (∀ b ∈ fp, ∀ o, h.get? b = some o -> h'.get? b = some o) -> tn i h'
 item : ∀ (X : Cx), X.prog = P -> X.w = w -> X.K = K -> X.calm = true -> ∀ (i : Nat) (pins : List (Addr × Obj)) (s : Shared) (σ : St) (H : Hp) (E : Value -> Shared -> Prop), Inv X pins σ H s -> (∀ b ∈ fp, FpOk X pins H b) -> tn i s.heap -> J.go i H ->
  wpAny (model P w) X.A (pyNext (.ref it)) (fun r s1 => ∃ u, r = some u /\
   wpAny (model P w) X.A (letOwnedTupleGo tg (.ref it) u) (fun _ s2 => ∃ x H', Inv X pins σ H' s2 /\ RelV x u /\ J.yld i H x H' /\ tn (i + 1) s2.heap /\ ∀ b ∈ fp, H' b = none) E s1) E s
 done : ∀ (X : Cx), X.prog = P -> X.w = w -> X.K = K -> X.calm = true -> ∀ (i : Nat) (pins : List (Addr × Obj)) (s : Shared) (σ : St) (H : Hp) (E : Value -> Shared -> Prop), Inv X pins σ H s -> (∀ b ∈ fp, FpOk X pins H b) -> tn i s.heap -> J.stop i H ->
  wpAny (model P w) X.A (pyNext (.ref it)) (fun r s1 => r = none /\ Inv X pins σ H s1) E s
 self : ∀ (A : Around) (i : Nat) (s : Shared) (Q : Value -> Shared -> Prop) (E : Value -> Shared -> Prop), tn i s.heap -> Q (.ref it) s -> wpAny (model P w) A (pyIter (.ref it)) Q E s
abbrev TI := St -> Hp -> (It -> Hp -> Prop) -> Prop
def PIE (X : Cx) (pins : List (Addr × Obj)) (σ : St) (tg : Expr) (R : It -> Hp -> Prop) (itv : Value) (s2 : Shared) : Prop :=
 ∃ (it : Addr) (fp : List Addr) (tn : Nat -> Heap -> Prop) (J : It) (H' : Hp), itv = .ref it /\ Inv X pins σ H' s2 /\ Turn X.prog X.w X.K tg J fp it tn /\ tn 0 s2.heap /\ (∀ b ∈ fp, FpOk X pins H' b) /\ R J H'
def PI (X : Cx) (tg iter : Expr) (wi : TI) : Prop :=
 ∀ (pins : List (Addr × Obj)) (s : Shared) (σ : St) (H : Hp) (R : It -> Hp -> Prop), Inv X pins σ H s -> wi σ H R ->
  wpAny (model X.prog X.w) X.A (eval iter X.env) (fun v s1 => wpAny (model X.prog X.w) X.A (pyIter v) (PIE X pins σ tg R) X.xe s1) X.xe s
theorem go_of {M : Model} {A : Around} {E : Value -> Shared -> Prop} {s : Shared} {tg : Expr} {it : Addr} {u : Value} {o : Obj} {n : String} {vs : Array Value} {Q : Unit -> Shared -> Prop} (ho : s.heap.get? it = some o) (hc : o.cls = .type n) (hd : o.data = .fields vs)
  (hn : ["enumerate", "zip", "dict_itemiterator", "dict_reverseitemiterator", "odict_iterator", "itertools.zip_longest", "itertools.pairwise"].contains n = false) (hQ : Q () s) : wpAny M A (letOwnedTupleGo tg (.ref it) u) Q E s := by
 unfold letOwnedTupleGo
 cases tg <;> first
  | exact wpAny_pure hQ
  |(cases u <;> first
    | exact wpAny_pure hQ
    |(refine wpAny_bind (wpAny_load ho ?_)
      rw [hc, hd]
      show wpAny M A (if (["enumerate", "zip", "dict_itemiterator", "dict_reverseitemiterator", "odict_iterator", "itertools.zip_longest", "itertools.pairwise"].contains n && vs[0]? == some (rawInt _)) = true then _ else _) Q E s
      rw [if_neg (by intro h; rw [hn, Bool.false_and] at h; cases h)]
      exact wpAny_pure hQ))
def Itl (K : PySem.W.Frag) (a : Addr) : It :=
 ⟨fun i H => ∃ xs x, SqL K H a xs /\ xs[i]? = some x, fun i H x H' => H' = H /\ ∀ xs, SqL K H a xs -> xs[i]? = some x, fun i H => ∃ xs, SqL K H a xs /\ xs.length <= i⟩
def Itr (lo : Int) (n : Nat) : It := ⟨fun i _ => i < n, fun i H x H' => H' = H /\ x = .int (lo + i), fun i _ => n <= i⟩
theorem turn_list {P : Program} {w : World} {K : PySem.W.Frag} {tg : Expr} (a it : Addr) : Turn P w K tg (Itl K a) [it] it (fun i h => h.IsListIter it a i) where
 mem := by simp
 obj := fun i h st b hb => by
  have e : b = it := by simpa using hb
  subst e
  obtain ⟨o, e, c, d⟩ := st
  exact ⟨o, e, fun v z => by rw [d] at z; cases z⟩
 keep := fun i h h' st k => st.at fun o e => k it (by simp) o e
 item := by
  intro X hP hw hK hc i pins s σ H E I hf st hg
  subst hP hw hK
  obtain ⟨xs, x, hq, hx⟩ := hg
  obtain ⟨its, rv, p, hz⟩ := I.list hq
  obtain ⟨u, hu, ru⟩ := rv.get hx
  obtain ⟨f0, f1, f2, f3, f4, f5⟩ := hf it (by simp)
  refine wpAny_pyNext_list_item st p.isList (x := u) (by simpa using hu) fun h' st' sb => ?_
  have I1 : Inv X pins σ H { s with heap := h' } := I.turned (t' := s.toks) (fun b o hb e => (sb.2 b hb).trans e) f0 f1 f3 f4 f5
  obtain ⟨o, e, c, d⟩ := id st'
  exact ⟨u, rfl, go_of (s := { s with heap := h' }) e c d (by decide) ⟨x, H, I1, ru, ⟨rfl, fun ys hy => by rw [I.list_inj hy hq]; exact hx⟩, st', fun b hb => (hf b hb).1⟩⟩
 done := by
  intro X hP hw hK hc i pins s σ H E I hf st hg
  subst hP hw hK
  obtain ⟨xs, hq, hx⟩ := hg
  obtain ⟨its, rv, p, hz⟩ := I.list hq
  obtain ⟨f0, f1, f2, f3, f4, f5⟩ := hf it (by simp)
  have hl := rv.length
  exact wpAny_pyNext_list_end (I.ok.hd hc) st p.isList (by simp; omega) fun h' eb => ⟨rfl, I.turned (t' := s.toks) (fun b o hb e => eb b o hb e) f0 f1 f3 f4 f5⟩
 self := fun _ _ _ _ _ st h => wpAny_pyIter_listiter st h
theorem turn_range {P : Program} {w : World} {K : PySem.W.Frag} {tg : Expr} (it : Addr) (lo : Int) (n : Nat) : Turn P w K tg (Itr lo n) [it] it (fun i h => IsRangeIter h it (lo + (i : Nat) * 1) ((n : Int) - (i : Nat)) 1) where
 mem := by simp
 obj := fun i h st b hb => by
  have e : b = it := by simpa using hb
  subst e
  exact ⟨_, st, fun v z => by
   have z' : Data.fields _ = Data.cell v := z
   cases z'⟩
 keep := fun i h h' st k => k it (by simp) _ st
 item := by
  intro X hP hw hK hc i pins s σ H E I hf st hg
  subst hP hw hK
  obtain ⟨f0, f1, f2, f3, f4, f5⟩ := hf it (by simp)
  have W := Walks.range (prog := X.prog) (w := X.w) (I.ok.hd hc) it lo 1 n
  refine W.item i s _ _ hg st fun v h' tk hv st' kk => ?_
  obtain ⟨t, rfl⟩ := hv
  have I1 : Inv X pins σ H { s with heap := h', toks := tk } := I.turned (fun b o hb e => kk b o (by simpa using hb) e) f0 f1 f3 f4 f5
  refine ⟨_, rfl, go_of (s := { s with heap := h', toks := tk }) (n := "range_iterator") st' rfl rfl (by decide) ⟨.int (lo + i), H, I1, ⟨t, ?_⟩, ⟨rfl, rfl⟩, st', fun b hb => (hf b hb).1⟩⟩
  rw [Int.mul_one]
 done := by
  intro X hP hw hK hc i pins s σ H E I hf st hg
  subst hP hw hK
  obtain ⟨f0, f1, f2, f3, f4, f5⟩ := hf it (by simp)
  exact wpAny_pyNext_range_end (I.ok.hd hc) st (by have : n <= i := hg; omega) fun h' eb => ⟨rfl, I.turned (t' := s.toks) (fun b o hb e => eb b o hb e) f0 f1 f3 f4 f5⟩
 self := fun _ _ _ _ _ st h => wpAny_pyIter_rangeiter st h
end L2
namespace L2
open PySem PySem.Spec PyProof.Rows
section
variable {X : Cx} {tg : Expr}
def iList (K : PySem.W.Frag) (tl : TE) : TI := fun σ H R => tl σ H fun x H1 => ∃ a, x = .ref a /\ (∃ xs, SqL K H1 a xs) /\ R (Itl K a) H1
theorem pi_list {l : Expr} {tl : TE} (hl : PE X l tl) : PI X tg l (iList X.K tl) := by
 intro pins s σ H R I h
 refine thn (hl pins s σ H _ I h) fun v s1 ⟨x, H1, I1, r1, q1⟩ => ?_
 obtain ⟨a, e, ⟨xs, hq⟩, q⟩ := q1
 subst e
 cases r1
 obtain ⟨its, rv, p, hz⟩ := I1.list hq
 refine wpAny_pyIter_list p.isList ?_
 refine ⟨s1.heap.objs.size, [s1.heap.objs.size], _, _, H1, rfl, I1.kept (t' := s1.toks) fun b o e => Heap.get?_push_of_some _ e, turn_list a _, ⟨_, Heap.get?_push_size _ rfl, rfl, rfl⟩, fun b hb => ?_, q⟩
 have e : b = s1.heap.objs.size := by simpa using hb
 subst e
 exact I1.fpOk (Nat.le_refl _) (I1.hok.fresh (Nat.le_refl _))
theorem range_it {pins : List (Addr × Obj)} {σ : St} {H : Hp} {s : Shared} {R : It -> Hp -> Prop} {E : Value -> Shared -> Prop} {lo hi : Int} {t u v : Tok} {tk : Nat} (I : Inv X pins σ H s) (h1 : -(2 ^ 62) <= lo) (h2 : lo < 2 ^ 62) (h3 : -(2 ^ 62) <= hi) (h4 : hi < 2 ^ 62)
  (q : R (Itr lo (hi - lo).toNat) H) : wpAny (model X.prog X.w) X.A (pyIter (.ref s.heap.objs.size)) (PIE X pins σ tg R) E { s with heap := s.heap.push { cls := .type "range", data := .fields #[.int lo t, .int hi u, .int 1 v] }, toks := tk } := by
 refine wpAny_pyIter_range (IsRange.new ..) (small_one h1 h2 h3 h4) ?_
 have I1 : Inv X pins σ H { s with heap := s.heap.push { cls := .type "range", data := .fields #[.int lo t, .int hi u, .int 1 v] }, toks := tk } := I.kept fun b o e => Heap.get?_push_of_some _ e
 refine ⟨(s.heap.push { cls := .type "range", data := .fields #[.int lo t, .int hi u, .int 1 v] }).objs.size, [(s.heap.push { cls := .type "range", data := .fields #[.int lo t, .int hi u, .int 1 v] }).objs.size], _, _, H, rfl,
  I1.kept (t' := tk) fun b o e => Heap.get?_push_of_some _ e, turn_range _ lo (hi - lo).toNat, ?_, fun b hb => ?_, q⟩
 ·have e1 : lo + ((0 : Nat) : Int) * 1 = lo := by simp
  have e2 : (((hi - lo).toNat : Nat) : Int) - ((0 : Nat) : Int) = Builtin.Range.rangeSize lo hi 1 := by rw [rangeSize_one]; split <;> omega
  show IsRangeIter _ _ (lo + ((0 : Nat) : Int) * 1) ((((hi - lo).toNat : Nat) : Int) - ((0 : Nat) : Int)) 1
  rw [e1, e2]
  exact Heap.get?_push_size _ rfl
 ·have e : b = (s.heap.push { cls := .type "range", data := .fields #[.int lo t, .int hi u, .int 1 v] }).objs.size := by simpa using hb
  subst e
  exact I1.fpOk (Nat.le_refl _) (I1.hok.fresh (Nat.le_refl _))
def iRng1 (ta : TA) : TI := fun σ H R => ta σ H fun vs H1 => ∃ j : Int, vs = [.int j] /\ -(2 ^ 62) <= j /\ j < 2 ^ 62 /\ R (Itr 0 j.toNat) H1
theorem pi_range1 {a : Expr} {ta : TA} {p pos : Pos} (hg : Gl X "range") (hm : X.mg "range" = none) (ha : PA X [a] ta) (hs : starEach [a] X.env = [(false, eval a X.env)] := by rfl) : PI X tg (.Call (.Name "range" p) [a] [] pos) (iRng1 ta) := by
 intro pins s σ H R I h
 refine Call_ (ld_blt I hg hm boot_range (PyProof.Rows.callWith_type1 (thn (ha pos pins s σ H _ I h) fun us s1 ⟨vs, H1, I1, r1, q1⟩ => ?_) hs rfl))
 obtain ⟨j, e, q1, q2, q⟩ := q1
 subst e
 cases r1 with
 | cons r rr =>
  cases rr
  obtain ⟨t, rfl⟩ := r
  exact call_range_1 (range_it I1 (by omega) (by omega) q1 q2 (by simpa using q))
def tFor (wi : TI) (g : TG) (tb : TS) : TS := fun D σ H => wi σ H fun J H1 => ∃ W : Nat -> Nat -> St -> Hp -> Prop, (∃ m, W 0 m σ H1) /\ ∀ i m σ H, W i m σ H ->
 (J.stop i H /\ D.nx σ H) \/ (J.go i H /\ ∃ N : St -> Hp -> Prop, (∀ σ' H', N σ' H' -> ∃ m', m' < m /\ W (i + 1) m' σ' H') /\ ∀ x H', J.yld i H x H' -> g x σ H' fun σ2 H2 => tb { D with nx := N, ct := N, bk := D.nx } σ2 H2)
def pinsAt (fp : List Addr) (h : Heap) : List (Addr × Obj) := fp.filterMap fun b => (h.get? b).map fun o => (b, o)
theorem mem_pinsAt {fp : List Addr} {h : Heap} {b : Addr} {o : Obj} (hb : b ∈ fp) (e : h.get? b = some o) : (b, o) ∈ pinsAt fp h := List.mem_filterMap.mpr ⟨b, hb, by rw [e]; rfl⟩
theorem of_pinsAt {fp : List Addr} {h : Heap} {p : Addr × Obj} (hp : p ∈ pinsAt fp h) : p.1 ∈ fp /\ h.get? p.1 = some p.2 := by
 obtain ⟨b, hb, e⟩ := List.mem_filterMap.mp hp
 cases q : h.get? b with
 | none => rw [q] at e; cases e
 | some o =>
  rw [q] at e
  have e' : (b, o) = p := Option.some.inj e
  subst e'
  exact ⟨hb, q⟩
theorem Inv.pinned {pins : List (Addr × Obj)} {σ : St} {H : Hp} {s : Shared} {fp : List Addr} (I : Inv X pins σ H s) (hf : ∀ b ∈ fp, FpOk X pins H b) (ho : ∀ b ∈ fp, ∃ o, s.heap.get? b = some o /\ ∀ v, o.data ≠ .cell v) : Inv X (pins ++ pinsAt fp s.heap) σ H s :=
 I.pins_of fun p hp => (List.mem_append.mp hp).elim (fun z => I.pin p (List.mem_append_right _ z)) fun z => by
  obtain ⟨hb, e⟩ := of_pinsAt z
  obtain ⟨f0, f1, f2, _⟩ := hf p.1 hb
  obtain ⟨o, e', d⟩ := ho p.1 hb
  rw [e] at e'; cases e'
  exact ⟨e, f0, f1, f2, d⟩
theorem Inv.unpinned {pins pl : List (Addr × Obj)} {σ : St} {H : Hp} {s : Shared} (I : Inv X (pins ++ pl) σ H s) : Inv X pins σ H s := I.pins_of fun p hp => I.pin p (List.mem_append_right _ (List.mem_append_left _ hp))
theorem ps_for {iter : Expr} {body : List Stmt} {wi : TI} {g : TG} {tb : TS} {pos : Pos} (hp : PassesOwn (model X.prog X.w) X.A X.env X.xe) (hc : X.calm = true) (hi : PI X tg iter wi) (hg : PG X tg g) (hb : PSs X body tb)
  (hs : ∀ x, foldedSetIterable iter X.env x = pure x := by intro _; rfl) : PS X (.For tg iter body [] pos) (tFor wi g tb) := by
 intro pins s σ H D I h
 refine wpAny_For (thn (hi pins s σ H _ I h) fun v s1 h1 => thn h1 fun itv s2 h2 => ?_) hs
 obtain ⟨it, fp, tn, J, H2, e, I2, T, st2, f2, W, ⟨m0, w0⟩, turn⟩ := h2
 subst e
 have stat : ∀ {H' : Hp}, (∀ b ∈ fp, H' b = none) -> ∀ b ∈ fp, FpOk X pins H' b := fun hn b hb => ⟨hn b hb, (f2 b hb).2⟩
 refine codeAny_forLoop_any (fun n s' => ∃ i σ' H', Inv X pins σ' H' s' /\ tn i s'.heap /\ (∀ b ∈ fp, H' b = none) /\ W i n σ' H') ?_ m0 ⟨0, σ, H2, I2, st2, fun b hb => (f2 b hb).1, w0⟩
 rintro n s3 ⟨i, σ3, H3, I3, st3, fr3, w3⟩
 rcases turn i n σ3 H3 w3 with ⟨stop, qn⟩ | ⟨go, N, hN, step⟩
 ·refine wpAny_passesOwn hp (thn (T.done X rfl rfl rfl hc i pins s3 σ3 H3 X.xe I3 (stat fr3) st3 stop) fun r s4 ⟨hr, I4⟩ => ?_)
  subst hr
  exact wpAny_execs_nil ⟨σ3, H3, I4, qn⟩
 ·refine wpAny_passesOwn hp (thn (T.item X rfl rfl rfl hc i pins s3 σ3 H3 X.xe I3 (stat fr3) st3 go) fun r s4 ⟨u, hr, h4⟩ => ?_)
  subst hr
  refine wpAny_passesOwn hp (thn h4 fun _ s5 ⟨x, H5, I5, r5, y5, st5, fr5⟩ => ?_)
  have I5' := I5.pinned (stat fr5) (T.obj _ _ st5)
  refine wpAny_passesOwn hp (thn (hg _ s5 σ3 H5 x u _ I5' r5 (step x H5 y5)) fun _ s6 ⟨σ6, H6, I6, q6⟩ => ?_)
  refine wpAny_passesOwn hp (thn (hb _ s6 σ6 H6 _ I6 q6) fun f s7 q7 => ?_)
  have again : ∀ {σ7 : St} {H7 : Hp}, Inv X (pins ++ pinsAt fp s5.heap) σ7 H7 s7 -> N σ7 H7 -> ∃ m, m < n /\ ∃ i σ' H', Inv X pins σ' H' s7 /\ tn i s7.heap /\ (∀ b ∈ fp, H' b = none) /\ W i m σ' H' := fun {σ7 H7} I7 n7 => by
   obtain ⟨m', hm, w7⟩ := hN σ7 H7 n7
   refine ⟨m', hm, i + 1, σ7, H7, I7.unpinned, T.keep _ _ _ st5 fun b hb o e => (I7.pin (b, o) (List.mem_append_right _ (List.mem_append_right _ (mem_pinsAt hb e)))).1, fun b hb => ?_, w7⟩
   obtain ⟨o, e, d⟩ := T.obj _ _ st5 b hb
   exact (I7.pin (b, o) (List.mem_append_right _ (List.mem_append_right _ (mem_pinsAt hb e)))).2.1
  cases f with
  | next => obtain ⟨σ7, H7, I7, n7⟩ := q7; exact again I7 n7
  | cont => obtain ⟨σ7, H7, I7, n7⟩ := q7; exact again I7 n7
  | brk => obtain ⟨σ7, H7, I7, q7⟩ := q7; exact ⟨σ7, H7, I7.unpinned, q7⟩
  | ret v => obtain ⟨x7, σ7, H7, I7, r7, q7⟩ := q7; exact ⟨x7, σ7, H7, I7.unpinned, r7, q7⟩
end
theorem for_list {K : PySem.W.Frag} {a : Addr} {xs : List V} {g : TG} {tb : TS} {D : Ends} {σ : St} {H : Hp} (Pv : Nat -> St -> Hp -> Prop) (h0 : Pv 0 σ H) (hl : ∀ i σ H, i <= xs.length -> Pv i σ H -> SqL K H a xs)
  (hs : ∀ i x σ H, xs[i]? = some x -> Pv i σ H -> g x σ H fun σ2 H2 => tb { D with nx := Pv (i + 1), ct := Pv (i + 1), bk := D.nx } σ2 H2) (hd : ∀ σ H, Pv xs.length σ H -> D.nx σ H) :
  ∃ W : Nat -> Nat -> St -> Hp -> Prop, (∃ m, W 0 m σ H) /\ ∀ i m σ H, W i m σ H ->
   ((Itl K a).stop i H /\ D.nx σ H) \/ ((Itl K a).go i H /\ ∃ N : St -> Hp -> Prop, (∀ σ' H', N σ' H' -> ∃ m', m' < m /\ W (i + 1) m' σ' H') /\ ∀ x H', (Itl K a).yld i H x H' -> g x σ H' fun σ2 H2 => tb { D with nx := N, ct := N, bk := D.nx } σ2 H2) := by
 refine ⟨fun i m σ H => m = xs.length - i /\ i <= xs.length /\ Pv i σ H, ⟨xs.length, by simp, Nat.zero_le _, h0⟩, ?_⟩
 rintro i m σ H ⟨rfl, hi, p⟩
 have q := hl i σ H hi p
 by_cases hlt : i < xs.length
 ·refine .inr ⟨⟨xs, xs[i], q, by simp [hlt]⟩, Pv (i + 1), fun σ' H' p' => ⟨xs.length - (i + 1), by omega, rfl, hlt, p'⟩, fun x H' y => ?_⟩
  obtain ⟨e, y⟩ := y
  subst e
  exact hs i x σ _ (y xs q) p
 ·have e : i = xs.length := by omega
  subst e
  exact .inl ⟨⟨xs, q, Nat.le_refl _⟩, hd σ H p⟩
theorem for_range {lo : Int} {n : Nat} {g : TG} {tb : TS} {D : Ends} {σ : St} {H : Hp} (Pv : Nat -> St -> Hp -> Prop) (h0 : Pv 0 σ H)
  (hs : ∀ i σ H, i < n -> Pv i σ H -> g (.int (lo + i)) σ H fun σ2 H2 => tb { D with nx := Pv (i + 1), ct := Pv (i + 1), bk := D.nx } σ2 H2) (hd : ∀ σ H, Pv n σ H -> D.nx σ H) :
  ∃ W : Nat -> Nat -> St -> Hp -> Prop, (∃ m, W 0 m σ H) /\ ∀ i m σ H, W i m σ H ->
   ((Itr lo n).stop i H /\ D.nx σ H) \/ ((Itr lo n).go i H /\ ∃ N : St -> Hp -> Prop, (∀ σ' H', N σ' H' -> ∃ m', m' < m /\ W (i + 1) m' σ' H') /\ ∀ x H', (Itr lo n).yld i H x H' -> g x σ H' fun σ2 H2 => tb { D with nx := N, ct := N, bk := D.nx } σ2 H2) := by
 refine ⟨fun i m σ H => m = n - i /\ i <= n /\ Pv i σ H, ⟨n, by simp, Nat.zero_le _, h0⟩, ?_⟩
 rintro i m σ H ⟨rfl, hi, p⟩
 by_cases hlt : i < n
 ·refine .inr ⟨hlt, Pv (i + 1), fun σ' H' p' => ⟨n - (i + 1), by omega, rfl, hlt, p'⟩, fun x H' y => ?_⟩
  obtain ⟨e, y⟩ := y
  subst e y
  exact hs i σ _ hlt p
 ·have e : i = n := by omega
  subst e
  exact .inl ⟨Nat.le_refl _, hd σ H p⟩
end L2
namespace L2
open PySem PySem.Spec PyProof.Rows
abbrev R2 := V -> V -> Hp -> VK -> Prop
def OpR (X : Cx) (f : Value -> Value -> Sem Value) (r : R2) : Prop :=
 ∀ (pins : List (Addr × Obj)) (s : Shared) (σ : St) (H : Hp) (x y : V) (v u : Value) (Q : VK), Inv X pins σ H s -> RelV x v -> RelV y u -> r x y H Q ->
  wpAny (model X.prog X.w) X.A (f v u) (EP X pins σ Q) X.xe s
def UnR (X : Cx) (f : Value -> Sem Value) (r : V -> Hp -> VK -> Prop) : Prop :=
 ∀ (pins : List (Addr × Obj)) (s : Shared) (σ : St) (H : Hp) (x : V) (v : Value) (Q : VK), Inv X pins σ H s -> RelV x v -> r x H Q ->
  wpAny (model X.prog X.w) X.A (f v) (EP X pins σ Q) X.xe s
def CallR (X : Cx) (f : Value) (r : List V -> Hp -> VK -> Prop) : Prop :=
 ∀ (pins : List (Addr × Obj)) (s : Shared) (σ : St) (H : Hp) (xs : List V) (us : List Value) (Q : VK), Inv X pins σ H s -> Vals xs us -> r xs H Q ->
  wpAny (model X.prog X.w) X.A (call f us) (EP X pins σ Q) X.xe s
def tOp (r : R2) (ta tb : TE) : TE := fun σ H Q => ta σ H fun x H1 => tb σ H1 fun y H2 => r x y H2 Q
def tUn (r : V -> Hp -> VK -> Prop) (ta : TE) : TE := fun σ H Q => ta σ H fun x H1 => r x H1 Q
def rI (C : Int -> Int -> Prop) (g : Int -> Int -> V) : R2 := fun x y H Q => ∃ i j, x = .int i /\ y = .int j /\ C i j /\ Q (g i j) H
def rI0 (g : Int -> Int -> V) : R2 := fun x y H Q => ∃ i j, x = .int i /\ y = .int j /\ Q (g i j) H
def rU (g : Int -> V) : V -> Hp -> VK -> Prop := fun x H Q => ∃ i, x = .int i /\ Q (g i) H
section
variable {X : Cx} {a b c : Expr} {ta tb tc : TE} {pos : Pos}
theorem binT (ha : PE X a ta) (hb : PE X b tb) {pins : List (Addr × Obj)} {s : Shared} {σ : St} {H : Hp} {R : V -> V -> Hp -> Prop} (I : Inv X pins σ H s)
  (h : ta σ H fun x H1 => tb σ H1 fun y H2 => R x y H2) {Q : Value -> Shared -> Prop} {f : Value -> Value -> Sem Value}
  (hf : ∀ v u s2 x y H2, Inv X pins σ H2 s2 -> RelV x v -> RelV y u -> R x y H2 -> wpAny (model X.prog X.w) X.A (f v u) Q X.xe s2) :
  wpAny (model X.prog X.w) X.A (eval a X.env) (fun v s₁ => wpAny (model X.prog X.w) X.A (eval b X.env) (fun u s₂ => wpAny (model X.prog X.w) X.A (f v u) Q X.xe s₂) X.xe s₁) X.xe s := by
 refine thn (ha pins s σ H _ I h) fun v s1 ⟨x, H1, I1, r1, q1⟩ => ?_
 refine thn (hb pins s1 σ H1 _ I1 q1) fun u s2 ⟨y, H2, I2, r2, q2⟩ => ?_
 exact hf v u s2 x y H2 I2 r1 r2 q2
theorem pe_op {op : Operator} {r : R2} (ho : OpR X (binaryOp op) r) (ha : PE X a ta) (hb : PE X b tb) : PE X (.BinOp a op b pos) (tOp r ta tb) := by
 intro pins s σ H Q I h
 exact wpAny_BinOp (binT ha hb I h fun v u s2 x y H2 I2 rx ry q => ho pins s2 σ H2 x y v u Q I2 rx ry q)
theorem pe_un {op : UnaryOp} {r : V -> Hp -> VK -> Prop} (ho : UnR X (unaryOp op) r) (ha : PE X a ta) : PE X (.UnaryOp op a pos) (tUn r ta) := by
 intro pins s σ H Q I h
 exact UnaryOp_ (thn (ha pins s σ H _ I h) fun v s1 ⟨x, H1, I1, r1, q1⟩ => ho pins s1 σ H1 x v Q I1 r1 q1)
theorem opI {f : Value -> Value -> Sem Value} {C : Int -> Int -> Prop} {g : Int -> Int -> Int}
  (rule : ∀ (i j : Int) (t u : Tok) (s : Shared) (Q : Value -> Shared -> Prop) (E : Value -> Shared -> Prop), C i j -> Q (.int (g i j) s.toks) { s with toks := s.toks + 1 } -> wpAny (model X.prog X.w) X.A (f (.int i t) (.int j u)) Q E s) :
  OpR X f (rI C fun i j => .int (g i j)) := by
 intro pins s σ H x y v u Q I rx ry h
 obtain ⟨i, j, rfl, rfl, hc, q⟩ := h
 obtain ⟨t, rfl⟩ := rx
 obtain ⟨t', rfl⟩ := ry
 exact rule i j t t' s _ _ hc ⟨.int (g i j), H, I.tok _, ⟨_, rfl⟩, q⟩
theorem opI0 {f : Value -> Value -> Sem Value} {g : Int -> Int -> Int}
  (rule : ∀ (i j : Int) (t u : Tok) (s : Shared) (Q : Value -> Shared -> Prop) (E : Value -> Shared -> Prop), Q (.int (g i j) s.toks) { s with toks := s.toks + 1 } -> wpAny (model X.prog X.w) X.A (f (.int i t) (.int j u)) Q E s) :
  OpR X f (rI0 fun i j => .int (g i j)) := by
 intro pins s σ H x y v u Q I rx ry h
 obtain ⟨i, j, rfl, rfl, q⟩ := h
 obtain ⟨t, rfl⟩ := rx
 obtain ⟨t', rfl⟩ := ry
 exact rule i j t t' s _ _ ⟨.int (g i j), H, I.tok _, ⟨_, rfl⟩, q⟩
theorem opB0 {f : Value -> Value -> Sem Value} {g : Int -> Int -> Bool}
  (rule : ∀ (i j : Int) (t u : Tok) (s : Shared) (Q : Value -> Shared -> Prop) (E : Value -> Shared -> Prop), Q (.bool (g i j)) s -> wpAny (model X.prog X.w) X.A (f (.int i t) (.int j u)) Q E s) :
  OpR X f (rI0 fun i j => .bl (g i j)) := by
 intro pins s σ H x y v u Q I rx ry h
 obtain ⟨i, j, rfl, rfl, q⟩ := h
 obtain ⟨t, rfl⟩ := rx
 obtain ⟨t', rfl⟩ := ry
 exact rule i j t t' s _ _ ⟨.bl (g i j), H, I, rfl, q⟩
def CPow (i j : Int) : Prop := 0 <= j /\ j <= 1000000 /\ i.natAbs < 2 ^ 64
def CMul (i j : Int) : Prop := (-(2 ^ 64) < i /\ i < 2 ^ 64) \/ (-(2 ^ 64) < j /\ j < 2 ^ 64)
theorem CMul.ok {i j : Int} (h : CMul i j) : IntMulOk i j := by
 rcases h with ⟨h1, h2⟩ | ⟨h1, h2⟩
 ·exact .of_left (intBits_le_64 h1 h2)
 ·exact .of_right (intBits_le_64 h1 h2)
theorem op_add : OpR X (binaryOp .Add) (rI0 fun i j => .int (i + j)) := opI0 fun _ _ _ _ _ _ _ q => add_int q
theorem op_mul : OpR X (binaryOp .Mult) (rI CMul fun i j => .int (i * j)) := opI fun _ _ _ _ _ _ _ hc q => mul_int q hc.ok
theorem op_mod : OpR X (binaryOp .Mod) (rI (fun _ j => 0 < j) fun i j => .int (i % j)) := opI fun i j _ _ _ _ _ hc q => by
 have h1 : (0 : Int) < j := hc
 exact mod_int' (by omega) (by rw [Int.fmod_eq_emod_of_nonneg i (by omega)]; exact q)
theorem op_pow : OpR X (binaryOp .Pow) (rI CPow fun i j => .int (i ^ j.toNat)) := opI fun _ _ _ _ _ _ _ hc q => pow_int_small hc.1 hc.2.1 hc.2.2 q
theorem unI {f : Value -> Sem Value} {g : Int -> Int}
  (rule : ∀ (i : Int) (t : Tok) (s : Shared) (Q : Value -> Shared -> Prop) (E : Value -> Shared -> Prop), Q (.int (g i) s.toks) { s with toks := s.toks + 1 } -> wpAny (model X.prog X.w) X.A (f (.int i t)) Q E s) :
  UnR X f (rU fun i => .int (g i)) := by
 intro pins s σ H x v Q I rx h
 obtain ⟨i, rfl, q⟩ := h
 obtain ⟨t, rfl⟩ := rx
 exact rule i t s _ _ ⟨.int (g i), H, I.tok _, ⟨_, rfl⟩, q⟩
theorem un_neg : UnR X (unaryOp .USub) (rU fun i => .int (-i)) := unI fun _ _ _ _ _ q => neg_int q
end
def scal : V -> V -> Bool
 | .non, .non => true | .non, .int _ => true | .int _, .non => true | .non, .bl _ => true | .bl _, .non => true | .non, .str _ => true | .str _, .non => true
 | .int _, .int _ => true | .bl _, .bl _ => true | .str _, .str _ => true | .byt _, .byt _ => true
 | .int _, .str _ => true | .str _, .int _ => true | .bl _, .str _ => true | .str _, .bl _ => true
 | _, _ => false
def rEq : R2 := fun x y H Q => scal x y = true /\ Q (.bl (decide (x = y))) H
def rNe : R2 := fun x y H Q => scal x y = true /\ Q (.bl (!decide (x = y))) H
theorem dec_int {i j : Int} : decide (V.int i = V.int j) = (i == j) := by
 rw [Bool.eq_iff_iff]
 simp
theorem dec_bl {i j : Bool} : decide (V.bl i = V.bl j) = (i == j) := by
 rw [Bool.eq_iff_iff]
 simp
theorem dec_str {i j : Str} : decide (V.str i = V.str j) = (i == j) := by
 rw [Bool.eq_iff_iff]
 simp
theorem dec_byt {i j : Array UInt8} : decide (V.byt i = V.byt j) = (i.toList == j.toList) := by
 rw [Bool.eq_iff_iff]
 cases i
 cases j
 simp
section
variable {X : Cx} {a b c : Expr} {ta tb tc : TE} {pos : Pos}
theorem fin_bl {pins : List (Addr × Obj)} {σ : St} {H : Hp} {s : Shared} {Q : VK} {k k' : Bool} (I : Inv X pins σ H s) (q : Q (.bl k) H) (e : k = k') : EP X pins σ Q (.bool k') s := by
 subst e
 exact ⟨.bl k, H, I, rfl, q⟩
theorem op_eq : OpR X (compareOp .Eq) rEq := by
 intro pins s σ H x y v u Q I rx ry h
 obtain ⟨hs, q⟩ := h
 cases x with
 | non =>
  cases rx
  cases y with
  | non => cases ry; exact PySem.EqNone.eq_none_none (fin_bl I q (by simp))
  | bl j => cases ry; exact PySem.EqNone.eq_none_bool (fin_bl I q (by simp))
  | int j => obtain ⟨t', rfl⟩ := ry; exact PySem.EqNone.eq_none_int (fin_bl I q (by simp))
  | str j => obtain ⟨t', rfl⟩ := ry; exact PySem.EqNone.eq_none_str (fin_bl I q (by simp))
  | _ => exact absurd (show false = true from hs) Bool.false_ne_true
 | bl i =>
  cases rx
  cases y with
  | non => cases ry; exact PySem.EqNone.eq_bool_none (fin_bl I q (by simp))
  | bl j => cases ry; exact eq_bool (fin_bl I q dec_bl)
  | str j => obtain ⟨t', rfl⟩ := ry; exact PySem.EqMixed.eq_bool_str (fin_bl I q (by simp))
  | _ => exact absurd (show false = true from hs) Bool.false_ne_true
 | int i =>
  obtain ⟨t, rfl⟩ := rx
  cases y with
  | non => cases ry; exact PySem.EqNone.eq_int_none (fin_bl I q (by simp))
  | int j => obtain ⟨t', rfl⟩ := ry; exact eq_int (fin_bl I q dec_int)
  | str j => obtain ⟨t', rfl⟩ := ry; exact PySem.EqMixed.eq_int_str (fin_bl I q (by simp))
  | _ => exact absurd (show false = true from hs) Bool.false_ne_true
 | str i =>
  obtain ⟨t, rfl⟩ := rx
  cases y with
  | non => cases ry; exact PySem.EqNone.eq_str_none (fin_bl I q (by simp))
  | bl j => cases ry; exact PySem.EqMixed.eq_str_bool (fin_bl I q (by simp))
  | int j => obtain ⟨t', rfl⟩ := ry; exact PySem.EqMixed.eq_str_int (fin_bl I q (by simp))
  | str j => obtain ⟨t', rfl⟩ := ry; exact eq_str (fin_bl I q dec_str)
  | _ => exact absurd (show false = true from hs) Bool.false_ne_true
 | byt i =>
  obtain ⟨t, rfl⟩ := rx
  cases y with
  | byt j => obtain ⟨t', rfl⟩ := ry; exact PySem.W.eq_bytes (fin_bl I q dec_byt)
  | _ => exact absurd (show false = true from hs) Bool.false_ne_true
 | _ => cases y <;> exact absurd (show false = true from hs) Bool.false_ne_true
theorem op_ne : OpR X (compareOp .NotEq) rNe := by
 intro pins s σ H x y v u Q I rx ry h
 obtain ⟨hs, q⟩ := h
 cases x with
 | non =>
  cases rx
  cases y with
  | non => cases ry; exact PySem.EqNone.ne_none_none (fin_bl I q (by simp))
  | bl j => cases ry; exact PySem.EqNone.ne_none_bool (fin_bl I q (by simp))
  | int j => obtain ⟨t', rfl⟩ := ry; exact PySem.EqNone.ne_none_int (fin_bl I q (by simp))
  | str j => obtain ⟨t', rfl⟩ := ry; exact PySem.EqNone.ne_none_str (fin_bl I q (by simp))
  | _ => exact absurd (show false = true from hs) Bool.false_ne_true
 | bl i =>
  cases rx
  cases y with
  | non => cases ry; exact PySem.EqNone.ne_bool_none (fin_bl I q (by simp))
  | bl j => cases ry; exact ne_bool (fin_bl I q (congrArg not dec_bl))
  | str j => obtain ⟨t', rfl⟩ := ry; exact PySem.EqMixed.ne_bool_str (fin_bl I q (by simp))
  | _ => exact absurd (show false = true from hs) Bool.false_ne_true
 | int i =>
  obtain ⟨t, rfl⟩ := rx
  cases y with
  | non => cases ry; exact PySem.EqNone.ne_int_none (fin_bl I q (by simp))
  | int j => obtain ⟨t', rfl⟩ := ry; exact ne_int (fin_bl I q (congrArg not dec_int))
  | str j => obtain ⟨t', rfl⟩ := ry; exact PySem.EqMixed.ne_int_str (fin_bl I q (by simp))
  | _ => exact absurd (show false = true from hs) Bool.false_ne_true
 | str i =>
  obtain ⟨t, rfl⟩ := rx
  cases y with
  | non => cases ry; exact PySem.EqNone.ne_str_none (fin_bl I q (by simp))
  | bl j => cases ry; exact PySem.EqMixed.ne_str_bool (fin_bl I q (by simp))
  | int j => obtain ⟨t', rfl⟩ := ry; exact PySem.EqMixed.ne_str_int (fin_bl I q (by simp))
  | str j => obtain ⟨t', rfl⟩ := ry; exact ne_str (fin_bl I q (congrArg not dec_str))
  | _ => exact absurd (show false = true from hs) Bool.false_ne_true
 | byt i =>
  obtain ⟨t, rfl⟩ := rx
  cases y with
  | byt j => obtain ⟨t', rfl⟩ := ry; exact PySem.W.ne_bytes (fin_bl I q (congrArg not dec_byt))
  | _ => exact absurd (show false = true from hs) Bool.false_ne_true
 | _ => cases y <;> exact absurd (show false = true from hs) Bool.false_ne_true
theorem op_lt : OpR X (compareOp .Lt) (rI0 fun i j => .bl (decide (i < j))) := opB0 fun _ _ _ _ _ _ _ q => lt_int q
theorem op_le : OpR X (compareOp .LtE) (rI0 fun i j => .bl (decide (i <= j))) := opB0 fun _ _ _ _ _ _ _ q => le_int q
theorem op_gt : OpR X (compareOp .Gt) (rI0 fun i j => .bl (decide (j < i))) := opB0 fun _ _ _ _ _ _ _ q => gt_int q
theorem op_ge : OpR X (compareOp .GtE) (rI0 fun i j => .bl (decide (j <= i))) := opB0 fun _ _ _ _ _ _ _ q => ge_int q
theorem op_in_str : OpR X (compareOp .In) (fun x y H Q => ∃ i j, x = .str i /\ y = .str j /\ Q (.bl (!(Builtin.Str.occurrences j i 0 j.length 1).isEmpty)) H) := by
 intro pins s σ H x y v u Q I rx ry h
 obtain ⟨i, j, rfl, rfl, q⟩ := h
 obtain ⟨t, rfl⟩ := rx
 obtain ⟨t', rfl⟩ := ry
 exact in_str (fin_bl I q rfl)
theorem op_isN : OpR X (compareOp .Is) (fun x y H Q => y = .non /\ Q (.bl (decide (x = .non))) H) := by
 intro pins s σ H x y v u Q I rx ry h
 obtain ⟨rfl, q⟩ := h
 cases ry
 refine is_none_gen (fin_bl I q ?_)
 cases x <;> first
  |(cases rx; rfl)
  |(obtain ⟨t, rfl⟩ := rx; rfl)
theorem op_notN : OpR X (compareOp .IsNot) (fun x y H Q => y = .non /\ Q (.bl (!decide (x = .non))) H) := by
 intro pins s σ H x y v u Q I rx ry h
 obtain ⟨rfl, q⟩ := h
 cases ry
 refine isnot_none_gen (fin_bl I q ?_)
 cases x <;> first
  |(cases rx; rfl)
  |(obtain ⟨t, rfl⟩ := rx; rfl)
theorem nomark (b : Expr) {op : CmpOp} (h : op ≠ .In := by decide) (h2 : op ≠ .NotIn := by decide) : behindInMarks op b = false := by
 have e1 : (op == CmpOp.In) = false := by cases op <;> first | rfl | exact absurd rfl h
 have e2 : (op == CmpOp.NotIn) = false := by cases op <;> first | rfl | exact absurd rfl h2
 cases b <;> simp [behindInMarks, e1, e2]
theorem pe_cmpR {op : CmpOp} {r : R2} (ho : OpR X (compareOp op) r) (ha : PE X a ta) (hb : PE X b tb) (hm : behindInMarks op b = false) : PE X (.Compare a [op] [b] pos) (tOp r ta tb) := by
 intro pins s σ H Q I h
 exact wpAny_Compare1 (binT ha hb I h fun v u s2 x y H2 I2 rx ry q => ho pins s2 σ H2 x y v u Q I2 rx ry q) hm
def tTest (t : TE) : TT := fun σ H Q => t σ H fun x H' => ∃ k, x = .bl k /\ Q k H'
theorem pt_cmpR {op : CmpOp} {r : R2} (ho : OpR X (compareOp op) r) (ha : PE X a ta) (hb : PE X b tb) (hm : behindInMarks op b = false) : PT X (.Compare a [op] [b] pos) (tTest (tOp r ta tb)) := by
 intro pins s σ H Q I h
 refine wpAny_isTrue_Compare1 (thn (ha pins s σ H _ I h) fun v s1 ⟨x, H1, I1, r1, q1⟩ => thn (hb pins s1 σ H1 _ I1 q1) fun u s2 ⟨y, H2, I2, r2, q2⟩ =>
  thn (ho pins s2 σ H2 x y v u _ I2 r1 r2 q2) fun c s3 ⟨z, H3, I3, r3, k, e, q3⟩ => ?_) hm
 subst e
 cases r3
 exact wpAny_truthy_bool ⟨H3, I3, q3⟩
def tChain (r r' : R2) (ta tb tc : TE) : TE := fun σ H Q => ta σ H fun x H1 => tb σ H1 fun y H2 => r x y H2 fun z H3 => ∃ k, z = .bl k /\
 (if k = true then tc σ H3 fun w' H4 => r' y w' H4 Q else Q (.bl false) H3)
theorem pt_chain {op op' : CmpOp} {r r' : R2} (ho : OpR X (compareOp op) r) (ho' : OpR X (compareOp op') r') (ha : PE X a ta) (hb : PE X b tb) (hc : PE X c tc)
  (hm : lastMarks [op, op'] [b, c] = false := by with_unfolding_all rfl) : PT X (.Compare a [op, op'] [b, c] pos) (tTest (tChain r r' ta tb tc)) := by
 intro pins s σ H Q I h
 refine isTrue_chain (thn (ha pins s σ H _ I h) fun v s1 ⟨x, H1, I1, r1, q1⟩ => test_link (thn (hb pins s1 σ H1 _ I1 q1) fun u s2 ⟨y, H2, I2, r2, q2⟩ =>
  thn (ho pins s2 σ H2 x y v u _ I2 r1 r2 q2) fun d s3 ⟨z, H3, I3, r3, k, e, q3⟩ => ?_)) hm
 subst e
 cases r3
 refine wpAny_truthy_bool ?_
 cases k with
 | false =>
  obtain ⟨k', e', q'⟩ := q3
  cases e'
  exact ite_ff ⟨H3, I3, q'⟩
 | true =>
  refine ite_tt (test_last (thn (hc pins s3 σ H3 _ I3 q3) fun w' s4 ⟨z', H4, I4, r4, q4⟩ => thn (ho' pins s4 σ H4 y z' u w' _ I4 r2 r4 q4) fun d' s5 ⟨z2, H5, I5, r5, k2, e2, q5⟩ => ?_))
  subst e2
  cases r5
  exact wpAny_truthy_bool ⟨H5, I5, q5⟩
theorem line63 : (sizeLine : Nat) < 2 ^ 63 := by rw [sizeLine_eq]; decide
theorem op_add_str : OpR X (binaryOp .Add) (fun x y H Q => ∃ i j, x = .str i /\ y = .str j /\ i.length + j.length <= sizeLine /\ Q (.str (i ++ j)) H) := by
 intro pins s σ H x y v u Q I rx ry h
 obtain ⟨i, j, rfl, rfl, hz, q⟩ := h
 obtain ⟨t, rfl⟩ := rx
 obtain ⟨t', rfl⟩ := ry
 exact add_str (fun t' tk => ⟨.str (i ++ j), H, I.tok _, ⟨_, rfl⟩, q⟩) hz
theorem vals1 {x : V} {us : List Value} (r : Vals [x] us) : ∃ u, us = [u] /\ RelV x u := by
 cases r with
 | cons r1 r2 => cases r2; exact ⟨_, rfl, r1⟩
theorem vals2 {x y : V} {us : List Value} (r : Vals [x, y] us) : ∃ u w', us = [u, w'] /\ RelV x u /\ RelV y w' := by
 cases r with
 | cons r1 r2 =>
  cases r2 with
  | cons r3 r4 => cases r4; exact ⟨_, _, rfl, r1, r3⟩
theorem call_min2 (hc : X.calm = true) : CallR X (.builtin "min") (fun xs H Q => ∃ i j, xs = [.int i, .int j] /\ Q (.int (if j < i then j else i)) H) := by
 intro pins s σ H xs us Q I r h
 obtain ⟨i, j, rfl, q⟩ := h
 obtain ⟨u, w', rfl, ⟨t, rfl⟩, ⟨t', rfl⟩⟩ := vals2 r
 refine min_two_ints (I.ok.hd hc) fun h' tk k => ⟨_, H, I.kept k, ?_, q⟩
 by_cases hj : j < i
 ·rw [if_pos hj, if_pos hj]; exact ⟨_, rfl⟩
 ·rw [if_neg hj, if_neg hj]; exact ⟨_, rfl⟩
theorem call_str_int : CallR X (.type "str") (fun xs H Q => ∃ i, xs = [.int i] /\ i.natAbs.log2 < 1920 /\ Q (.str (toString i)) H) := by
 intro pins s σ H xs us Q I r h
 obtain ⟨i, rfl, hz, q⟩ := h
 obtain ⟨u, rfl, t, rfl⟩ := vals1 r
 exact PySem.P.str_of_int hz ⟨.str _, H, I.tok _, ⟨_, rfl⟩, q⟩
end
end L2
namespace L2
open PySem PySem.Spec PyProof.Rows
section
variable {prog : Program} {w : World} {A : Around} {E : Value -> Shared -> Prop} {s : Shared} {K : PySem.W.Frag} {x dx C f : Addr} {mA : Str -> Option Value} {name : Str} {v : Value}
end
section
variable {P : Program} {w : World} {H H' : Hp} {h h' : Heap} {a C dx : Addr} {fs fs' : List (Str × V)}
end
section
variable {X : Cx} {pins : List (Addr × Obj)} {σ : St} {H : Hp} {s : Shared} {a C dx : Addr} {fs : List (Str × V)} {f : Str} {v : V} {A : Around} {E : Value -> Shared -> Prop}
end
section
variable {X : Cx} {o e value : Expr} {f : Str} {pos pos' tpos : Pos} {ta tv : TE}
end
section
variable {X : Cx} {pins : List (Addr × Obj)} {σ : St} {H : Hp} {s : Shared} {A : Around} {E : Value -> Shared -> Prop} {Q : Value -> Shared -> Prop} {c : Value} {b : Bool}
end
end L2
namespace L2
open PySem PySem.Spec PyProof.Rows
structure Room (k : Nat) (A : Around) : Prop where
 hd : A.handled = none
 dp : A.depth + 3 * k + 5 < recursionLimit
 un : A.units + 16 * k + 200 < cLine
theorem Room.mono {j k : Nat} {A : Around} (r : Room k A) (h : j <= k) : Room j A := ⟨r.hd, by have := r.dp; omega, by have := r.un; omega⟩
theorem Room.deeper {k : Nat} {A : Around} (r : Room (k + 1) A) (env : Env) : Room k (A.deeper env) :=
 ⟨r.hd, by have := r.dp; show A.depth + 1 + 3 * k + 5 < _; omega, by have := r.un; show A.units + 3 + 16 * k + 200 < _; omega⟩
theorem Room.depth {k : Nat} {A : Around} (r : Room k A) : A.depth < recursionLimit := by have := r.dp; omega
def tNil : TA := fun _ H Q => Q [] H
def tCons (ta : TE) (tr : TA) : TA := fun σ H Q => ta σ H fun x H1 => tr σ H1 fun xs H2 => Q (x :: xs) H2
section
variable {X : Cx} {e : Expr} {es : List Expr} {te : TE} {t : TA} {pos : Pos}
theorem pa_nil : PA X [] tNil := fun _ _ _ _ H Q I h => Calls.spliced_nil ⟨[], H, I, .nil, h⟩
theorem pa_cons (ha : PE X e te) (hr : PA X es t) (hs : starEach (e :: es) X.env = (false, eval e X.env) :: starEach es X.env := by rfl) : PA X (e :: es) (tCons te t) := by
 intro pos pins s σ H Q I h
 rw [hs]
 show wpAny _ _ (spliced ((false, eval e X.env) :: backTo pos (starEach es X.env))) _ _ s
 refine Calls.spliced_cons (thn (ha pins s σ H _ I h) fun u s1 ⟨x, H1, I1, r1, q1⟩ => ?_)
 exact thn (hr pos pins s1 σ H1 _ I1 q1) fun us s2 ⟨xs, H2, I2, r2, q2⟩ => ⟨x :: xs, H2, I2, .cons r1 r2, q2⟩
def tTup (t : TA) : TE := fun σ H Q => t σ H fun xs H1 => xs.length <= sizeLine /\ ∀ p, H1 p = none -> Q (.ref p) (upd H1 p (.tup xs))
def tLst (t : TA) : TE := fun σ H Q => t σ H fun xs H1 => xs.length <= sizeLine /\ ∀ p, H1 p = none -> Q (.ref p) (upd H1 p (.lst xs))
theorem pe_tup {x1} (h : PA X es t) : PE X (.Tuple es x1 pos) (tTup t) := by
 intro pins s σ H Q I hq
 refine wpAny_Tuple_spliced (thn (h pos pins s σ H _ I hq) fun us s1 ⟨xs, H1, I1, r, z, q⟩ => ⟨by rw [<- r.length]; exact z, ?_⟩)
 have hf : H1 s1.heap.objs.size = none := I1.hok.fresh (Nat.le_refl _)
 refine ⟨.ref s1.heap.objs.size, upd H1 s1.heap.objs.size (.tup xs), I1.laid (t' := s1.toks) (fun b u e => Heap.get?_push_of_some _ e) (Nat.le_refl _) ?_, rfl, q _ hf⟩
 exact ⟨z, us, r, ⟨_, Heap.get?_push_size _ rfl, rfl, _, rfl⟩⟩
theorem pe_lst (h : PA X es t) : PE X (.List es pos) (tLst t) := by
 intro pins s σ H Q I hq
 refine wpAny_List_spliced (thn (h pos pins s σ H _ I hq) fun us s1 ⟨xs, H1, I1, r, z, q⟩ => ⟨by rw [<- r.length]; exact z, ?_⟩)
 have hf : H1 s1.heap.objs.size = none := I1.hok.fresh (Nat.le_refl _)
 refine ⟨.ref s1.heap.objs.size, upd H1 s1.heap.objs.size (.lst xs), I1.laid (t' := s1.toks) (fun b u e => Heap.get?_push_of_some _ e) (Nat.le_refl _) ?_, rfl, q _ hf⟩
 exact ⟨z, us, 0, r, Heap.get?_push_size _ rfl⟩
end
abbrev Sp := List V -> Hp -> VK -> XK -> Prop
abbrev CXT := List Env -> Hp -> Shared -> XK -> Value -> Shared -> Prop
structure Env0 (P : Program) (w : World) (K : PySem.W.Frag) (mg : Str -> Option Value) (base : Heap) (A : Around) (outer : List Env) (s : Shared) (H : Hp) : Prop where
 frames : A.frames = some outer
 mod : Mod K mg base
 bs : ∀ b o, base.get? b = some o -> s.heap.get? b = some o /\ H b = none
 bsz : base.objs.size <= s.heap.objs.size
 funs : s.heap.FunFrames base outer
 frf : ∀ b ∈ frs outer, H b = none
 hok : HOk P w H s.heap
 bare : AllBare s.gens
def CE (outer : List Env) (P : Program) (w : World) (H : Hp) (s : Shared) (Q : VK) (u : Value) (s' : Shared) : Prop :=
 ∃ v H', s'.os = s.os /\ AllBare s'.gens /\ Un (frs outer) [] H H' s.heap s'.heap /\ HOk P w H' s'.heap /\ RelV v u /\ Q v H'
def CR (CX : CXT) (outer : List Env) (P : Program) (w : World) (H : Hp) (s : Shared) (Q : VK) (E : XK) (r : Result) (s' : Shared) : Prop :=
 match r with
 | .ok (.ret u) => CE outer P w H s Q u s'
 | .ok _ => False
 | .error e => CX outer H s E e s'
structure FnOk (P : Program) (w : World) (K : PySem.W.Frag) (mg : Str -> Option Value) (base : Heap) (CX : CXT) (k : Nat) (f : Addr) (fd : FuncData) (ps : List Str) (sp : Sp) : Prop where
 len : ∀ vs H Q E, sp vs H Q E -> vs.length = ps.length
 run : ∀ (A : Around) (outer : List Env) (s : Shared) (H : Hp) (args : Args) (us : List Value) (vs : List V) (Q : VK) (E : XK), Room k A -> Env0 P w K mg base A outer s H -> BindsTo s fd args (ps.zip us) -> Vals vs us -> sp vs H Q E ->
  codeAny (model P w) A (.call (.ref f) args) (CR CX outer P w H s Q E) s
section
variable {X : Cx} {pins : List (Addr × Obj)} {σ : St} {H : Hp} {s s' : Shared}
theorem Inv.env0 (I : Inv X pins σ H s) : Env0 X.prog X.w X.K X.mg X.base X.A X.stack s H :=
 ⟨I.ok.frames, I.ok.mod, I.bs, Nat.le_trans I.ok.bsz I.sz, I.stack, I.stkFree, I.hok, I.bare⟩
theorem Inv.after {Q : VK} {u : Value} (I : Inv X pins σ H s) (h : CE X.stack X.prog X.w H s Q u s') : EP X pins σ Q u s' := by
 obtain ⟨v, H', os, bare, un, hok, r, q⟩ := h
 obtain ⟨hh, g, d, t, os'⟩ := s'
 obtain rfl : os' = s.os := os
 exact ⟨v, H', I.call (h' := hh) (g' := g) (d' := d) (t' := t) (ch := []) un hok bare (fun b z => absurd z (by simp)), r, q⟩
end
def tCall (sp : Sp) (dvs : List V) (E : XK) (t : TA) : TE := fun σ H Q => t σ H fun vs H1 => sp (vs ++ dvs) H1 Q E
def Binds (K : PySem.W.Frag) (fd : FuncData) (ps : List Str) (ds : List Value) : Prop :=
 ∀ (s : Shared) (us : List Value), K.In s.heap -> (us ++ ds).length = ps.length -> BindsTo s fd ⟨us, []⟩ (ps.zip (us ++ ds))
theorem Binds.all {K : PySem.W.Frag} {fd : FuncData} {ps : List Str} (h : ∀ us : List Value, us.length = ps.length -> bindArgs fd ⟨us, []⟩ = pure (ps.zip us)) : Binds K fd ps [] := fun s us _ hl => by
 rw [List.append_nil] at hl ⊢
 exact .of_eq (h us hl)
def Passes (CX : CXT) (X : Cx) (E : XK) : Prop := ∀ (pins : List (Addr × Obj)) (σ : St) (H : Hp) (s : Shared) (e : Value) (s' : Shared), Inv X pins σ H s -> CX X.stack H s E e s' -> X.xe e s'
section
variable {X : Cx} {CX : CXT} {k : Nat} {f C : Addr} {fd : FuncData} {ps : List Str} {sp : Sp} {dvs : List V} {ds : List Value} {E : XK} {x m : Str} {p pos apos : Pos} {e o : Expr} {es : List Expr} {ta : TE} {t : TA}
theorem run_fn {pins : List (Addr × Obj)} {σ : St} {H : Hp} {s : Shared} {Q : VK} {us : List Value} {vs : List V} (F : FnOk X.prog X.w X.K X.mg X.base CX k f fd ps sp) (hr : Room k X.A) (hb : Binds X.K fd ps ds) (hd : Vals dvs ds) (hx : Passes CX X E)
  (I : Inv X pins σ H s) (r : Vals vs us) (h : sp (vs ++ dvs) H Q E) : wpAny (model X.prog X.w) X.A (call (.ref f) us) (EP X pins σ Q) X.xe s := by
 have r2 : Vals (vs ++ dvs) (us ++ ds) := r.append hd
 have hl : (us ++ ds).length = ps.length := by rw [<- r2.length]; exact F.len _ _ _ _ h
 refine wpAny_call (codeAny_mono (F.run X.A X.stack s H ⟨us, []⟩ (us ++ ds) (vs ++ dvs) Q E hr I.env0 (hb s us I.kIn hl) r2 h) fun r s' hq => ?_)
 cases r with
 | error e => exact hx pins σ H s e s' I hq
 | ok fl =>
  cases fl with
  | ret u => exact I.after hq
  | next => exact False.elim hq
  | brk => exact False.elim hq
  | cont => exact False.elim hq
theorem pe_call (F : FnOk X.prog X.w X.K X.mg X.base CX k f fd ps sp) (hr : Room k X.A) (hg : Gl X x) (hm : X.mg x = some (.ref f)) (hk : PySem.W.keepIn X.K (.ref f) = true) (hb : Binds X.K fd ps ds) (hd : Vals dvs ds) (hx : Passes CX X E)
  (ha : PA X (e :: es) t) (hdb : (x == ("__debug__" : Str)) = false := by decide) (he : starEach (e :: es) X.env = (false, eval e X.env) :: starEach es X.env := by rfl) (hpl : (backTo pos (starEach es X.env)).any (·.1) = false := by rfl) :
  PE X (.Call (.Name x p) (e :: es) [] pos) (tCall sp dvs E t) := by
 intro pins s σ H Q I h
 refine wpAny_Call_Name_kw (ld_glob I hg hm ?_ hdb)
 refine PySem.W.callWith_K (h₀ := X.base) I.ok.mod.kin hk (thn (ha pos pins s σ H _ I h) fun us s1 ⟨vs, H1, I1, r, q⟩ => ⟨I1.kIn, ?_⟩) he hpl
 exact run_fn F hr hb hd hx I1 r q
end
section
variable {X : Cx} {CX : CXT} {k : Nat} {f C : Addr} {fd : FuncData} {ps ks : List Str} {sp : Sp} {E : XK} {x m : Str} {p pos apos kpos : Pos} {e o : Expr} {es : List Expr} {kws : List Keyword} {te ta : TE} {t tk : TA} {nm : Option Str}
variable {g : List Value -> List Value -> List Value} {gV : List V -> List V -> List V}
end
structure FnScope (N P : List Str) (sc : Scope) : Prop where
 kind : sc.kind = .function
 co : sc.isCoroutine = false
 gen : sc.isGenerator = false
 nd : N.Nodup
 pre : N.take P.length = P
 par : ∀ x ∈ P, sc.names.lookup x = some .local \/ sc.names.lookup x = some .cell
 nofree : ∀ y ∈ sc.names, y.2 ≠ .free
theorem bindL_out {kindOf : Str -> Option NameKind} {x : Str} : ∀ {binds : List (Str × Value)} {m : Str -> Option Value}, (∀ v, (x, v) ∉ binds) -> bindL kindOf binds m x = m x
 | [], _, _ => rfl
 |(n, v) :: r, m, h => by
  unfold bindL
  rw [bindL_out fun w hw => h w (List.mem_cons_of_mem _ hw)]
  split
  ·have : x ≠ n := by rintro rfl; exact h v List.mem_cons_self
   simp [this]
  ·rfl
theorem bindC_out {kindOf : Str -> Option NameKind} {x : Str} : ∀ {binds : List (Str × Value)} {m : Str -> Option Value}, (∀ v, (x, v) ∉ binds) -> bindC kindOf binds m x = m x
 | [], _, _ => rfl
 |(n, v) :: r, m, h => by
  unfold bindC
  rw [bindC_out fun w hw => h w (List.mem_cons_of_mem _ hw)]
  split
  ·rfl
  ·have : x ≠ n := by rintro rfl; exact h v List.mem_cons_self
   simp [this]
theorem bindL_get {kindOf : Str -> Option NameKind} {x : Str} {v : Value} : ∀ {P : List Str} {vs : List Value} {i : Nat} {m : Str -> Option Value}, P.Nodup -> P[i]? = some x -> vs[i]? = some v -> kindOf x = some .local ->
  bindL kindOf (P.zip vs) m x = some v
 | [], _, _, _, _, h, _, _ => by simp at h
 | _ :: _, [], _, _, _, _, h, _ => by simp at h
 | p :: P, w :: vs, 0, m, nd, h1, h2, hk => by
  simp at h1 h2; subst h1; subst h2
  show bindL kindOf ((p, w) :: P.zip vs) m p = _
  unfold bindL
  rw [bindL_out fun v hv => (List.nodup_cons.mp nd).1 (List.of_mem_zip hv).1, if_pos hk]
  simp
 | p :: P, w :: vs, i + 1, m, nd, h1, h2, hk => by
  show bindL kindOf ((p, w) :: P.zip vs) m x = _
  unfold bindL
  exact bindL_get (i := i) (List.nodup_cons.mp nd).2 (by simpa using h1) (by simpa using h2) hk
theorem bindC_get {kindOf : Str -> Option NameKind} {x : Str} {v : Value} : ∀ {P : List Str} {vs : List Value} {i : Nat} {m : Str -> Option Value}, P.Nodup -> P[i]? = some x -> vs[i]? = some v -> kindOf x ≠ some .local ->
  bindC kindOf (P.zip vs) m x = some v
 | [], _, _, _, _, h, _, _ => by simp at h
 | _ :: _, [], _, _, _, _, h, _ => by simp at h
 | p :: P, w :: vs, 0, m, nd, h1, h2, hk => by
  simp at h1 h2; subst h1; subst h2
  show bindC kindOf ((p, w) :: P.zip vs) m p = _
  unfold bindC
  rw [bindC_out fun v hv => (List.nodup_cons.mp nd).1 (List.of_mem_zip hv).1, if_neg hk]
  simp
 | p :: P, w :: vs, i + 1, m, nd, h1, h2, hk => by
  show bindC kindOf ((p, w) :: P.zip vs) m x = _
  unfold bindC
  exact bindC_get (i := i) (List.nodup_cons.mp nd).2 (by simpa using h1) (by simpa using h2) hk
def start (N : List Str) (vs : List V) : St := vs.map some ++ List.replicate (N.length - vs.length) none
def cxOf (CX : CXT) (P : Program) (w : World) (K : PySem.W.Frag) (mg : Str -> Option Value) (base : Heap) (N : List Str) (qual : Str) (scope : Scope) (f : Addr) (cd : Value) (A : Around) (outer : List Env) (s : Shared) (H : Hp) (E : XK) : Cx where
 prog := P
 w := w
 K := K
 mg := mg
 base := base
 A := A.deeper (envOfC qual scope s.heap.objs.size f cd)
 N := N
 s₀ := s
 H₀ := H
 env := envOfC qual scope s.heap.objs.size f cd
 outer := outer
 stack := envOfC qual scope s.heap.objs.size f cd :: outer
 ex := []
 calm := true
 fn := fun _ => true
 pn := []
 xe := fun e s' => wpAny (model P w) (A.deeper (envOfC qual scope s.heap.objs.size f cd)) (leaving (envOfC qual scope s.heap.objs.size f cd) e) (fun _ s'' => CX outer H s E e s'') (fun e' s'' => CX outer H s E e' s'') s'
theorem cell_has {sc : Scope} {n : Nat} {x : Str} (h : sc.names.lookup x = some .cell) : ∃ c, (cellsFrom n sc.names []).lookup x = some c := by
 have q := PySem.W.cellsFrom_some sc.names n [] (.inl h)
 exact Option.isSome_iff_exists.mp q
theorem inv_start {CX : CXT} {P : Program} {w : World} {K : PySem.W.Frag} {mg : Str -> Option Value} {base : Heap} {N ps : List Str} {qual : Str} {scope : Scope} {f : Addr} {cd : Value} {A : Around} {outer : List Env} {s s1 : Shared} {H : Hp} {E : XK} {us : List Value} {vs : List V}
  (S : FnScope N ps scope) (hd : A.handled = none) (e0 : Env0 P w K mg base A outer s H) (hl : vs.length = ps.length) (r : Vals vs us)
  (x : InCallC s s.heap.objs.size (bindL (envOfC qual scope s.heap.objs.size f cd).kindOf (ps.zip us) fun _ => none) (cellsFrom (s.heap.objs.size + 1) scope.names []) (bindC (envOfC qual scope s.heap.objs.size f cd).kindOf (ps.zip us) fun _ => none) s1) :
  Inv (cxOf CX P w K mg base N qual scope f cd A outer s H E) [] (start N vs) H s1 := by
 have hpl : ps.length <= N.length := by have := congrArg List.length S.pre; rw [List.length_take] at this; omega
 obtain ⟨h1, tk, rfl, hk⟩ := x.done
 have noA : ∀ b : Addr, b ∉ (cxOf CX P w K mg base N qual scope f cd A outer s H E).ex := fun b z => absurd (show b ∈ ([] : List Addr) from z) (by simp)
 refine ⟨⟨e0.mod, S.kind, rfl, rfl, Nat.le_refl _, fun y z c h1 h2 => ?_, fun y hy => ?_, fun y c _ h => ?_, fun _ => hd, Around.frames_deeper e0.frames, .inr ⟨rfl, rfl⟩, fun b z => absurd z (noA b), e0.bs, e0.bsz, fun b _ _ => noA b, fun b z => absurd z (noA b), e0.funs, e0.frf⟩,
  rfl, e0.bare, Un.kept hk, ⟨_, x.toInCall.ns, fun i y v h1 h2 h3 => ?_⟩, fun y c h => ⟨_, x.cell y c h⟩, e0.hok.fresh (Nat.le_refl _), fun y c h => ?_, fun p hp => absurd (show p ∈ ([] : List (Addr × Obj)) from hp) (by simp), e0.hok.kept hk, ?_⟩
 ·exact name_of_addr x.apart (PySem.mem_of_lookup h1) (PySem.mem_of_lookup h2)
 ·have hy : scope.names.lookup y = some .cell \/ scope.names.lookup y = some .free := hy
  rcases hy with hy | hy
  ·exact cell_has hy
  ·exact absurd rfl (S.nofree _ (PySem.mem_of_lookup hy))
 ·exact Nat.le_of_lt (x.above y c (PySem.mem_of_lookup h))
 ·have hi : i < vs.length := by
   unfold start at h2
   by_cases hi : i < vs.length
   ·exact hi
   ·rw [List.getElem?_append_right (by simpa using hi)] at h2
    rw [List.getElem?_replicate] at h2
    split at h2 <;> cases h2
  have ha : vs[i]? = some v := by
   unfold start at h2
   rw [List.getElem?_append_left (by simpa using hi), List.getElem?_map] at h2
   cases e : vs[i]? with
   | none => rw [e] at h2; cases h2
   | some a => rw [e] at h2; cases h2; rfl
  obtain ⟨u, hu, rv⟩ := r.get ha
  have hp : ps[i]? = some y := by
   rw [<- S.pre, List.getElem?_take_of_lt (by omega)]; exact h1
  have ndP : ps.Nodup := by rw [<- S.pre]; exact S.nd.sublist (List.take_sublist _ _)
  refine ⟨u, rv, ?_⟩
  rcases S.par y (List.mem_of_getElem? hp) with k | k
  ·exact .inl ⟨k, bindL_get ndP hp hu k⟩
  ·obtain ⟨c, e⟩ := cell_has (n := s.heap.objs.size + 1) k
   refine .inr ⟨.inl k, c, e, ?_⟩
   have q := x.cell y c e
   rw [bindC_get ndP hp hu (by show scope.names.lookup y ≠ _; rw [k]; decide)] at q
   exact q
 ·exact e0.hok.fresh (Nat.le_of_lt (x.above y c (PySem.mem_of_lookup h)))
 ·unfold start
  show _ = N.length
  rw [List.length_append, List.length_map, List.length_replicate]
  omega
theorem fn_of {CX : CXT} {P : Program} {w : World} {K : PySem.W.Frag} {mg : Str -> Option Value} {base : Heap} {k : Nat} {f : Addr} {name qual : Str} {params : Arguments} {body : List Stmt} {scope : Scope} {dV kV doc pm cdv ct oc : Value} {an od : Option Addr}
  {osl : Array (Option Value)} {N ps : List Str} {sp : Sp} (lk : K.lookup f = some ⟨oc, od, .func (PySem.W.fnOf name qual params body scope dV kV doc pm an cdv ct), osl⟩) (hcd : PySem.W.codeIn K cdv qual = true) (S : FnScope N ps scope)
  (len : ∀ vs H Q E, sp vs H Q E -> vs.length = ps.length)
  (hbody : ∀ (A : Around) (outer : List Env) (s : Shared) (H : Hp) (vs : List V) (Q : VK) (E : XK), Room k (A.deeper (envOfC qual scope s.heap.objs.size f cdv)) -> sp vs H Q E ->
   ∃ t, PSs (cxOf CX P w K mg base N qual scope f cdv A outer s H E) body t /\ t { nx := fun _ H' => Q .non H', rt := Q } (start N vs) H) :
  FnOk P w K mg base CX (k + 1) f (PySem.W.fnOf name qual params body scope dV kV doc pm an cdv ct) ps sp := by
 refine ⟨len, fun A outer s H args us vs Q E hr e0 hb r hsp => ?_⟩
 have hl := len _ _ _ _ hsp
 have KX : K.In s.heap := e0.mod.kin.keeps fun b o e => (e0.bs b o e).1
 have lim : s.heap.NoLimit := e0.mod.nolimit.keeps fun b o e => (e0.bs b o e).1
 have hkind : ∀ y ∈ ps.zip us, scope.names.lookup y.1 = some .local \/ (scope.names.lookup y.1 = some .cell /\ ((cellsFrom (s.heap.objs.size + 1) scope.names []).lookup y.1).isSome = true) := fun ⟨n, v⟩ hy => by
  rcases S.par n (List.of_mem_zip hy).1 with q | q
  ·exact .inl q
  ·exact .inr ⟨q, PySem.W.cellsFrom_some _ _ _ (.inl q)⟩
 refine codeAny_call_function hr.depth (KX _ _ lk) rfl S.co S.gen rfl (PySem.W.codeRec_of KX hcd) (hb _ _ _ _ ?_)
 refine wpAny_newFunctionEnv_cells S.kind hkind fun env he s1 x => ?_
 subst he
 refine ⟨lim.keeps x.toInCall.keep, codeAny_func ?_⟩
 obtain ⟨t, ht, hq⟩ := hbody A outer s H vs Q E (hr.deeper _) hsp
 have I : Inv (cxOf CX P w K mg base N qual scope f cdv A outer s H E) [] (start N vs) H s1 := inv_start S hr.hd e0 hl r x
 refine wpAny_mono (ht [] s1 (start N vs) H _ I hq) (fun fl s' hs => ?_) fun e s' hs => hs
 have fin : ∀ {σ' : St} {H' : Hp} {v : V} {u : Value}, Inv (cxOf CX P w K mg base N qual scope f cdv A outer s H E) [] σ' H' s' -> RelV v u -> Q v H' -> CE outer P w H s Q u s' :=
  fun {σ' H' v u} J rv q => ⟨v, H', J.os, J.bare, J.base, J.hok, rv, q⟩
 cases fl with
 | ret u =>
  obtain ⟨v, σ', H', J, rv, q⟩ := hs
  exact fin J rv q
 | next =>
  obtain ⟨σ', H', J, q⟩ := hs
  exact fin (v := V.non) (u := Value.none) J rfl q
 | brk =>
  obtain ⟨_, _, _, q⟩ := hs
  exact False.elim q
 | cont =>
  obtain ⟨_, _, _, q⟩ := hs
  exact False.elim q
end L2
namespace L2
open PySem PySem.Spec PyProof.Rows
section
variable {X : Cx} {x : Str} {p pos : Pos} {e : Expr} {es : List Expr} {t : TA} {id T : String} {r : List V -> Hp -> VK -> Prop}
def tCB (r : List V -> Hp -> VK -> Prop) (t : TA) : TE := fun σ H Q => t σ H fun vs H1 => r vs H1 Q
theorem pe_callB (hc : CallR X (.builtin id) r) (hg : Gl X x) (hm : X.mg x = none) (hv : bootBuiltins x = some (.builtin id)) (ha : PA X (e :: es) t) (hn : x ≠ "__name__" := by decide) (hdb : (x == ("__debug__" : Str)) = false := by decide)
  (he : starEach (e :: es) X.env = (false, eval e X.env) :: starEach es X.env := by rfl) (hpl : (backTo pos (starEach es X.env)).any (·.1) = false := by rfl) : PE X (.Call (.Name x p) (e :: es) [] pos) (tCB r t) := by
 intro pins s σ H Q I h
 refine wpAny_Call_Name_kw (ld_blt I hg hm hv ?_ hn hdb)
 exact PyProof.Rows.callWith_builtin1 (thn (ha pos pins s σ H _ I h) fun us s1 ⟨vs, H1, I1, r1, q1⟩ => hc pins s1 σ H1 vs us Q I1 r1 q1) he hpl
theorem pe_callTy (hc : CallR X (.type T) r) (hg : Gl X x) (hm : X.mg x = none) (hv : bootBuiltins x = some (.type T)) (ha : PA X (e :: es) t) (hn : x ≠ "__name__" := by decide) (hdb : (x == ("__debug__" : Str)) = false := by decide)
  (he : starEach (e :: es) X.env = (false, eval e X.env) :: starEach es X.env := by rfl) (hpl : (backTo pos (starEach es X.env)).any (·.1) = false := by rfl) : PE X (.Call (.Name x p) (e :: es) [] pos) (tCB r t) := by
 intro pins s σ H Q I h
 refine wpAny_Call_Name_kw (ld_blt I hg hm hv ?_ hn hdb)
 exact PyProof.Rows.callWith_type1 (thn (ha pos pins s σ H _ I h) fun us s1 ⟨vs, H1, I1, r1, q1⟩ => hc pins s1 σ H1 vs us Q I1 r1 q1) he hpl
end
end L2
namespace HT
open PySem PyProof.Rows
section
open PySem.SeqAt
open PySem.AutoSeq1 (wpAny_loadPart')
open PySem.MeetsSeq PySem.MeetsSeq2 PySem.MeetsSeq3
end
section
variable {prog : Program} {w : World} {A : Around} {E : Value -> Shared -> Prop} {s : Shared}
end
end HT
namespace L2
open PySem PySem.Spec PyProof.Rows
abbrev TO := St -> Hp -> (Option Int -> Hp -> Prop) -> Prop
def PO (X : Cx) (e : Option Expr) (t : TO) : Prop :=
 ∀ (pins : List (Addr × Obj)) (s : Shared) (σ : St) (H : Hp) (Q : Option Int -> Hp -> Prop), Inv X pins σ H s -> t σ H Q ->
  wpAny (model X.prog X.w) X.A (evalPart e X.env) (fun u s' => ∃ o H', Inv X pins σ H' s' /\ IsPart u o /\ Q o H') X.xe s
def tNoPart : TO := fun _ H Q => Q none H
def tPart (t : TE) : TO := fun σ H Q => t σ H fun x H1 => ∃ i, x = .int i /\ Q (some i) H1
section
variable {X : Cx} {e : Expr} {te : TE} {lo hi : Option Expr} {tl th : TO} {pos p2 : Pos}
theorem po_none : PO X none tNoPart := by
 intro pins s σ H Q I h
 rw [evalPart_none]
 exact wpAny_pure ⟨none, H, I, .none, h⟩
theorem po_some (h : PE X e te) : PO X (some e) (tPart te) := by
 intro pins s σ H Q I hw
 rw [evalPart_some]
 refine thn (h pins s σ H _ I hw) fun u s1 ⟨x, H1, I1, r1, q1⟩ => ?_
 obtain ⟨i, rfl, q⟩ := q1
 obtain ⟨t, rfl⟩ := r1
 exact ⟨some i, H1, I1, .int i t, q⟩
def SlR (X : Cx) (r : V -> Option Int -> Option Int -> Hp -> VK -> Prop) : Prop :=
 ∀ (pins : List (Addr × Obj)) (s : Shared) (σ : St) (H : Hp) (x : V) (v vl vu : Value) (lo hi : Option Int) (sl : Addr) (Q : VK), Inv X pins σ H s -> RelV x v -> s.heap.IsSliceOf sl vl vu .none -> IsPart vl lo -> IsPart vu hi -> r x lo hi H Q ->
  ∃ T id, typeLookup (.type T) "__getitem__" = pure (some (.builtin id)) /\ s.TypeIs v T /\ wpAny (model X.prog X.w) X.A (getItem v (.ref sl)) (EP X pins σ Q) X.xe s
def tSl (r : V -> Option Int -> Option Int -> Hp -> VK -> Prop) (te : TE) (tl th : TO) : TE := fun σ H Q => te σ H fun x H1 => tl σ H1 fun l H2 => th σ H2 fun u H3 => r x l u H3 Q
theorem pe_slice {r : V -> Option Int -> Option Int -> Hp -> VK -> Prop} (hr : SlR X r) (he : PE X e te) (hl : PO X lo tl) (hu : PO X hi th) : PE X (.Subscript e (.Slice lo hi none p2) pos) (tSl r te tl th) := by
 intro pins s σ H Q I h
 refine Subscript_ (thn (he pins s σ H _ I h) fun v s1 ⟨x, H1, I1, r1, q1⟩ => ?_)
 refine wpAny_Slice (thn (hl pins s1 σ H1 _ I1 q1) fun vl s2 ⟨l, H2, I2, pl, q2⟩ => thn (hu pins s2 σ H2 _ I2 q2) fun vu s3 ⟨u, H3, I3, pu, q3⟩ => ?_)
 rw [evalPart_none]
 refine wpAny_pure ?_
 have I4 : Inv X pins σ H3 { s3 with heap := s3.heap.push { cls := .type "slice", data := .fields #[vl, vu, .none] } } := I3.kept (t' := s3.toks) fun b ob q => Heap.get?_push_of_some _ q
 obtain ⟨T, id, hT, ht, hg⟩ := hr pins { s3 with heap := s3.heap.push { cls := .type "slice", data := .fields #[vl, vu, .none] } } σ H3 x v vl vu l u s3.heap.objs.size Q I4 r1 (Heap.IsSliceOf.new ..) pl pu q3
 show wpAny (model X.prog X.w) X.A (subscriptTail e (.Slice lo hi none p2) v (.ref s3.heap.objs.size)) (EP X pins σ Q) X.xe { s3 with heap := s3.heap.push { cls := .type "slice", data := .fields #[vl, vu, .none] } }
 exact tail_any (ops := [.ref s3.heap.objs.size, v]) ht hT hg (by with_unfolding_all rfl)
end
end L2
namespace L2
open PySem PySem.Spec PyProof.Rows
def ixN (n : Nat) (i : Int) : Option Nat := if 0 <= i then (if i < n then some i.toNat else none) else if -(n : Int) <= i then some (i + n).toNat else none
def atI {α : Type} (xs : List α) (i : Int) : Option α := (ixN xs.length i).bind fun j => xs[j]?
theorem ixN_seq {n : Nat} {i : Int} {j : Nat} (h : ixN n i = some j) : seqIndex? i n = some j /\ j < n /\ -(n : Int) <= i /\ i < n := by
 unfold ixN at h
 by_cases h0 : 0 <= i
 ·rw [if_pos h0] at h
  by_cases h1 : i < n
  ·rw [if_pos h1] at h
   have e : i.toNat = j := Option.some.inj h
   exact ⟨by rw [seqIndex_of h0 h1, e], by omega, by omega, h1⟩
  ·rw [if_neg h1] at h; cases h
 ·rw [if_neg h0] at h
  by_cases h1 : -(n : Int) <= i
  ·rw [if_pos h1] at h
   have e : (i + n).toNat = j := Option.some.inj h
   exact ⟨by rw [seqIndex_neg (by omega) h1, e], by omega, h1, by omega⟩
  ·rw [if_neg h1] at h; cases h
theorem atI_get {α : Type} {xs : List α} {i : Int} {v : α} (h : atI xs i = some v) : ∃ j, seqIndex? i xs.length = some j /\ xs[j]? = some v /\ j < xs.length /\ -(xs.length : Int) <= i /\ i < xs.length := by
 unfold atI at h
 cases e : ixN xs.length i with
 | none => rw [e] at h; cases h
 | some j =>
  rw [e] at h
  obtain ⟨h1, h2, h3, h4⟩ := ixN_seq e
  exact ⟨j, h1, h, h2, h3, h4⟩
theorem atI_nat {α : Type} {xs : List α} {j : Nat} {v : α} (h : xs[j]? = some v) : atI xs (j : Int) = some v := by
 have hj : j < xs.length := (List.getElem?_eq_some_iff.mp h).1
 have e : ixN xs.length (j : Int) = some j := by
  unfold ixN
  rw [if_pos (by omega), if_pos (by omega)]; simp
 unfold atI; rw [e]; exact h
def PlainIx (b : Expr) : Prop := ∀ o i, subscripted b false o i = operate [o, i] (getItem o i)
def IxR (X : Cx) (r : R2) : Prop :=
 ∀ (value slice : Expr) (pins : List (Addr × Obj)) (s : Shared) (σ : St) (H : Hp) (x y : V) (v u : Value) (Q : VK), Inv X pins σ H s -> RelV x v -> RelV y u -> r x y H Q ->
  subscripted slice false v u = operate [v, u] (getItem v u) -> wpAny (model X.prog X.w) X.A (subscriptTail value slice v u) (EP X pins σ Q) X.xe s
def MtR (X : Cx) (id : String) (r : V -> List V -> Hp -> VK -> Prop) : Prop :=
 ∀ (pins : List (Addr × Obj)) (s : Shared) (σ : St) (H : Hp) (x : V) (xs : List V) (v : Value) (us : List Value) (Q : VK), Inv X pins σ H s -> RelV x v -> Vals xs us -> r x xs H Q ->
  wpAny (model X.prog X.w) X.A (call (.builtin id) (v :: us)) (EP X pins σ Q) X.xe s
section
variable {X : Cx} {a b : Expr} {ta tb : TE} {pos : Pos}
theorem pe_ix {r : R2} (hr : IxR X r) (ha : PE X a ta) (hb : PE X b tb) (hs : PlainIx b) : PE X (.Subscript a b pos) (tOp r ta tb) := by
 intro pins s σ H Q I h
 exact Subscript_ (binT ha hb I h fun v u s2 x y H2 I2 rx ry q => hr a b pins s2 σ H2 x y v u Q I2 rx ry q (hs _ _))
def rIxL (K : PySem.W.Frag) : R2 := fun x y H Q => ∃ p xs i v, x = .ref p /\ y = .int i /\ SqL K H p xs /\ atI xs i = some v /\ Q v H
def rIxT (K : PySem.W.Frag) : R2 := fun x y H Q => ∃ p xs i v, x = .ref p /\ y = .int i /\ SqT K H p xs /\ atI xs i = some v /\ Q v H
def rIxS : R2 := fun x y H Q => ∃ z i c, x = .str z /\ y = .int i /\ z.length <= sizeLine /\ atI z.cps.toList i = some c /\ Q (.str ⟨#[c]⟩) H
theorem ix_list : IxR X (rIxL X.K) := by
 intro value slice pins s σ H x y v u Q I rx ry h hs
 obtain ⟨p, xs, i, z, rfl, rfl, hq, he, q⟩ := h
 cases rx
 obtain ⟨t, rfl⟩ := ry
 obtain ⟨its, r, pl, hz⟩ := I.list hq
 obtain ⟨j, h1, h2, h3, h4, h5⟩ := atI_get he
 obtain ⟨w, ew, rw'⟩ := r.get h2
 have hl := r.length
 have hn := line63
 have fin : EP X pins σ Q w s := ⟨z, H, I, rw', q⟩
 by_cases h0 : 0 <= i
 ·have hj : i.toNat = j := by
   rw [seqIndex_of h0 h5] at h1
   exact Option.some.inj h1
  exact item_listR pl.isList h0 (by omega) (by rw [hj]; simpa using ew) fin hs
 ·have hj : (i + (its.toArray.size : Int)).toNat = j := by
   rw [seqIndex_neg (by omega) h4] at h1
   rw [List.size_toArray, <- hl]
   exact Option.some.inj h1
  exact subscriptTail_builtinR (x := w) pl.isList.typeIs slot_list_getitem.lookup
   (wpAny_getItem_list_neg (Q := fun r s' => r = w /\ EP X pins σ Q r s') pl.isList (by omega) (by rw [List.size_toArray] <;> omega) (by omega) (by rw [hj]; simpa using ew) ⟨rfl, fin⟩) hs
theorem ix_tup : IxR X (rIxT X.K) := by
 intro value slice pins s σ H x y v u Q I rx ry h hs
 obtain ⟨p, xs, i, z, rfl, rfl, hq, he, q⟩ := h
 cases rx
 obtain ⟨t, rfl⟩ := ry
 obtain ⟨its, r, pl, hz⟩ := I.tuple hq
 obtain ⟨j, h1, h2, h3, h4, h5⟩ := atI_get he
 obtain ⟨w, ew, rw'⟩ := r.get h2
 have hl := r.length
 have hn := line63
 have fin : EP X pins σ Q w s := ⟨z, H, I, rw', q⟩
 exact subscriptTail_builtinR (x := w) pl.typeIs slot_tuple_getitem.lookup
  (getItem_tuple (j := j) (Q := fun r s' => r = w /\ EP X pins σ Q r s') pl (by omega) (by omega) (by rw [List.size_toArray, <- hl]; exact h1) (by simpa using ew) ⟨rfl, fin⟩) hs
theorem ix_str : IxR X rIxS := by
 intro value slice pins s σ H x y v u Q I rx ry h hs
 obtain ⟨z, i, c, rfl, rfl, hz, he, q⟩ := h
 obtain ⟨t, rfl⟩ := rx
 obtain ⟨t', rfl⟩ := ry
 obtain ⟨j, h1, h2, h3, h4, h5⟩ := atI_get he
 have hl : z.cps.toList.length = z.length := by simp [Str.length]
 rw [hl] at h1 h4 h5
 have hn := line63
 exact tail_any (typeIs_str s z t) slot_str_getitem.lookup (getItem_str (c := c) (by
  have e1 : decide (i < -(2 ^ 63 : Int)) = false := decide_eq_false (by omega)
  have e2 : decide (i >= 2 ^ 63) = false := decide_eq_false (by omega)
  rw [e1, e2, Bool.or_false]) (by rw [h1]; simpa using h2) ⟨.str ⟨#[c]⟩, H, I.tok _, ⟨_, rfl⟩, q⟩) hs
theorem mapSeq_set (its : List Value) (n j : Nat) (u : Value) : Obj.mapSeq (·.setIfInBounds j u) { cls := .type "list", data := .seq its.toArray n } = { cls := .type "list", data := .seq (its.set j u).toArray n } := by
 simp [Obj.mapSeq]
theorem Inv.lst {pins : List (Addr × Obj)} {σ : St} {H : Hp} {s : Shared} {p : Addr} {xs : List V} (I : Inv X pins σ H s) (h : H p = some (.lst xs)) :
  ∃ (its : List Value) (n : Nat), Vals xs its /\ s.heap.get? p = some { cls := .type "list", data := .seq its.toArray n } /\ xs.length <= sizeLine := by
 obtain ⟨z, its, n, r, e⟩ := I.hok p _ h
 exact ⟨its, n, r, e, z⟩
theorem Inv.lstUpd {pins : List (Addr × Obj)} {σ : St} {H : Hp} {s : Shared} {p : Addr} {xs ys : List V} {its its' : List Value} {n n' : Nat} {f : Obj -> Obj} (I : Inv X pins σ H s) (h : H p = some (.lst xs))
  (ho : s.heap.get? p = some { cls := .type "list", data := .seq its.toArray n }) (hf : f { cls := .type "list", data := .seq its.toArray n } = { cls := .type "list", data := .seq its'.toArray n' }) (r : Vals ys its') (hz : ys.length <= sizeLine) (t : Nat) :
  Inv X pins σ (upd H p (.lst ys)) { s with heap := s.heap.update p f, toks := t } := by
 have e : (s.heap.update p f).get? p = some { cls := .type "list", data := .seq its'.toArray n' } := by
  rw [Heap.get?_update_self f ho (by rw [hf] <;> rfl), hf]
 refine I.write (x := p) (e := p) (by rw [h]; trivial) (.inl rfl) (fun b u hb q => (Heap.get?_update_other _ _ (Ne.symm hb)).trans q) ⟨_, e⟩ ?_
 exact ⟨hz, its', n', r, e⟩
def rSetL : V -> V -> V -> Hp -> (Hp -> Prop) -> Prop := fun o i v H Q => ∃ p xs k j, o = .ref p /\ i = .int k /\ H p = some (.lst xs) /\ ixN xs.length k = some j /\ Q (upd H p (.lst (xs.set j v)))
theorem set_list : PSet X rSetL := by
 intro pins s σ H o i v ov iv u Q I ro ri rv h
 obtain ⟨p, xs, k, j, rfl, rfl, hp, hj, q⟩ := h
 cases ro
 obtain ⟨t, rfl⟩ := ri
 obtain ⟨its, n, r, ho, hz⟩ := I.lst hp
 obtain ⟨h1, h2, h3, h4⟩ := ixN_seq hj
 have hl := r.length
 have hn := line63
 have I' : Inv X pins σ (upd H p (.lst (xs.set j v))) { s with heap := s.heap.update p (Obj.mapSeq (·.setIfInBounds j u)) } :=
  I.lstUpd hp ho (mapSeq_set its n j u) (r.set rv j) (by rw [List.length_set]; exact hz) s.toks
 by_cases h0 : 0 <= k
 ·have hk : k.toNat = j := by
   rw [seqIndex_of h0 h4] at h1
   exact Option.some.inj h1
  exact PySem.W.ki_setAt ho h0 (by omega) (by rw [List.size_toArray, <- hl]; exact h4) (by rw [hk]; exact ⟨_, I', q⟩)
 ·have hk : (k + (its.toArray.size : Int)).toNat = j := by
   rw [seqIndex_neg (by omega) h3] at h1
   rw [List.size_toArray, <- hl]
   exact Option.some.inj h1
  exact PySem.W.ki_setBack ho (by omega) (by rw [List.size_toArray, <- hl]; exact h3) (by omega) (by rw [hk]; exact ⟨_, I', q⟩)
theorem op_notIn_str : OpR X (compareOp .NotIn) (fun x y H Q => ∃ i j, x = .str i /\ y = .str j /\ Q (.bl (!(!(Builtin.Str.occurrences j i 0 j.length 1).isEmpty))) H) := by
 intro pins s σ H x y v u Q I rx ry h
 obtain ⟨i, j, rfl, rfl, q⟩ := h
 obtain ⟨t, rfl⟩ := rx
 obtain ⟨t', rfl⟩ := ry
 exact notIn_str ⟨.bl _, H, I, rfl, q⟩
theorem call_len_seq : CallR X (.builtin "len") (fun xs H Q => ∃ p ys, xs = [.ref p] /\ (SqL X.K H p ys \/ SqT X.K H p ys) /\ Q (.int ys.length) H) := by
 intro pins s σ H xs us Q I r h
 obtain ⟨p, ys, rfl, hq, q⟩ := h
 obtain ⟨u, rfl, rx⟩ := vals1 r
 cases rx
 have hn := line63
 rcases hq with hq | hq
 ·obtain ⟨its, r', pl, hz⟩ := I.list hq
  have hlen := r'.length
  exact Calls.call_len_list pl.isList (by simp only [List.size_toArray] <;> omega) ⟨.int ys.length, H, I.tok _, ⟨s.toks + 1, by rw [List.size_toArray, hlen]⟩, q⟩
 ·obtain ⟨its, r', pl, hz⟩ := I.tuple hq
  have hlen := r'.length
  exact len_tuple pl (by simp only [List.size_toArray] <;> omega) ⟨.int ys.length, H, I.tok _, ⟨s.toks + 1, by rw [List.size_toArray, hlen]⟩, q⟩
theorem call_len_str : CallR X (.builtin "len") (fun xs H Q => ∃ z, xs = [.str z] /\ z.length <= sizeLine /\ Q (.int z.length) H) := by
 intro pins s σ H xs us Q I r h
 obtain ⟨z, rfl, hz, q⟩ := h
 obtain ⟨u, rfl, t, rfl⟩ := vals1 r
 have hn := line63
 exact len_str (by omega) ⟨.int z.length, H, I.tok _, ⟨_, rfl⟩, q⟩
def tyV (K : PySem.W.Frag) (T : String) (x : V) (H : Hp) : Prop := match x with
 | .str _ => T = "str"
 | .int _ => T = "int"
 | .ref p => (T = "list" /\ ∃ xs, SqL K H p xs) \/ (T = "tuple" /\ ∃ o, K.lookup p = some o /\ o.cls = .type "tuple" /\ o.dict = none) \/
   (T = "dict" /\ ((∃ kvs, H p = some (.dK kvs)) \/ ∃ kvs, H p = some (.dT kvs))) \/ (T = "set" /\ ∃ S n, H p = some (.set S n))
 | _ => False
theorem tyV_is {pins : List (Addr × Obj)} {σ : St} {H : Hp} {s : Shared} {T : String} {x : V} {v : Value} (I : Inv X pins σ H s) (r : RelV x v) (ty : tyV X.K T x H) :
  s.TypeIs v T /\ ∀ a, v = .ref a -> ∃ ob, s.heap.get? a = some ob /\ ob.dict = none := by
 cases x with
 | str z =>
  obtain ⟨t, rfl⟩ := r
  cases (show T = "str" from ty)
  exact ⟨typeIs_str s z t, fun _ e => nomatch e⟩
 | int i =>
  obtain ⟨t, rfl⟩ := r
  cases (show T = "int" from ty)
  exact ⟨typeIs_int s i t, fun _ e => nomatch e⟩
 | ref p =>
  cases r
  rcases ty with ⟨rfl, xs, hq⟩ | ⟨rfl, o, hk, hc, hd⟩ | ⟨rfl, hk⟩ | ⟨rfl, S, n, hk⟩
  ·obtain ⟨its, _, pl, _⟩ := I.list hq
   refine ⟨pl.isList.typeIs, fun a e => ?_⟩
   cases e
   obtain ⟨o, n, e, c, hd, _⟩ := pl
   exact ⟨o, e, hd⟩
  ·refine ⟨⟨o, I.kIn p o hk, hc⟩, fun a e => ?_⟩
   cases e
   exact ⟨o, I.kIn _ o hk, hd⟩
  ·have z : ∃ o, s.heap.get? p = some o /\ o.ExactDict := by
    rcases hk with ⟨kvs, hk⟩ | ⟨kvs, hk⟩
    ·obtain ⟨_, _, _, _, o, _, _, e, ex, _⟩ := I.hok p _ hk
     exact ⟨o, e, ex⟩
    ·obtain ⟨_, _, _, _, o, _, _, e, ex, _⟩ := I.hok p _ hk
     exact ⟨o, e, ex⟩
   obtain ⟨o, e, ex⟩ := z
   refine ⟨⟨o, e, ex.1⟩, fun a e2 => ?_⟩
   cases e2
   exact ⟨o, e, ex.2.1⟩
  ·obtain ⟨o, _, _, _, e, ex, _⟩ := I.hok p _ hk
   refine ⟨⟨o, e, ex.1⟩, fun a e2 => ?_⟩
   cases e2
   exact ⟨o, e, ex.2.1⟩
 | _ => exact False.elim ty
def tBM (K : PySem.W.Frag) (T : String) (r : V -> List V -> Hp -> VK -> Prop) (to : TE) (t : TA) : TE := fun σ H Q => to σ H fun x H1 => tyV K T x H1 /\ t σ H1 fun xs H2 => r x xs H2 Q
variable {o e : Expr} {es : List Expr} {to : TE} {t : TA} {name : Str} {apos cpos : Pos} {T id : String} {r : V -> List V -> Hp -> VK -> Prop}
theorem pe_bm (pa : PlainAttrs T) (slot : Slot T name id) (hty : typeOf (.builtin id) = pure (.type "method_descriptor")) (hm : MtR X id r) (ho : PE X o to) (ha : PA X (e :: es) t)
  (hbase : attributeBase o name X.env (eval o X.env) = eval o X.env := by rfl)
  (hfew : ((backTo cpos (starEach (e :: es) X.env)).all (fun x => !x.1) && (backToKw cpos (keywordEach [] X.env)).all (fun x => x.1.isSome)
   && decide ((e :: es).length + ([] : List Keyword).length + (if ([] : List Keyword).isEmpty then 0 else 1) < 30)) = true := by rfl)
  (hline : (apos.endLine == cpos.line) = true := by rfl) (hs : starEach (e :: es) X.env = (false, eval e X.env) :: starEach es X.env := by rfl) (hplain : (backTo cpos (starEach es X.env)).any (·.1) = false := by rfl) :
  PE X (.Call (.Attribute o name apos) (e :: es) [] cpos) (tBM X.K T r to t) := by
 intro pins s σ H Q I h
 refine wpAny_Call_method_late hbase hfew hline rfl (thn (ho pins s σ H _ I h) fun v s1 ⟨x, H1, I1, r1, ty, q1⟩ => ?_)
 obtain ⟨h1, h2⟩ := tyV_is I1 r1 ty
 refine ⟨T, id, pa, slot, hty, h1, h2, ?_⟩
 have hA := ha cpos pins s1 σ H1 _ I1 q1
 rw [hs] at hA ⊢
 refine Calls.callWith_builtin (by show (false || (backTo cpos (starEach es X.env)).any (·.1)) = false; rw [hplain] <;> rfl) (Calls.evalArgs_plain ?_)
 exact thn hA fun us s2 ⟨vs, H2, I2, r2, q2⟩ => hm pins s2 σ H2 x vs v us Q I2 r1 r2 q2
end
end L2
namespace L2
open PySem PySem.Spec PyProof.Rows
def MtM (X : Cx) (id : String) (r : V -> List V -> Hp -> VK -> Prop) : Prop :=
 ∀ (pins : List (Addr × Obj)) (s : Shared) (σ : St) (H : Hp) (x : V) (xs : List V) (v : Value) (us : List Value) (Q : VK), Inv X pins σ H s -> RelV x v -> Vals xs us -> r x xs H Q ->
  wpAny (model X.prog X.w) X.A (call (.builtin id) (v :: us)) (EP X pins σ Q) X.xe s
theorem Vals.one : ∀ {x : V} {us : List Value}, Vals [x] us -> ∃ u, us = [u] /\ RelV x u
 | _, _, .cons r .nil => ⟨_, rfl, r⟩
section
variable {X : Cx} {pins : List (Addr × Obj)} {σ : St} {H : Hp} {s : Shared} {l b : Addr} {xs ys zs : List V}
theorem Inv.lset {its its' : List Value} {n : Nat} {f : Array Value -> Array Value} {t' : Nat} (I : Inv X pins σ H s) (hH : H l = some (.lst xs))
  (e : s.heap.get? l = some { cls := .type "list", data := .seq its.toArray n }) (hf : f its.toArray = its'.toArray) (hv : Vals ys its') (hz : ys.length <= sizeLine) :
  Inv X pins σ (upd H l (.lst ys)) { s with heap := s.heap.update l (Obj.mapSeq f), toks := t' } := by
 have q := PySem.IsL.update e f
 rw [hf] at q
 refine I.write (x := l) (e := l) (by rw [hH]; exact trivial) (.inl rfl) (fun b' u hb hu => (Heap.get?_update_other s.heap (Obj.mapSeq f) (Ne.symm hb)).trans hu) ⟨_, q⟩ ?_
 exact ⟨hz, its', _, hv, q⟩
theorem Inv.lnew {its : List Value} {t' : Nat} (I : Inv X pins σ H s) (hv : Vals ys its) (hz : ys.length <= sizeLine) :
  Inv X pins σ (upd H s.heap.objs.size (.lst ys)) { s with heap := s.heap.push { cls := .type "list", data := .seq its.toArray }, toks := t' } :=
 I.laid (fun _ _ q => Heap.get?_push_of_some _ q) (Nat.le_refl _) ⟨hz, its, 0, hv, Heap.get?_push_size _ rfl⟩
theorem Inv.fresh (I : Inv X pins σ H s) : H s.heap.objs.size = none := I.hok.fresh (Nat.le_refl _)
theorem Inv.lstM (I : Inv X pins σ H s) (hH : H l = some (.lst xs)) : xs.length <= sizeLine /\ ∃ (its : List Value) (n : Nat), Vals xs its /\ xs.length = its.length /\ s.heap.get? l = some { cls := .type "list", data := .seq its.toArray n } := by
 obtain ⟨z, its, n, r, e⟩ := I.hok l _ hH
 exact ⟨z, its, n, r, r.length, e⟩
theorem notLongL {n : Nat} (h : n <= sizeLine) : Builtin.List.listTooLong n = false := by
 unfold Builtin.List.listTooLong
 exact decide_eq_false (by omega)
end
section
variable {X : Cx}
def rAppend : V -> List V -> Hp -> VK -> Prop := fun x vs H Q => ∃ l xs y, x = .ref l /\ vs = [y] /\ H l = some (.lst xs) /\ xs.length < sizeLine /\ Q .non (upd H l (.lst (xs ++ [y])))
theorem mt_append : MtM X "list.append" rAppend := by
 intro pins s σ H x vs v us Q I rx rv h
 obtain ⟨l, xs, y, rfl, rfl, hH, hz, q⟩ := h
 cases rx
 obtain ⟨u, rfl, ru⟩ := rv.one
 obtain ⟨z, its, n, r, hl, e⟩ := I.lstM hH
 refine call_meets F.slot_list_append ⟨_, e, rfl⟩ F.entry_list_append (F.args_list_append_2 _ _) (PySem.list_append l its.toArray n u (by rw [List.size_toArray]; omega)) ⟨e, ?_⟩
 refine ⟨.non, _, I.lset (its' := its ++ [u]) hH e (by simp) (r.append (.cons ru .nil)) ?_, rfl, q⟩
 rw [List.length_append, List.length_singleton]
 omega
def rExtend : V -> List V -> Hp -> VK -> Prop := fun x vs H Q => ∃ l b xs zs, x = .ref l /\ vs = [.ref b] /\ H l = some (.lst xs) /\ H b = some (.lst zs) /\ xs.length + zs.length <= sizeLine /\ Q .non (upd H l (.lst (xs ++ zs)))
theorem mt_extend : MtM X "list.extend" rExtend := by
 intro pins s σ H x vs v us Q I rx rv h
 obtain ⟨l, b, xs, zs, rfl, rfl, hH, hB, hz, q⟩ := h
 cases rx
 obtain ⟨u, rfl, ru⟩ := rv.one
 cases ru
 obtain ⟨z, its, n, r, hl, e⟩ := I.lstM hH
 obtain ⟨z2, its2, n2, r2, hl2, e2⟩ := I.lstM hB
 have hsz : its.toArray.size + its2.toArray.size <= sizeLine := by rw [List.size_toArray, List.size_toArray]; omega
 have hlong : ¬ (!its.toArray.isEmpty && Builtin.List.listTooLong (its.toArray.size + its2.toArray.size)) = true := by
  rw [notLongL hsz, Bool.and_false]
  exact Bool.false_ne_true
 refine call_meets F.slot_list_extend ⟨_, e, rfl⟩ F.entry_list_extend (F.args_list_extend_2 _ _)
  (AutoSeq1.list_extend_list_list_0 l its.toArray n b its2.toArray n2 hlong (by rw [List.size_toArray]; omega) (by omega)) ⟨e, e2, ?_⟩
 refine ⟨.non, _, I.lset (its' := its ++ its2) hH e (by simp) (r.append r2) ?_, rfl, q⟩
 rw [List.length_append]
 omega
def rCat : R2 := fun x y H Q => ∃ l b xs zs, x = .ref l /\ y = .ref b /\ H l = some (.lst xs) /\ H b = some (.lst zs) /\ xs.length + zs.length <= sizeLine /\ ∀ p, H p = none -> Q (.ref p) (upd H p (.lst (xs ++ zs)))
theorem op_cat : OpR X (binaryOp .Add) rCat := by
 intro pins s σ H x y v u Q I rx ry h
 obtain ⟨l, b, xs, zs, rfl, rfl, hH, hB, hz, q⟩ := h
 cases rx
 cases ry
 obtain ⟨z, its, n, r, hl, e⟩ := I.lstM hH
 obtain ⟨z2, its2, n2, r2, hl2, e2⟩ := I.lstM hB
 refine PySem.P.add_list e e2 ?_ (by rw [List.size_toArray, List.size_toArray]; omega)
 have ea : its.toArray ++ its2.toArray = (its ++ its2).toArray := by simp
 rw [ea]
 exact ⟨.ref _, _, I.lnew (t' := s.toks) (r.append r2) (by rw [List.length_append]; omega), rfl, q _ I.fresh⟩
theorem len_rep {α : Type} (xs : List α) (k : Nat) : (List.replicate k xs).flatten.length = k * xs.length := by
 induction k with
 | zero => simp
 | succ k ih => rw [List.replicate_succ, List.flatten_cons, List.length_append, ih, Nat.succ_mul, Nat.add_comm]
end
section
variable {prog : Program} {w : World} {A : Around} {E : Value -> Shared -> Prop} {s : Shared}
set_option maxRecDepth 100000 in
end
section
variable {X : Cx}
end
end L2
namespace Att
open PySem PySem.W PySem.Calls PyProof.Rows
theorem ints_of_wellAll {P : Params} {h : Heap} : ∀ (ns : List Int) (vs : List Value), WellAll P h vs (ns.map WData.int) -> IntsAre vs ns := by
 intro ns
 induction ns with
 | nil =>
  intro vs w
  rw [List.map_nil] at w
  cases w
  exact .nil
 | cons n ns ih =>
  intro vs w
  rw [List.map_cons] at w
  cases w with
  | cons a b =>
   cases a
   exact .cons _ _ (ih _ b)
theorem script_of {l : OpenLaw} {n : Nat} (hn : l.most = some n) {P : Params} {h : Heap} {args : List WData} {vals : List Value}
  (hpre : l.row.toRowW.claim.pre args = true) (hwl : WellAll P h vals args) :
  ∃ a vs ns, vals = [Value.ref a] /\ args = [WData.list (ns.map WData.int)] /\ h.get? a = some { cls := .type "list", data := .seq vs.toArray } /\ IntsAre vs ns /\ ns.length <= n := by
 have hsh : WShape.hasAll [] args [.list .int] = true := (pre_splitW hpre).1
 have hc : l.pre.holds [] { args := args } = true := (pre_splitW hpre).2
 obtain ⟨d, r, rfl, h1, h2⟩ := hasAllW_cons hsh
 obtain rfl := hasAllW_nil h2
 obtain ⟨xs, rfl, h3⟩ := hasW_list h1
 obtain ⟨ns, rfl⟩ := items_int h3
 have hlen : ns.length <= n := by
  unfold OpenLaw.pre at hc
  have h4 : (WTm.not (.lt (.lit (.int (n : Int))) (.len (.arg 0)))).holds [] { args := [.list (ns.map .int)] } = true := by
   have h4 := (holds_andW hc).1
   rw [hn] at h4
   exact h4
  have h5 := condW_of h4 (w_not (w_lt w_lit (w_len_list (w_arg rfl))))
  rw [List.length_map] at h5
  refine Nat.le_of_not_lt fun q => ?_
  have q' : (n : Int) < ((ns.length : Nat) : Int) := by omega
  first
   |(rw [decide_eq_true q'] at h5; exact absurd h5 (by decide))
   |(simp at h5; omega)
 cases hwl with
 | cons w1 w2 =>
  cases w2
  cases w1 with
  | list ho hall => exact ⟨_, _, ns, rfl, rfl, ho, ints_of_wellAll ns _ hall, hlen⟩
theorem post_true (l : OpenLaw) (args : List WData) : l.row.toRowW.claim.post args (.bool true) args = true :=
 postW_of (r := l.row.toRowW) (X := (true == true))
  (show WShape.has [] (.bool true) .bool = true by first | rfl | decide | simp [WShape.has, WShape.arms, WShape.armsAll])
  (show (WTm.eq .res (.lit (.bool true))).value [] { args := args, res := some (.bool true), after := args } = some (.bool (true == true)) from w_eq_bool (w_res rfl) w_lit) rfl
theorem attach_call {l : OpenLaw} {n : Nat} {q : Program} {loose : List Str} {XP : (Str -> Option Value) -> Heap -> Prop} {YP : World -> Heap -> Prop} {d : DefRec}
  (hn : l.most = some n) (hdf : d.params.defaults = [])
  (call : ∀ (w : World) (s₀ s₁ : Shared) (mg mb : Str -> Option Value) (fa : Addr) (o : Obj) (pm cd doc : Value) (a : Addr) (vs : List Value) (ns : List Int),
   Ground q loose [] XP w s₀ mg mb s₁.heap -> YP w s₁.heap ->
   s₁.heap.get? fa = some o -> o.data = .func (docDef d.name d.params d.body d.scope pm cd doc) -> s₁.heap.CodeRec cd d.name -> mg d.name = some (.ref fa) ->
   s₁.heap.get? a = some { cls := .type "list", data := .seq vs.toArray } -> IntsAre vs ns -> ns.length <= n -> s₁.gens = #[] ->
   codeAny (model l.prog w) callerA (.call (.ref fa) ⟨[.ref a], []⟩) (fun r s' => r = .ok (.ret (.bool true)) /\ OldK s₁.heap s'.heap /\ s'.os = s₁.os /\ AllBare s'.gens) s₁) :
  WalkO q loose XP YP l.row.toRowW d [] (fun f vs => PySem.call f vs) := by
 intro w s₀ s₁ mg mb G Y fa o pm cd doc dV kV ho hd hcd hD hmg hg args vals as hpre hlay hrd hwl hlo
 obtain rfl : dV = .none := Dflts.none hD hdf
 obtain rfl : kV = .none := Dflts.noKw hD
 obtain ⟨a, vs, ns, rfl, rfl, hobj, hints, hlen⟩ := script_of hn hpre hwl
 refine enter_call (codeAny_mono (call w s₀ s₁ mg mb fa o pm cd doc a vs ns G Y ho (fd_plain hd) hcd hmg hobj hints hlen hg) fun r s' hq => ?_)
 obtain ⟨rfl, h2, h3, h4⟩ := hq
 exact ⟨.inl ⟨.bool true, .bool true, [], rfl, fun _ => rfl, .bool true, post_true l _, fun _ => ⟨List.Pairwise.nil, fun _ hm => (nomatch hm)⟩⟩, h2, h3, h4⟩
section
variable {prog : Program} {w : World} {A : Around} {E : Value -> Shared -> Prop} {s : Shared} {K : Frag}
end
end Att
namespace L2
open PySem PySem.Spec PyProof.Rows
theorem vals_ints : ∀ {vs : List Value} {ns : List Int}, IntsAre vs ns -> Vals (ns.map V.int) vs
 | _, _, .nil => .nil
 | _, _, .cons n t h => .cons ⟨t, rfl⟩ (vals_ints h)
def Only (H : Hp) : Prop := ∀ b, H b = none \/ ∃ o xs, H b = some (.frz o (.lst xs))
theorem law_call {P : Program} {w : World} {K : PySem.W.Frag} {mg mb : Str -> Option Value} {CX : CXT} {k : Nat} {fa a : Addr} {fd : FuncData} {x : Str} {sp : Sp} {s₁ : Shared} {vs : List Value} {ns : List Int}
  (KX : K.In s₁.heap) (hns : s₁.heap.Ns mainGlobals mg) (hb : s₁.heap.Ns builtinsNs mb) (hbb : ∀ x : Str, x ≠ "__name__" -> mb x = bootBuiltins x) (hlim : s₁.heap.NoLimit) (hg : s₁.gens = #[])
  (ha : s₁.heap.get? a = some { cls := .type "list", data := .seq vs.toArray }) (hi : IntsAre vs ns) (hl : ns.length <= sizeLine) (hr : Room k callerA)
  (F : ∀ base : Heap, K.In base -> base.Ns mainGlobals mg -> FnOk P w K mg base CX k fa fd [x] sp) (hbind : ∀ (s : Shared) (u : Value), BindsTo s fd ⟨[u], []⟩ [(x, u)])
  (hsp : ∀ H : Hp, Only H -> SqL K H a (ns.map V.int) -> sp [.ref a] H (fun v _ => v = .bl true) fun _ _ _ => False)
  (hCX : ∀ H e s', CX [] H s₁ (fun _ _ _ => False) e s' -> False) :
  codeAny (model P w) callerA (.call (.ref fa) ⟨[.ref a], []⟩) (fun r s' => r = .ok (.ret (.bool true)) /\ OldK s₁.heap s'.heap /\ s'.os = s₁.os /\ AllBare s'.gens) s₁ := by
 have rv := vals_ints hi
 have lenV := hi.length
 have core : ∀ H : Hp, Only H -> SqL K H a (ns.map V.int) -> HOk P w H s₁.heap -> (∀ b, H b ≠ none -> b = a) -> (H a ≠ none -> K.lookup a = none) ->
   codeAny (model P w) callerA (.call (.ref fa) ⟨[.ref a], []⟩) (fun r s' => r = .ok (.ret (.bool true)) /\ OldK s₁.heap s'.heap /\ s'.os = s₁.os /\ AllBare s'.gens) s₁ := by
  intro H hO hS hok hA hK
  have base_of : ∀ {b : Addr} {o : Obj}, s₁.heap.get? b = some o -> H b = none -> (hidT s₁.heap H).get? b = some o := fun e n => hidT_get e n
  have noA : ∀ {b : Addr} {o : Obj} {es : Array DictEntry} {ep : Nat}, s₁.heap.get? b = some o -> o.data = .dict es ep -> H b = none := fun {b o es ep} e d => by
   cases q : H b with
   | none => rfl
   | some u =>
    have e' : b = a := hA b (by rw [q]; simp)
    subst e'
    rw [ha] at e; cases e
    have d' : Data.seq vs.toArray _ = Data.dict es ep := d
    cases d'
  have nsK : ∀ {b : Addr} {m : Str -> Option Value}, s₁.heap.Ns b m -> (hidT s₁.heap H).Ns b m := fun {b m} ⟨o, es, ep, e, d, r⟩ => ⟨o, es, ep, base_of e (noA e d), d, r⟩
  have hKb : K.In (hidT s₁.heap H) := fun b o e => base_of (KX b o e) (by
   cases q : H b with
   | none => rfl
   | some u =>
    have e' : b = a := hA b (by rw [q]; simp)
    subst e'
    rw [hK (by rw [q]; simp)] at e; cases e)
  have hM : Mod K mg (hidT s₁.heap H) := ⟨hKb, nsK hns, ⟨mb, nsK hb, hbb⟩, let ⟨mc, h1, h2⟩ := hlim; ⟨mc, nsK h1, h2⟩⟩
  have e0 : Env0 P w K mg (hidT s₁.heap H) callerA [] s₁ H := ⟨rfl, hM, fun b o e => of_hidT e, Nat.le_of_eq (hidT_size _ _), trivial, fun b hb => absurd (show b ∈ ([] : List Addr) from hb) (by simp), hok, .of_eq hg⟩
  refine codeAny_mono ((F _ hKb (nsK hns)).run callerA [] s₁ H ⟨[.ref a], []⟩ [.ref a] [.ref a] _ _ hr e0 (hbind s₁ (.ref a)) (.cons rfl .nil) (hsp H hO hS)) fun r s' h => ?_
  cases r with
  | error e => exact (hCX H e s' h).elim
  | ok fl =>
   cases fl with
   | next => exact False.elim h
   | brk => exact False.elim h
   | cont => exact False.elim h
   | ret u =>
    obtain ⟨v, H', os, bare, un, hok', r', q⟩ := h
    have q' : v = .bl true := q
    subst q'
    obtain rfl : u = Value.bool true := r'
    refine ⟨rfl, OldK.of_keep fun b o e => ?_, os, bare⟩
    cases q : H b with
    | none => exact un.keep b o e q (by intro z; exact absurd (show b ∈ ([] : List Addr) from z) (by simp)) (by simp)
    | some u =>
     rcases hO b with z | ⟨ob, xs, z⟩
     ·rw [q] at z; cases z
     ·have z2 := un.frzs b ob _ z
      obtain ⟨e1, _⟩ := hok b _ z
      obtain ⟨e2, _⟩ := hok' b _ z2
      rw [e] at e1; cases e1
      exact e2
 cases hk : K.lookup a with
 | some o =>
  have e := KX a o hk
  rw [ha] at e
  cases e
  refine core (fun _ => none) (fun _ => .inl rfl) (.inr ⟨_, vs.toArray, _, hk, rfl, rfl, rfl, by rw [List.size_toArray, lenV]; exact hl, by simpa using rv⟩) (fun b u z => by have z' : (none : Option HO) = some u := z; cases z') (fun b z => absurd rfl z) fun z => absurd rfl z
 | none =>
  refine core (fun b => if b = a then some (.frz { cls := .type "list", data := .seq vs.toArray } (.lst (ns.map V.int))) else none) (fun b => ?_) (.inl (.inr ⟨{ cls := .type "list", data := .seq vs.toArray }, if_pos rfl⟩)) (fun b u z => ?_) (fun b z => ?_) fun _ => hk
  ·by_cases hb : b = a
   ·exact .inr ⟨_, _, if_pos hb⟩
   ·exact .inl (if_neg hb)
  ·by_cases hb : b = a
   ·have z' := (if_pos hb).symm.trans z
    cases z'
    subst hb
    exact ⟨ha, by rw [List.length_map]; exact hl, vs, _, rv, ha⟩
   ·have z' := (if_neg hb).symm.trans z
    cases z'
  ·by_cases hb : b = a
   ·exact hb
   ·exact absurd (if_neg hb) z
end L2
namespace L2
open PySem PySem.Spec PyProof.Rows
theorem walk_of {l : PySem.W.OpenLaw} {n k : Nat} {q : Program} {loose : List Str} {XP : (Str -> Option Value) -> Heap -> Prop} {YP : World -> Heap -> Prop} {d : DefRec} {K : Params -> PySem.W.Frag} {CX : World -> CXT} {sp : World -> Sp} {x : Str}
  (hn : l.most = some n) (hn2 : n <= sizeLine) (hdf : d.params.defaults = []) (hr : Room k callerA)
  (hY : ∀ (w : World) (h : Heap), YP w h -> (K w.params).In h)
  (F : ∀ (w : World) (mg : Str -> Option Value) (fa : Addr) (h : Heap), (K w.params).In h -> h.Ns mainGlobals mg -> mg d.name = some (.ref fa) ->
   ∃ fd : FuncData, (∀ (s : Shared) (u : Value), BindsTo s fd ⟨[u], []⟩ [(x, u)]) /\
    ∀ base : Heap, (K w.params).In base -> base.Ns mainGlobals mg -> FnOk l.prog w (K w.params) mg base (CX w) k fa fd [x] (sp w))
  (hsp : ∀ (w : World) (H : Hp) (a : Addr) (ns : List Int), ns.length <= n -> Only H -> SqL (K w.params) H a (ns.map V.int) -> sp w [.ref a] H (fun v _ => v = .bl true) fun _ _ _ => False)
  (hCX : ∀ (w : World) (H : Hp) (s : Shared) (e : Value) (s' : Shared), CX w [] H s (fun _ _ _ => False) e s' -> False) :
  PySem.W.WalkO q loose XP YP l.row.toRowW d [] (fun f vs => PySem.call f vs) := by
 refine Att.attach_call hn hdf fun w s₀ s₁ mg mb fa o pm cd doc a vs ns G Y ho hd hcd hmg hobj hints hlen hg => ?_
 have KX := hY w _ Y
 obtain ⟨fd, hb, hF⟩ := F w mg fa _ KX G.T.g hmg
 exact law_call KX G.T.g G.T.b G.T.builtins G.T.nolimit hg hobj hints (Nat.le_trans hlen hn2) hr hF hb (fun H hO hS => hsp w H a ns hlen hO hS) fun H e s' => hCX w H s₁ e s'
end L2
namespace L2
open PySem PySem.Spec PyProof.Rows
def defArgs (s : Stmt) : Arguments := match s with
 | .FunctionDef _ a _ _ _ _ _ _ _ _ => a
 | _ => { posonlyargs := [], args := [], vararg := none, kwonlyargs := [], kw_defaults := [], kwarg := none, defaults := [] }
def defBody (s : Stmt) : List Stmt := match s with
 | .FunctionDef _ _ b _ _ _ _ _ _ _ => b
 | _ => []
def defScope (s : Stmt) : Scope := match s with
 | .FunctionDef _ _ _ _ _ _ sc _ _ _ => sc
 | _ => { kind := .function, names := [], isGenerator := false, isCoroutine := false }
abbrev CX0 : CXT := fun _ _ _ _ _ _ => False
abbrev E0 : XK := fun _ _ _ => False
theorem pass0 {X : Cx} : Passes CX0 X E0 := fun _ _ _ _ _ _ _ h => h.elim
structure Fun (K : PySem.W.Frag) (x qual : Str) (st : Stmt) (f : Addr) (fd : FuncData) : Prop where
 ex : ∃ (oc : Value) (od : Option Addr) (kV doc pm : Value) (an : Option Addr) (cdv ct : Value) (osl : Array (Option Value)),
  fd = PySem.W.fnOf x qual (defArgs st) (defBody st) (defScope st) .none kV doc pm an cdv ct /\ K.lookup f = some ⟨oc, od, .func fd, osl⟩ /\ PySem.W.codeIn K cdv qual = true
 kp : PySem.W.keepIn K (.ref f) = true
section
variable {P : Program} {w : World} {K : PySem.W.Frag} {mg : Str -> Option Value} {base : Heap}
theorem Fun.ok {x qual : Str} {st : Stmt} {f : Addr} {fd : FuncData} {N ps : List Str} {k : Nat} {sp : Sp} (F : Fun K x qual st f fd) (S : FnScope N ps (defScope st)) (len : ∀ vs H Q E, sp vs H Q E -> vs.length = ps.length)
  (hbody : ∀ (cdv : Value) (A : Around) (outer : List Env) (s : Shared) (H : Hp) (vs : List V) (Q : VK) (E : XK), Room k (A.deeper (envOfC qual (defScope st) s.heap.objs.size f cdv)) -> sp vs H Q E ->
   ∃ t, PSs (cxOf CX0 P w K mg base N qual (defScope st) f cdv A outer s H E).nox (defBody st) t /\ t { nx := fun _ H' => Q .non H', rt := Q } (start N vs) H) : FnOk P w K mg base CX0 (k + 1) f fd ps sp := by
 obtain ⟨oc, od, kV, doc, pm, an, cdv, ct, osl, rfl, lk, hcd⟩ := F.ex
 refine fn_of lk hcd S len fun A outer s H vs Q E hr hsp => ?_
 obtain ⟨t, h, q⟩ := hbody cdv A outer s H vs Q E hr hsp
 exact ⟨t, h.nox, q⟩
theorem Fun.binds {x qual : Str} {st : Stmt} {f : Addr} {fd : FuncData} {ps : List Str} (F : Fun K x qual st f fd)
  (h : ∀ (kV doc pm : Value) (an : Option Addr) (cdv ct : Value) (us : List Value), us.length = ps.length -> bindArgs (PySem.W.fnOf x qual (defArgs st) (defBody st) (defScope st) .none kV doc pm an cdv ct) ⟨us, []⟩ = pure (ps.zip us)) : Binds K fd ps [] := by
 obtain ⟨oc, od, kV, doc, pm, an, cdv, ct, osl, rfl, lk, hcd⟩ := F.ex
 exact .all (h kV doc pm an cdv ct)
theorem fun_mk {x qual : Str} {st : Stmt} {f : Addr} {oc : Value} {od an : Option Addr} {osl : Array (Option Value)} {kV doc pm cdv ct : Value} (l : K.lookup f = some ⟨oc, od, .func (PySem.W.fnOf x qual (defArgs st) (defBody st) (defScope st) .none kV doc pm an cdv ct), osl⟩)
  (c : PySem.W.codeIn K cdv qual = true) (k : PySem.W.keepIn K (.ref f) = true) : Fun K x qual st f (PySem.W.fnOf x qual (defArgs st) (defBody st) (defScope st) .none kV doc pm an cdv ct) := ⟨⟨oc, od, kV, doc, pm, an, cdv, ct, osl, rfl, l, c⟩, k⟩
end
section
variable {X : Cx}
theorem pv (i : Nat) {x : Str} {pos : Pos} (hN : X.N[i]? = some x := by rfl) (hv : Vis X.env.scope x := by first | exact Or.inl rfl | exact Or.inr (Or.inl rfl) | exact Or.inr (Or.inr rfl)) (hd : (x == ("__debug__" : Str)) = false := by decide)
  (hcd : (x == ("__classdict__" : Str)) = false := by decide) : PE X (.Name x pos) (tVar i) := pe_var hN hv hd hcd
end
theorem iteF {A B : Prop} (h : B) : if false = true then A else B := by
 rw [if_neg Bool.false_ne_true]
 exact h
theorem iteT {A B : Prop} (h : A) : if true = true then A else B := by
 rw [if_pos rfl]
 exact h
theorem ite2 {c A B : Prop} [Decidable c] (h1 : c -> A) (h2 : ¬ c -> B) : if c then A else B := by
 by_cases h : c
 ·rw [if_pos h]
  exact h1 h
 ·rw [if_neg h]
  exact h2 h
theorem iteNS {c A B : Prop} [Decidable c] (hc : c) (h : B) : if (!decide c) = true then A else B := by
 rw [decide_eq_true hc]
 exact iteF h
def Same (H H' : Hp) : Prop := ∀ b o, H b = some o -> H' b = some o
theorem Same.trans {H H1 H2 : Hp} (a : Same H H1) (b : Same H1 H2) : Same H H2 := fun c o h => b c o (a c o h)
theorem Same.free {H H' : Hp} (e : Same H H') {l : Addr} (h : H' l = Option.none) : H l = Option.none := by
 cases q : H l with
 | none => rfl
 | some o =>
  rw [e l o q] at h
  cases h
theorem Same.seq {K : PySem.W.Frag} {H H' : Hp} {a : Addr} {xs : List V} (e : Same H H') (h : SqL K H a xs) : SqL K H' a xs := by
 rcases h with (h | ⟨o, h⟩) | h
 ·exact .inl (.inl (e _ _ h))
 ·exact .inl (.inr ⟨o, e _ _ h⟩)
 ·exact .inr h
end L2
set_option Elab.async false
set_option linter.all false
set_option maxRecDepth 100000
namespace L2
open PySem PySem.Spec PyProof.Rows
end L2
namespace L2
open PySem PySem.Spec PyProof.Rows
section
variable (P : Program) (w : World)
end
section
variable {P : Program} {w : World} {H H' : Hp} {h h' : Heap} {a : Addr} {o : HO}
end
section
variable {P : Program} {w : World} {H : Hp} {h h' : Heap} {x e : Addr} {o' : HO}
end
section
variable {fs fs' ex ex' : List Addr} {H H1 H2 : Hp} {h h1 h2 h' : Heap} {a x e : Addr} {o : HO}
end
end L2
namespace L2
open PySem PySem.Spec PyProof.Rows
section
variable {X : Cx} {pins : List (Addr × Obj)} {σ : List (Option V)} {H H' : Hp} {s : Shared} {h' : Heap}
end
end L2
namespace L2
open PySem PySem.Spec PyProof.Rows
section
variable {X : Cx}
variable {a b : Expr} {ta tb : TE} {pos : Pos}
variable {tA tB' : TT} {rest : List Expr}
end
end L2
namespace L2
open PySem PySem.Spec PyProof.Rows
section
variable {X : Cx} {pins : List (Addr × Obj)} {σ : St} {H : Hp} {s : Shared} {a : Addr} {xs ys : List V}
end
section
variable {X : Cx} {pins : List (Addr × Obj)} {σ : St} {H : Hp} {s : Shared} {E : Value -> Shared -> Prop}
end
section
variable {X : Cx} {st : Stmt} {rest : List Stmt} {t u : TS} {e : Expr} {te : TE} {pos : Pos}
end
section
variable {X : Cx} {pos : Pos}
end
section
variable {X : Cx} {pos : Pos}
end
end L2
namespace L2
open PySem PySem.Spec PyProof.Rows
section
variable {X : Cx} {tg : Expr}
end
end L2
namespace L2
open PySem PySem.Spec PyProof.Rows
section
variable {X : Cx} {a b c : Expr} {ta tb tc : TE} {pos : Pos}
end
section
variable {X : Cx} {a b c : Expr} {ta tb tc : TE} {pos : Pos}
end
end L2
namespace L2
open PySem PySem.Spec PyProof.Rows
section
variable {prog : Program} {w : World} {A : Around} {E : Value -> Shared -> Prop} {s : Shared} {K : PySem.W.Frag} {x dx C f : Addr} {mA : Str -> Option Value} {name : Str} {v : Value}
end
section
variable {P : Program} {w : World} {H H' : Hp} {h h' : Heap} {a C dx : Addr} {fs fs' : List (Str × V)}
end
section
variable {X : Cx} {pins : List (Addr × Obj)} {σ : St} {H : Hp} {s : Shared} {a C dx : Addr} {fs : List (Str × V)} {f : Str} {v : V} {A : Around} {E : Value -> Shared -> Prop}
end
section
variable {X : Cx} {o e value : Expr} {f : Str} {pos pos' tpos : Pos} {ta tv : TE}
end
section
variable {X : Cx} {pins : List (Addr × Obj)} {σ : St} {H : Hp} {s : Shared} {A : Around} {E : Value -> Shared -> Prop} {Q : Value -> Shared -> Prop} {c : Value} {b : Bool}
end
end L2
namespace L2
open PySem PySem.Spec PyProof.Rows
section
variable {X : Cx} {e : Expr} {es : List Expr} {te : TE} {t : TA} {pos : Pos}
end
section
variable {X : Cx} {pins : List (Addr × Obj)} {σ : St} {H : Hp} {s s' : Shared}
end
section
variable {X : Cx} {CX : CXT} {k : Nat} {f C : Addr} {fd : FuncData} {ps : List Str} {sp : Sp} {dvs : List V} {ds : List Value} {E : XK} {x m : Str} {p pos apos : Pos} {e o : Expr} {es : List Expr} {ta : TE} {t : TA}
end
section
variable {X : Cx} {CX : CXT} {k : Nat} {f C : Addr} {fd : FuncData} {ps ks : List Str} {sp : Sp} {E : XK} {x m : Str} {p pos apos kpos : Pos} {e o : Expr} {es : List Expr} {kws : List Keyword} {te ta : TE} {t tk : TA} {nm : Option Str}
variable {g : List Value -> List Value -> List Value} {gV : List V -> List V -> List V}
end
end L2
namespace L2
open PySem PySem.Spec PyProof.Rows
section
variable {X : Cx} {x : Str} {p pos : Pos} {e : Expr} {es : List Expr} {t : TA} {id T : String} {r : List V -> Hp -> VK -> Prop}
end
end L2
namespace L2
open PySem PySem.Spec PyProof.Rows
section
variable {κ : Type} [DecidableEq κ]
end
section
variable {P : Program} {w : World} {H : Hp} {h : Heap} {a : Addr}
end
section
variable {X : Cx} {pins : List (Addr × Obj)} {σ : St} {H : Hp} {s : Shared} {a : Addr} {y v : V} {u r : Value} {o : Option V} {A : Around} {E : Value -> Shared -> Prop}
end
section
variable {X : Cx} {pins : List (Addr × Obj)} {σ : St} {H : Hp} {s : Shared} {a : Addr} {kvs : List (Key × V)} {k : Key} {u : Value} {A : Around} {E : Value -> Shared -> Prop}
end
section
variable {X : Cx} {o i e value : Expr} {pos pos' tpos : Pos} {td ty tv : TE}
end
section
variable {X : Cx} {pos : Pos}
end
section
variable {X : Cx} {pins : List (Addr × Obj)} {σ : St} {H : Hp} {s : Shared} {a : Addr} {y d : V} {u r : Value} {o : Option V} {A : Around} {E : Value -> Shared -> Prop}
end
section
variable {X : Cx} {o e f : Expr} {apos cpos : Pos} {td ty tx : TE}
end
section
variable {X : Cx} {pins : List (Addr × Obj)} {σ : St} {H : Hp} {s : Shared} {a : Addr} {kvs : List (Key × V)} {A : Around} {E : Value -> Shared -> Prop}
end
section
variable {X : Cx} {pins : List (Addr × Obj)} {σ : St} {H : Hp} {s : Shared} {a : Addr} {y : V} {u : Value} {A : Around} {E : Value -> Shared -> Prop}
end
end L2
namespace Att
open PySem PySem.W PySem.Calls PyProof.Rows
section
variable {prog : Program} {w : World} {A : Around} {E : Value -> Shared -> Prop} {s : Shared} {K : Frag}
end
end Att
namespace L2
open PySem PySem.Spec PyProof.Rows
end L2
namespace L2
open PySem PySem.Spec PyProof.Rows
end L2
namespace L2
open PySem PySem.Spec PyProof.Rows
section
variable {P : Program} {w : World} {K : PySem.W.Frag} {mg : Str -> Option Value} {base : Heap}
end
section
variable {X : Cx}
end
section
variable {κ : Type} [DecidableEq κ]
end
end L2
set_option Elab.async false
set_option linter.all false
set_option maxRecDepth 100000
set_option maxHeartbeats 4000000
namespace L2
open PySem PySem.Spec PyProof.Rows
def Fn (P : Program) (w : World) (K : PySem.W.Frag) (mg : Str -> Option Value) (base : Heap) (k : Nat) (x : Str) (ps : List Str) (sp : Sp) : Prop :=
 ∃ (f : Addr) (fd : FuncData), FnOk P w K mg base CX0 k f fd ps sp /\ Binds K fd ps [] /\ PySem.W.keepIn K (.ref f) = true /\ mg x = some (.ref f)
section
variable {X : Cx} {k : Nat} {x : Str} {ps : List Str} {sp : Sp} {p pos : Pos} {e : Expr} {es : List Expr} {t : TA}
theorem pe_callG (F : Fn X.prog X.w X.K X.mg X.base k x ps sp) (hr : Room k X.A) (hg : Gl X x) (ha : PA X (e :: es) t) (hdb : (x == ("__debug__" : Str)) = false := by decide)
  (he : starEach (e :: es) X.env = (false, eval e X.env) :: starEach es X.env := by rfl) (hpl : (backTo pos (starEach es X.env)).any (·.1) = false := by rfl) :
  PE X (.Call (.Name x p) (e :: es) [] pos) (tCall sp [] E0 t) := by
 obtain ⟨f, fd, G, b, kp, m⟩ := F
 exact pe_call G hr hg m kp b .nil pass0 ha hdb he hpl
end
theorem bt_int : bootBuiltins "int" = some (.type "int") := by decide +kernel
theorem bt_str : bootBuiltins "str" = some (.type "str") := by decide +kernel
theorem bt_len : bootBuiltins "len" = some (.builtin "len") := by decide +kernel
theorem bt_isinstance : bootBuiltins "isinstance" = some (.builtin "isinstance") := by decide +kernel
theorem bt_min : bootBuiltins "min" = some (.builtin "min") := by decide +kernel
end L2
set_option Elab.async false
set_option linter.all false
set_option maxRecDepth 100000
set_option maxHeartbeats 4000000
namespace L2
open PySem PySem.Spec PyProof.Rows
def Tp (H : Hp) (v : V) (ns : List Int) : Prop := ∃ p, v = .ref p /\ H p = some (.tup (ns.map V.int))
abbrev Tps (H : Hp) (vs : List V) (nss : List (List Int)) : Prop := Paired (Tp H) vs nss
theorem Same.new {H : Hp} {p : Addr} (h : H p = none) (o : HO) : Same H (upd H p o) := fun b u q => by rw [upd_ne (ne_of_none q h)]; exact q
section
variable {X : Cx} {H : Hp}
end
section
variable {X : Cx}
end
section
variable {X : Cx} {pins : List (Addr × Obj)} {σ : List (Option V)} {H : Hp} {s : Shared} {h' : Heap}
end
section
variable {X : Cx}
end
end L2
set_option Elab.async false
set_option linter.all false
set_option maxRecDepth 100000
set_option maxHeartbeats 4000000
namespace L2
open PySem PySem.Spec PyProof.Rows
section
variable {prog : Program} {w : World} {K : Type} [DecidableEq K] {knd : HeapKind prog w K} {A : Around} {E : Value -> Shared -> Prop} {s : Shared} {d a : Addr} {xs : List (K × Addr × Value)} {k : K}
end
section
variable {prog : Program} {w : World} {A : Around} {E : Value -> Shared -> Prop} {s : Shared} {d it : Addr} {es : Array DictEntry} {ep i : Nat}
end
section
variable {X : Cx} {pins : List (Addr × Obj)} {σ : St} {H : Hp} {s : Shared} {a b : Addr} {kvs : List (List Key × V)} {k : List Key} {A : Around} {E : Value -> Shared -> Prop}
end
section
variable {X : Cx} {o e : Expr} {apos cpos : Pos} {td ty : TE}
end
section
variable {X : Cx}
theorem op_mulB : OpR X (binaryOp .Mult) (rI IntMulOk fun i j => .int (i * j)) := opI fun _ _ _ _ _ _ _ hc q => mul_int q hc
end
end L2
set_option Elab.async false
set_option linter.all false
set_option maxRecDepth 100000
set_option maxHeartbeats 4000000
namespace L2
open PySem PySem.Spec PyProof.Rows
section
variable {prog : Program} {w : World} {A : Around} {R : Result -> Shared -> Prop} {s : Shared}
theorem compLoop_gen {elt target iter : Expr} {ifs : List Expr} {scope : Scope} {pos : Pos} {it acc : Value} {env : Env} (I : Nat -> Shared -> Prop)
  (turn : ∀ n s, I n s -> wpAny (model prog w) A (pyNext it) (fun r s₁ => match r with
   | none => R (.ok .next) s₁
   | some v => wpAny (model prog w) A (letOwnedTupleGo target it v) (fun _ s₁' => wpAny (model prog w) A (assign target env v) (fun _ s₂ =>
     wpAny (model prog w) A (forIn ifs true fun c r => if r = true then do let ok <- isTrue c env (eval c env); pure (ForInStep.yield ok) else pure (ForInStep.yield r)) (fun ok s₃ =>
      if ok = true then wpAny (model prog w) A (eval elt env) (fun x s₄ =>
       wpAny (model prog w) A (call (.builtin "list.append") [acc, x]) (fun _ s₅ => ∃ m, m < n /\ I m s₅) (fun _ _ => False) s₄) (fun _ _ => False) s₃
      else ∃ m, m < n /\ I m s₃) (fun _ _ => False) s₂) (fun _ _ => False) s₁') (fun _ _ => False) s₁) (fun _ _ => False) s)
  (n : Nat) (h : I n s) :
  codeAny (model prog w) A (.compLoop (.ListComp elt [⟨target, iter, ifs, 0⟩] scope pos) 0 it acc env) R s := by
 refine codeAny_loop rfl I (fun n s hI => ?_) n h
 show wpAny _ A ((compTurn (.ListComp elt [⟨target, iter, ifs, 0⟩] scope pos) 0 it acc env).onRaise (fun x => do noteFrame x env; theTreesLotGoes x)) _ _ s
 refine wpAny_noted ?_
 rw [compTurn_list]
 have F : ∀ {Q : Value -> Shared -> Prop} (x : Value) (s : Shared), False -> Q x s := fun _ _ z => z.elim
 refine wpAny_bind (wpAny_standAt (wpAny_bind (wpAny_mono (turn n s hI) (fun r s₁ h₁ => ?_) F)))
 cases r with
 | none => exact wpAny_pure h₁
 | some v =>
  refine wpAny_bind (wpAny_mono h₁ (fun _ s₁' h₁ => ?_) F)
  refine wpAny_bind (wpAny_mono h₁ (fun _ s₂ h₂ => wpAny_bind (wpAny_mono h₂ (fun ok s₃ h₃ => ?_) F)) F)
  cases ok with
  | false => exact wpAny_pure ⟨rfl, h₃⟩
  | true => exact wpAny_bind (wpAny_bind (wpAny_mono h₃ (fun x s₄ h₄ => wpAny_bind (wpAny_mono h₄ (fun _ s₅ h₅ => wpAny_pure (wpAny_pure ⟨rfl, h₅⟩)) F)) F))
end
structure CA where
 cl : List (Str × Addr)
 C : Addr
 s₀ : Shared
 H₀ : Hp
 ex : List Addr
 pn : List (Addr × Obj)
def cxC (X : Cx) (scope : Scope) (N' : List Str) (k : CA) : Cx :=
 { X with N := N', s₀ := k.s₀, H₀ := k.H₀, env := compEnvC scope k.cl k.C X.env, outer := X.stack, stack := X.stack, ex := k.ex, fn := fun x => decide ((x, NameKind.cell) ∈ scope.names), pn := k.pn, xe := fun _ _ => False }
structure CScope (X : Cx) (scope : Scope) (own : List Str) (caps : List Nat) (cns : List Str) : Prop where
 cell : ∀ y ∈ scope.names, y.2 = .cell -> y.1 ∉ cns
 kind : scope.kind = .function
 names : ∀ y ∈ scope.names, y.2 = .local -> scope.names.lookup y.1 = some .local
 free : ∀ y ∈ scope.names, y.2 = .free -> X.env.kindOf y.1 = some .cell
 nd : (own ++ cns).Nodup
 cap : cns = caps.filterMap fun j => X.N[j]?
 len : cns.length = caps.length
 vis : ∀ y ∈ cns, scope.names.lookup y = some .free
theorem relabel_lookup {scope : Scope} {env : Env} {x : Str} {k : NameKind} (h : (relabel scope env).names.lookup x = some k) : scope.names.lookup x = some k \/ (scope.names.lookup x = some .free /\ k = .cell) := by
 have all : ∀ {names : List (Str × NameKind)}, (names.map fun (n, k) => if (k == NameKind.free && env.scope.kind == .function && env.kindOf n == some .cell) then (n, NameKind.cell) else (n, k)).lookup x = some k ->
   names.lookup x = some k \/ (names.lookup x = some .free /\ k = .cell) := by
  intro names
  induction names with
  | nil => intro h; simp at h
  | cons p r ih =>
   obtain ⟨n, k'⟩ := p
   intro h
   rw [List.map_cons] at h
   dsimp only at h
   by_cases hx : (x == n) = true
   ·by_cases hc : (k' == NameKind.free && env.scope.kind == .function && env.kindOf n == some .cell) = true
    ·rw [if_pos hc] at h
     simp only [List.lookup_cons, hx] at h ⊢
     right
     simp only [Bool.and_eq_true, beq_iff_eq] at hc
     exact ⟨by rw [hc.1.1], (Option.some.inj h).symm⟩
    ·rw [if_neg hc] at h
     simp only [List.lookup_cons, hx] at h ⊢
     exact .inl h
   ·have hx' : (x == n) = false := by simpa using hx
    by_cases hc : (k' == NameKind.free && env.scope.kind == .function && env.kindOf n == some .cell) = true
    ·rw [if_pos hc] at h
     simp only [List.lookup_cons, hx'] at h ⊢
     exact ih h
    ·rw [if_neg hc] at h
     simp only [List.lookup_cons, hx'] at h ⊢
     exact ih h
 exact all h
theorem closure_of {env : Env} : ∀ (names : List (Str × NameKind)) (cs : List (Str × Addr)), (∀ y ∈ names, y.2 = .free -> ∃ c, env.cells.lookup y.1 = some c) -> (∀ x c, cs.lookup x = some c -> env.cells.lookup x = some c) ->
  ∃ cl, (forIn names cs fun (x : Str × NameKind) (r : List (Str × Addr)) => if (x.2 == NameKind.free) = true then do let c <- cellOf env x.1; pure (ForInStep.yield ((x.1, c) :: r)) else pure (ForInStep.yield r) : Sem _) = pure cl /\
   (∀ x c, cl.lookup x = some c -> env.cells.lookup x = some c) /\ (∀ x, (cs.lookup x).isSome = true -> (cl.lookup x).isSome = true) /\ ∀ y ∈ names, y.2 = .free -> (cl.lookup y.1).isSome = true
 | [], cs, _, h => ⟨cs, by rw [List.forIn_nil], h, fun _ z => z, fun _ z => (nomatch z)⟩
 |(n, k) :: r, cs, hf, h => by
  by_cases hk : k = .free
  ·subst hk
   obtain ⟨c, hc⟩ := hf (n, .free) List.mem_cons_self rfl
   have h' : ∀ x c', ((n, c) :: cs).lookup x = some c' -> env.cells.lookup x = some c' := fun x c' e => by
    by_cases hx : (x == n) = true
    ·simp only [List.lookup_cons, hx] at e
     cases e
     rw [beq_iff_eq] at hx
     rw [hx]; exact hc
    ·have hx' : (x == n) = false := by simpa using hx
     simp only [List.lookup_cons, hx'] at e
     exact h x c' e
   obtain ⟨cl, e, h1, h2, h3⟩ := closure_of r ((n, c) :: cs) (fun y hy => hf y (List.mem_cons_of_mem _ hy)) h'
   refine ⟨cl, ?_, h1, fun x hx => h2 x ?_, fun y hy hyf => ?_⟩
   ·rw [List.forIn_cons]
    dsimp only
    rw [if_pos (by rfl)]
    have ec : cellOf env n = pure c := by
     unfold cellOf
     rw [hc]
    rw [ec]
    simp only [pure_bind]
    exact e
   ·by_cases hxn : (x == n) = true
    ·simp [List.lookup_cons, hxn]
    ·have hx' : (x == n) = false := by simpa using hxn
     simp only [List.lookup_cons, hx']; exact hx
   ·rcases List.mem_cons.mp hy with rfl | hy
    ·exact h2 n (by simp)
    ·exact h3 y hy hyf
  ·obtain ⟨cl, e, h1, h2, h3⟩ := closure_of r cs (fun y hy => hf y (List.mem_cons_of_mem _ hy)) h
   refine ⟨cl, ?_, h1, h2, fun y hy hyf => ?_⟩
   ·rw [List.forIn_cons]
    dsimp only
    rw [if_neg (by simpa using hk)]
    simp only [pure_bind]
    exact e
   ·rcases List.mem_cons.mp hy with rfl | hy
    ·exact absurd hyf hk
    ·exact h3 y hy hyf
structure Cells (names : List (Str × NameKind)) (cl : List (Str × Addr)) (n : Nat) (h' : Heap) (cells : List (Str × Addr)) : Prop where
 frm : ∀ x c, cells.lookup x = some c -> cl.lookup x = some c \/ ((x, NameKind.cell) ∈ names /\ n < c /\ h'.IsCell c none)
 inj : ∀ x y c, n < c -> cells.lookup x = some c -> cells.lookup y = some c -> x = y
 has : ∀ x, (cl.lookup x).isSome = true \/ (x, NameKind.cell) ∈ names -> (cells.lookup x).isSome = true
 new : ∀ x c, (x, NameKind.cell) ∈ names -> cells.lookup x = some c -> n < c
theorem cells_loop {M : Model} {A : Around} {E : Value -> Shared -> Prop} {n : Nat} {cl : List (Str × Addr)} :
  ∀ (names done : List (Str × NameKind)) (cells : List (Str × Addr)) (s : Shared) (Q : List (Str × Addr) -> Shared -> Prop), n < s.heap.objs.size ->
   Cells done cl n s.heap cells -> (∀ x c, cells.lookup x = some c -> c < s.heap.objs.size) ->
   (∀ h' cells', (∀ b o, s.heap.get? b = some o -> h'.get? b = some o) -> Cells (done ++ names) cl n h' cells' -> Q cells' { s with heap := h' }) ->
   wpAny M A (forIn names cells fun (x : Str × NameKind) (r : List (Str × Addr)) => if (x.2 == NameKind.cell) = true then do let c <- alloc { cls := Value.type "cell", data := Data.cell none }; pure (ForInStep.yield ((x.1, c) :: r)) else pure (ForInStep.yield r)) Q E s
 | [], done, cells, s, Q, hn, hc, hlt, q => by
  rw [List.forIn_nil]
  exact wpAny_pure (q s.heap cells (fun _ _ e => e) (by rw [List.append_nil]; exact hc))
 |(y, k) :: names, done, cells, s, Q, hn, hc, hlt, q => by
  rw [List.forIn_cons]
  dsimp only
  by_cases hk : k = NameKind.cell
  ·subst hk
   rw [if_pos (by rfl)]
   refine wpAny_bind (wpAny_bind (wpAny_alloc (wpAny_pure ?_)))
   dsimp only
   have hsz : (s.heap.push { cls := Value.type "cell", data := Data.cell none }).objs.size = s.heap.objs.size + 1 := Heap.size_push ..
   refine cells_loop (cl := cl) names (done ++ [(y, NameKind.cell)]) _ _ Q (by show n < (s.heap.push _).objs.size; rw [hsz]; omega) ?_ ?_ fun h' cells' k c => ?_
   ·have look : ∀ x c, ((y, s.heap.objs.size) :: cells).lookup x = some c -> (x = y /\ c = s.heap.objs.size) \/ cells.lookup x = some c := fun x c e => by
     by_cases hx : (x == y) = true
     ·simp only [List.lookup_cons, hx] at e
      exact .inl ⟨beq_iff_eq.mp hx, (Option.some.inj e).symm⟩
     ·have hx' : (x == y) = false := by simpa using hx
      simp only [List.lookup_cons, hx'] at e
      exact .inr e
    refine ⟨fun x c e => ?_, fun x z c hnc e1 e2 => ?_, fun x h => ?_, fun x c h e => ?_⟩
    ·rcases look x c e with ⟨rfl, rfl⟩ | e
     ·exact .inr ⟨List.mem_append_right _ List.mem_cons_self, hn, _, Heap.get?_push_size _ rfl, rfl⟩
     ·rcases hc.frm x c e with h | ⟨h1, h2, h3⟩
      ·exact .inl h
      ·exact .inr ⟨List.mem_append_left _ h1, h2, h3.keeps fun b o e => Heap.get?_push_of_some _ e⟩
    ·rcases look x c e1 with ⟨hx, hc1⟩ | f1
     ·rcases look z c e2 with ⟨hz, _⟩ | f2
      ·rw [hx, hz]
      ·have := hlt z c f2
       rw [hc1] at this
       exact absurd this (Nat.lt_irrefl _)
     ·rcases look z c e2 with ⟨_, hc2⟩ | f2
      ·have := hlt x c f1
       rw [hc2] at this
       exact absurd this (Nat.lt_irrefl _)
      ·exact hc.inj x z c hnc f1 f2
    ·by_cases hx : (x == y) = true
     ·simp [List.lookup_cons, hx]
     ·have hx' : (x == y) = false := by simpa using hx
      simp only [List.lookup_cons, hx']
      refine hc.has x (h.imp id fun h => ?_)
      rcases List.mem_append.mp h with h | h
      ·exact h
      ·have := List.mem_singleton.mp h
       injection this with this
       rw [this] at hx'
       simp at hx'
    ·rcases look x c e with ⟨rfl, rfl⟩ | e2
     ·exact hn
     ·by_cases hx : (x == y) = true
      ·simp only [List.lookup_cons, hx] at e
       rw [<- Option.some.inj e]
       exact hn
      ·refine hc.new x c ?_ e2
       rcases List.mem_append.mp h with h | h
       ·exact h
       ·have := List.mem_singleton.mp h
        injection this with this
        rw [this] at hx
        simp at hx
   ·intro x c e
    show c < (s.heap.push _).objs.size
    rw [hsz]
    by_cases hx : (x == y) = true
    ·simp only [List.lookup_cons, hx] at e
     rw [<- Option.some.inj e]
     exact Nat.lt_succ_self _
    ·have hx' : (x == y) = false := by simpa using hx
     simp only [List.lookup_cons, hx'] at e
     exact Nat.lt_succ_of_lt (hlt x c e)
   ·rw [List.append_assoc] at c
    exact q h' cells' (fun b o e => k b o (Heap.get?_push_of_some _ e)) c
  ·rw [if_neg (by simpa using hk)]
   refine wpAny_bind (wpAny_pure ?_)
   dsimp only
   refine cells_loop (cl := cl) names (done ++ [(y, k)]) cells s Q hn ⟨fun x c e => ?_, hc.inj, fun x h => hc.has x (h.imp id fun h => ?_), fun x c h => hc.new x c ?_⟩ hlt fun h' cells' k' c => ?_
   ·rcases hc.frm x c e with h | ⟨h1, h2⟩
    ·exact .inl h
    ·exact .inr ⟨List.mem_append_left _ h1, h2⟩
   ·rcases List.mem_append.mp h with h | h
    ·exact h
    ·have := List.mem_singleton.mp h
     injection this with _ this
     exact absurd this.symm hk
   ·rcases List.mem_append.mp h with h | h
    ·exact h
    ·have := List.mem_singleton.mp h
     injection this with _ this
     exact absurd this.symm hk
   ·rw [List.append_assoc] at c
    exact q h' cells' k' c
theorem wpAny_newFunctionEnv_of {M : Model} {A : Around} {E : Value -> Shared -> Prop} {s : Shared} {scope : Scope} {globals : Addr} {cl : List (Str × Addr)} {qual : Str} {func : Option Addr} {code : Value} {env : Env} {builtins : Addr} {Q : Env -> Shared -> Prop}
  (hcl : ∀ x c, cl.lookup x = some c -> c < s.heap.objs.size)
  (h : ∀ (h' : Heap) cells, (h'.Ns s.heap.objs.size fun _ => none) -> (∀ b o, s.heap.get? b = some o -> h'.get? b = some o) -> Cells scope.names cl s.heap.objs.size h' cells ->
   Q (newEnv scope s.heap.objs.size globals cells qual func code (some env) builtins) { s with heap := h' }) : wpAny M A (newFunctionEnv scope globals cl [] qual func code (some env) builtins) Q E s := by
 unfold newFunctionEnv
 refine wpAny_bind (wpAny_alloc (wpAny_bind ?_))
 have hsz : (s.heap.push { cls := Value.type "dict", data := Data.dict #[] }).objs.size = s.heap.objs.size + 1 := Heap.size_push ..
 refine cells_loop (n := s.heap.objs.size) (cl := cl) scope.names [] cl _ _ (by show s.heap.objs.size < (s.heap.push _).objs.size; rw [Heap.size_push]; exact Nat.lt_succ_self _) ⟨fun x c e => .inl e, fun x y c hnc e _ => absurd (hcl x c e) (Nat.not_lt.mpr (Nat.le_of_lt hnc)), fun x h => h.elim id fun z => (nomatch z), fun x c z => (nomatch z)⟩ (fun x c e => by show c < (s.heap.push _).objs.size; rw [Heap.size_push]; exact Nat.lt_succ_of_lt (hcl x c e)) fun h' cells k c => ?_
 refine wpAny_bind ?_
 rw [List.forIn_nil]
 refine wpAny_pure (wpAny_pure ?_)
 exact h h' cells ((Heap.Ns.new s.heap _).keeps k) (fun b o e => k b o (Heap.get?_push_of_some _ e)) c
def cst (own : List Str) (caps : List Nat) (σ : St) : St := own.map (fun _ => none) ++ caps.map fun j => (σ[j]?).join
section
variable {X : Cx} {pins : List (Addr × Obj)} {σ : St} {H : Hp} {s : Shared} {scope : Scope} {own : List Str} {caps : List Nat} {cns : List Str} {cl : List (Str × Addr)}
theorem cap_get {N : List Str} : ∀ {caps : List Nat} {cns : List Str}, cns = caps.filterMap (fun j => N[j]?) -> cns.length = caps.length -> ∀ (i : Nat) (j : Nat), caps[i]? = some j -> ∃ x, N[j]? = some x /\ cns[i]? = some x
 | [], _, _, _, i, j, h => by simp at h
 | j0 :: r, cns, e, hl, i, j, h => by
  rw [List.filterMap_cons] at e
  cases hN : N[j0]? with
  | none =>
   simp only [hN] at e
   have h1 := List.length_filterMap_le (fun j => N[j]?) r
   rw [e] at hl
   simp only [List.length_cons] at hl
   omega
  | some x =>
   simp only [hN] at e
   subst e
   cases i with
   | zero =>
    simp only [List.getElem?_cons_zero, Option.some.injEq] at h
    subst h
    exact ⟨x, hN, rfl⟩
   | succ i =>
    simp only [List.getElem?_cons_succ] at h ⊢
    exact cap_get rfl (by simpa using hl) i j h
theorem inv_comp {C : Addr} {fp : List Addr} {h1 h4 : Heap} {tk : Nat} {bc : List (Str × Addr)} (S : CScope X scope own caps cns) (I : Inv X pins σ H { s with heap := h1 }) (hfp : ∀ b ∈ fp, FpOk X pins H b /\ b < h1.objs.size)
  (hcl : ∀ x c, cl.lookup x = some c -> X.env.cells.lookup x = some c) (hall : ∀ y ∈ scope.names, y.2 = .free -> (cl.lookup y.1).isSome = true)
  (hC : C = h1.objs.size) (hn : h4.Ns C fun _ => none) (hk : ∀ b o, h1.get? b = some o -> h4.get? b = some o) (hb : Cells scope.names cl C h4 bc) :
  Inv (cxC X scope (own ++ cns) ⟨bc, C, { s with heap := h1 }, H, fp, X.pn ++ pins⟩) [] (cst own caps σ) H { s with heap := h4, toks := tk } := by
 have hok := I.ok
 have old : ∀ x c, cl.lookup x = some c -> c < C := fun x c e => by
  obtain ⟨v, o, ho, _⟩ := I.cell x c (hcl x c e)
  rw [hC]
  exact Heap.lt_size ho
 have nC : ∀ b o, h1.get? b = some o -> b ≠ C := fun b o e => by rw [hC]; exact Nat.ne_of_lt (Heap.lt_size e)
 refine ⟨⟨hok.mod, ?_, hok.glob, hok.blt, by rw [hC]; exact Nat.le_refl _, fun x y c e1 e2 => ?_, fun x hx => ?_, fun x c z e => ?_, hok.hd, hok.frames, .inl rfl, fun b hb' => ⟨?_, fun x c e => ?_⟩, fun b o e => I.bs b o e, Nat.le_trans hok.bsz I.sz, fun b o e hb' => ?_, fun b hb' hf => ?_, I.stack, I.stkFree⟩,
  rfl, I.bare, Un.kept hk, ⟨_, hn, fun i x v e1 e2 e3 => ?_⟩, fun x c e => ?_, ?_, fun x c e => ?_, fun p hp => ?_, I.hok.kept hk, ?_⟩
 ·show (relabel scope X.env).kind = _
  exact S.kind
 ·by_cases hlt : C < c
  ·exact hb.inj x y c hlt e1 e2
  ·rcases hb.frm x c e1 with a1 | ⟨_, z, _⟩
   ·rcases hb.frm y c e2 with a2 | ⟨_, z, _⟩
    ·exact hok.inj x y c (hcl x c a1) (hcl y c a2)
    ·exact absurd z hlt
   ·exact absurd z hlt
 ·
  have hx' : (relabel scope X.env).names.lookup x = some .cell \/ (relabel scope X.env).names.lookup x = some .free := hx
  have fr : scope.names.lookup x = some .free \/ scope.names.lookup x = some .cell := by
   rcases hx' with z | z
   ·rcases relabel_lookup z with q | ⟨q, _⟩
    ·exact .inr q
    ·exact .inl q
   ·rcases relabel_lookup z with q | ⟨_, q⟩
    ·exact .inl q
    ·cases q
  refine Option.isSome_iff_exists.mp (hb.has x ?_)
  rcases fr with fr | fr
  ·exact .inl (hall _ (PySem.mem_of_lookup fr) rfl)
  ·exact .inr (PySem.mem_of_lookup fr)
 ·have z' : (x, NameKind.cell) ∈ scope.names := of_decide_eq_true z
  have := hb.new x c z' e
  rw [hC] at this
  exact Nat.le_of_lt this
 ·exact by rw [show (cxC X scope (own ++ cns) ⟨bc, C, { s with heap := h1 }, H, fp, X.pn ++ pins⟩).env.locals = C from rfl, hC]; exact Nat.ne_of_lt (hfp b hb').2
 ·rcases hb.frm x c e with e' | ⟨_, z, _⟩
  ·exact (hfp b hb').1.2.2.2.2.1 x c (hcl x c e')
  ·have := (hfp b hb').2
   rw [hC] at z
   exact Nat.ne_of_gt (Nat.lt_trans this z)
 ·have q := (hfp b hb').1.2.2.2.1
  rcases q with q | q
  ·exact hok.noex b o e q
  ·exact absurd (Nat.lt_of_lt_of_le (Heap.lt_size e) (Nat.le_trans hok.bsz q)) (Nat.lt_irrefl _)
 ·rcases List.mem_cons.mp (I.stkSub b hf) with q | q
  ·exact (hfp b hb').1.2.1 q
  ·exact (hfp b hb').1.2.2.1 q
 ·
  unfold cst at e2
  have e1' : (own ++ cns)[i]? = some x := e1
  by_cases hi : i < own.length
  ·rw [List.getElem?_append_left (by simpa using hi), List.getElem?_map] at e2
   cases h : own[i]? with
   | none => rw [h] at e2; cases e2
   | some z => rw [h] at e2; cases e2
  ·rw [List.getElem?_append_right (by simpa using hi), List.length_map, List.getElem?_map] at e2
   rw [List.getElem?_append_right (by simpa using hi)] at e1'
   cases hj : caps[i - own.length]? with
   | none => rw [hj] at e2; cases e2
   | some j =>
    rw [hj] at e2
    simp only [Option.map_some, Option.some.injEq] at e2
    obtain ⟨x', n1, n2⟩ := cap_get S.cap S.len _ _ hj
    have ex : x' = x := Option.some.inj (n2.symm.trans e1')
    subst ex
    have hσ : σ[j]? = some (some v) := by
     cases q : σ[j]? with
     | none => rw [q] at e2; cases e2
     | some z => rw [q] at e2; cases z with
      | none => cases e2
      | some z => simpa using e2
    have fr := S.vis x' (List.mem_of_getElem? n2)
    have kc := S.free _ (PySem.mem_of_lookup fr) rfl
    obtain ⟨m, hm, hl⟩ := I.loc
    obtain ⟨u, r, l⟩ := hl j x' v n1 hσ (.inr (.inl kc))
    refine ⟨u, r, ?_⟩
    rcases l with ⟨q, _⟩ | ⟨_, c, q1, q2⟩
    ·rw [kc] at q; cases q
    ·obtain ⟨c', hb'⟩ := Option.isSome_iff_exists.mp (hb.has x' (.inl (hall _ (PySem.mem_of_lookup fr) rfl)))
     have hc' : cl.lookup x' = some c' := by
      rcases hb.frm x' c' hb' with e' | ⟨z, _, _⟩
      ·exact e'
      ·exact absurd (List.mem_of_getElem? n2) (S.cell _ z rfl)
     have ec : c' = c := Option.some.inj ((hcl _ _ hc').symm.trans q1)
     subst ec
     refine .inr ⟨?_, c', hb', ?_⟩
     ·have : Vis (relabel scope X.env) x' := e3
      rcases this with z | z | z
      ·rcases relabel_lookup z with q | ⟨_, q⟩
       ·rw [fr] at q; cases q
       ·cases q
      ·exact .inl z
      ·exact .inr z
     ·obtain ⟨o, ho, hd⟩ := q2
      exact ⟨o, hk _ o ho, hd⟩
 ·rcases hb.frm x c e with e' | ⟨_, _, z⟩
  ·obtain ⟨v, o, ho, hd⟩ := I.cell x c (hcl x c e')
   exact ⟨v, o, hk _ o ho, hd⟩
  ·exact ⟨none, z⟩
 ·show H C = none
  rw [hC]
  exact I.hok.fresh (Nat.le_refl _)
 ·rcases hb.frm x c e with e' | ⟨_, z, _⟩
  ·exact I.freeC x c (hcl x c e')
  ·rw [hC] at z
   exact I.hok.fresh (Nat.le_of_lt z)
 ·have hp' : p ∈ X.pn ++ pins := by simpa [cxC] using hp
  obtain ⟨e, n, ne, nf, d⟩ := I.pin p hp'
  refine ⟨hk _ _ e, n, nC _ _ e, fun z => ?_, d⟩
  rcases List.mem_cons.mp (I.stkSub _ z) with q | q
  ·exact ne q
  ·exact nf q
 ·unfold cst
  show _ = (own ++ cns).length
  rw [List.length_append, List.length_map, List.length_map, List.length_append, S.len]
theorem inv_back {C : Addr} {fp : List Addr} {h1 h' : Heap} {s' : Shared} {H' : Hp} {τ : St} {N' : List Str} (I : Inv X pins σ H { s with heap := h1 }) (hfp : ∀ b ∈ fp, FpOk X pins H b /\ b < h1.objs.size)
  (J : Inv (cxC X scope N' ⟨cl, C, { s with heap := h1 }, H, fp, X.pn ++ pins⟩) [] τ H' s') (hC : C = h1.objs.size) (hs : Heap.SameBut C s'.heap h') : Inv X pins σ H' { s' with heap := h' } := by
 have hc : H' C = none := J.free
 have keep : ∀ b o, b ≠ C -> s'.heap.get? b = some o -> h'.get? b = some o := fun b o hb e => (hs.2 b hb).trans e
 have hok : HOk X.prog X.w H' h' := fun b u e => by
  refine (J.hok b u e).stay (fun c v hcc q => keep c v ?_ q) (fun _ q => q) fun _ _ q => q
  rcases hcc with rfl | hcc
  ·intro z; rw [z, hc] at e; cases e
  ·intro z; rw [z, hc] at hcc; cases hcc
 have lt1 : ∀ b o, h1.get? b = some o -> b ≠ C := fun b o e => by rw [hC]; exact Nat.ne_of_lt (Heap.lt_size e)
 have un : Un (frs X.stack) fp H H' h1 h' := by
  have u : Un (frs X.stack) fp H H' h1 s'.heap := J.base
  exact ⟨fun b o e n hf hx => keep b o (lt1 b o e) (u.keep b o e n hf hx), fun b o e n hf hx => let ⟨sl, q⟩ := u.slot b o e n hf hx; ⟨sl, keep b _ (lt1 b o e) q⟩, u.free,
   fun b o e hx => let ⟨o', q⟩ := u.there b o e hx; ⟨o', keep b _ (lt1 b o e) q⟩, u.tups, u.frzs, u.tbls⟩
 refine I.call' (s' := { s' with heap := h' }) (ch := fp) ((show s'.os = _ from J.os).trans ?_) un hok J.bare fun b hb => ?_
 ·rfl
 ·obtain ⟨⟨_, f1, f2, f3, f4, f5⟩, _⟩ := hfp b hb
  exact ⟨f3, f1, f4, f5⟩
end
def tComp (wi : TI) (g : CA -> TG) (tc : CA -> TT) (te : CA -> TE) (own : List Str) (caps : List Nat) : TE := fun σ H Q => wi σ H fun J H1 => ∀ D, H1 D = none -> ∀ k : CA, ∃ W : Nat -> Nat -> List V -> St -> Hp -> Prop,
 (∃ m, W 0 m [] (cst own caps σ) (upd H1 D (.lst []))) /\ ∀ i m ys τ H, W i m ys τ H -> H D = some (.lst ys) /\ ys.length < sizeLine /\
  ((J.stop i H /\ Q (.ref D) H) \/ (J.go i H /\ ∃ N : List V -> St -> Hp -> Prop, (∀ ys τ H, N ys τ H -> ∃ m', m' < m /\ W (i + 1) m' ys τ H) /\
   ∀ x H', J.yld i H x H' -> g k x τ H' fun τ2 H2 => tc k τ2 H2 fun b H3 => if b = true then te k τ2 H3 fun y H4 => H4 D = some (.lst ys) /\ N (ys ++ [y]) τ2 (upd H4 D (.lst (ys ++ [y]))) else N ys τ2 H3))
def PCs (X : Cx) (ifs : List Expr) (tc : TT) : Prop := ∀ (pins : List (Addr × Obj)) (s : Shared) (σ : St) (H : Hp) (Q : Bool -> Hp -> Prop), Inv X pins σ H s -> tc σ H Q ->
 wpAny (model X.prog X.w) X.A (forIn ifs true fun c r => if r = true then do let ok <- isTrue c X.env (eval c X.env); pure (ForInStep.yield ok) else pure (ForInStep.yield r)) (TP X pins σ Q) X.xe s
theorem pcs_nil {X : Cx} : PCs X [] (fun _ H Q => Q true H) := fun pins s σ H Q I h => by
 rw [List.forIn_nil]
 exact wpAny_pure ⟨H, I, h⟩
section
variable {X : Cx} {scope : Scope} {own : List Str} {caps : List Nat} {cns : List Str} {elt tg iter : Expr} {ifs : List Expr} {pos : Pos} {wi : TI} {g : CA -> TG} {tc : CA -> TT} {te : CA -> TE}
theorem pe_comp_use (use : Option (Value -> Sem Unit)) (S : CScope X scope own caps cns) (hcalm : X.calm = true) (hi : PI X tg iter wi)
  (hg : ∀ k : CA, PG (cxC X scope (own ++ cns) k) tg (g k)) (hc : ∀ k : CA, PCs (cxC X scope (own ++ cns) k) ifs (tc k)) (he : ∀ k : CA, PE (cxC X scope (own ++ cns) k) elt (te k))
  (hs : ∀ x, foldedSetIterable iter X.env x = pure x) {P : Value -> Shared -> Prop} {pins : List (Addr × Obj)} {s : Shared} {σ : St} {H : Hp} {Q : VK} (I : Inv X pins σ H s) (h : tComp wi g tc te own caps σ H Q)
  (hend : ∀ (D : Addr) (C : Addr) (H' : Hp) (s' : Shared), Q (.ref D) H' -> Inv X pins σ H' s' -> (∃ m, s'.heap.Ns C m) -> FpOk X pins H' C -> compPost (model X.prog X.w) X.A X.xe use P (.ref D) C (.ok .next) s') :
  wpAny (model X.prog X.w) X.A (comprehension (.ListComp elt [⟨tg, iter, ifs, 0⟩] scope pos) scope X.env (firstIterPos [⟨tg, iter, ifs, 0⟩] pos) (newList []) false (eval iter X.env) use) P X.xe s := by
 obtain ⟨cl, ecl, hcl, _, hall⟩ := closure_of (env := X.env) scope.names [] (fun y hy hf => I.ok.has y.1 (.inl (S.free y hy hf))) (fun x c z => by simp at z)
 refine wpAny_comprehension_free (cl := cl) rfl hs (by unfold closureFor; simpa using ecl) S.kind S.names ?_
 refine thn (hi pins s σ H _ I h) fun v s1 q1 => thn q1 fun itv s2 q2 => ?_
 obtain ⟨it, fp, tn, J, H1, rfl, I2, T, st0, hfp, q⟩ := q2
 have hD : H1 s2.heap.objs.size = none := I2.hok.fresh (Nat.le_refl _)
 refine wpAny_newObj_type ?_
 have I3 : Inv X pins σ (upd H1 s2.heap.objs.size (.lst [])) { s2 with heap := s2.heap.push { cls := .type "list", data := .seq ([] : List Value).toArray } } :=
  I2.laid (t' := s2.toks) (fun _ _ q => Heap.get?_push_of_some _ q) (Nat.le_refl _) ⟨Nat.zero_le _, [], 0, .nil, Heap.get?_push_size _ rfl⟩
 have hfp3 : ∀ b ∈ fp, FpOk X pins (upd H1 s2.heap.objs.size (.lst [])) b /\ b < (s2.heap.push { cls := .type "list", data := .seq ([] : List Value).toArray }).objs.size := fun b hb => by
  obtain ⟨o, ho, _⟩ := T.obj 0 _ st0 b hb
  have hlt := Heap.lt_size ho
  obtain ⟨f0, f⟩ := hfp b hb
  refine ⟨⟨by rw [upd_ne (Nat.ne_of_lt hlt)]; exact f0, f⟩, ?_⟩
  rw [Heap.size_push]
  exact Nat.lt_succ_of_lt hlt
 refine wpAny_newFunctionEnv_of (fun x c e => by obtain ⟨v, o, ho, _⟩ := I3.cell x c (hcl x c e); exact Heap.lt_size ho) (fun h4 bc hns keep4 hbc => ?_)
 dsimp only at hns keep4 hbc ⊢
 generalize hH : s2.heap.push { cls := .type "list", data := .seq ([] : List Value).toArray } = h1 at *
 obtain ⟨W, ⟨m0, w0⟩, step⟩ := q s2.heap.objs.size hD ⟨bc, h1.objs.size, { s2 with heap := h1 }, upd H1 s2.heap.objs.size (.lst []), fp, X.pn ++ pins⟩
 have J0 := inv_comp (tk := s2.toks) S I3 hfp3 hcl hall rfl (by simpa using hns) keep4 hbc
 have fpx : ∀ (H' : Hp), (∀ b ∈ fp, H' b = none) -> ∀ b ∈ fp, FpOk (cxC X scope (own ++ cns) ⟨bc, h1.objs.size, { s2 with heap := h1 }, (upd H1 s2.heap.objs.size (.lst [])), fp, X.pn ++ pins⟩) [] H' b := fun H' hn b hb => by
  obtain ⟨⟨_, f1, f2, f3, f4, f5⟩, hlt⟩ := hfp3 b hb
  refine ⟨hn b hb, Nat.ne_of_lt hlt, fun z => ?_, .inl hb, fun x c e => ?_, fun p hp => f5 p (by simpa [cxC] using hp)⟩
  ·rcases List.mem_cons.mp (I3.stkSub b z) with q | q
   ·exact f1 q
   ·exact f2 q
  ·rcases hbc.frm x c e with e' | ⟨_, z, _⟩
   ·exact f4 x c (hcl x c e')
   ·exact Nat.ne_of_gt (Nat.lt_trans hlt z)
 have st1 : tn 0 h4 := T.keep 0 _ _ st0 fun b hb o e => keep4 b o (by rw [<- hH]; exact Heap.get?_push_of_some _ e)
 have loop : codeAny (model X.prog X.w) X.A (.compLoop (.ListComp elt [⟨tg, iter, ifs, 0⟩] scope pos) 0 (.ref it) (.ref s2.heap.objs.size) (compEnvC scope bc h1.objs.size X.env))
   (compPost (model X.prog X.w) X.A X.xe use P (.ref s2.heap.objs.size) h1.objs.size) { s2 with heap := h4 } := by
  refine compLoop_gen (fun n s' => ∃ i ys τ H', W i n ys τ H' /\ Inv (cxC X scope (own ++ cns) ⟨bc, h1.objs.size, { s2 with heap := h1 }, (upd H1 s2.heap.objs.size (.lst [])), fp, X.pn ++ pins⟩) [] τ H' s' /\ tn i s'.heap /\ ∀ b ∈ fp, H' b = none) ?_ m0
   ⟨0, [], _, _, w0, J0, st1, fun b hb => (hfp3 b hb).1.1⟩
  rintro n s' ⟨i, ys, τ, H', w1, J1, st, hn⟩
  obtain ⟨hDl, hlen, alt⟩ := step i n ys τ H' w1
  rcases alt with ⟨hstop, hq⟩ | ⟨hgo, N, hN, hbody⟩
  ·refine thn (T.done (cxC X scope (own ++ cns) ⟨bc, h1.objs.size, { s2 with heap := h1 }, (upd H1 s2.heap.objs.size (.lst [])), fp, X.pn ++ pins⟩) rfl rfl rfl hcalm i [] s' τ H' _ J1 (fpx H' hn) st hstop) fun r s'' ⟨er, J2⟩ => ?_
   subst er
   obtain ⟨m, hm, _⟩ := J2.loc
   exact hend _ _ H' s'' hq (inv_back (h' := s''.heap) I3 hfp3 J2 rfl (Heap.SameBut.refl ..)) ⟨m, hm⟩ (I3.fpOk (Nat.le_refl _) J2.free)
  ·refine thn (T.item (cxC X scope (own ++ cns) ⟨bc, h1.objs.size, { s2 with heap := h1 }, (upd H1 s2.heap.objs.size (.lst [])), fp, X.pn ++ pins⟩) rfl rfl rfl hcalm i [] s' τ H' _ J1 (fpx H' hn) st hgo) fun r s'' ⟨u, er, hw⟩ => ?_
   subst er
   refine thn hw fun _ s3 ⟨x, H2, J2, rx, hy, st2, hn2⟩ => ?_
   have pinned := J2.pinned (fpx H2 hn2) (T.obj (i + 1) _ st2)
   have back : ∀ {τ' : St} {H'' : Hp} {s4 : Shared}, Inv (cxC X scope (own ++ cns) ⟨bc, h1.objs.size, { s2 with heap := h1 }, (upd H1 s2.heap.objs.size (.lst [])), fp, X.pn ++ pins⟩) ([] ++ pinsAt fp s3.heap) τ' H'' s4 ->
     tn (i + 1) s4.heap /\ ∀ b ∈ fp, H'' b = none := fun {τ' H'' s4} K => by
    refine ⟨T.keep (i + 1) _ _ st2 fun b hb o e => (K.pin (b, o) (List.mem_append_right _ (by simpa using mem_pinsAt hb e))).1, fun b hb => ?_⟩
    obtain ⟨o, e, _⟩ := T.obj (i + 1) _ st2 b hb
    exact (K.pin (b, o) (List.mem_append_right _ (by simpa using mem_pinsAt hb e))).2.1
   refine thn (hg _ ([] ++ pinsAt fp s3.heap) s3 τ H2 x u _ pinned rx (hbody x H2 hy)) fun _ s4 ⟨τ2, H3, J3, q3⟩ => ?_
   refine thn (hc _ ([] ++ pinsAt fp s3.heap) s4 τ2 H3 _ J3 q3) fun b s5 ⟨H4, J4, q4⟩ => ?_
   cases b with
   | false =>
    simp only [Bool.false_eq_true, if_false] at q4 ⊢
    obtain ⟨m', hm', w2⟩ := hN _ _ _ q4
    obtain ⟨b1, b2⟩ := back J4
    exact ⟨m', hm', i + 1, ys, τ2, H4, w2, J4.unpinned, b1, b2⟩
   | true =>
    simp only [if_true] at q4 ⊢
    refine thn (he _ ([] ++ pinsAt fp s3.heap) s5 τ2 H4 _ J4 q4) fun yv s6 ⟨y, H5, J5, ry, hD5, q5⟩ => ?_
    obtain ⟨m', hm', w2⟩ := hN _ _ _ q5
    obtain ⟨hz, its, c, rv, hlen2, eo⟩ := J5.lstM hD5
    refine PySem.wpAny_call_entry slot_list_append ⟨_, eo, rfl⟩ entry_list_append ?_ (args_list_append _ _)
    show wpAny _ _ (updateSeq s2.heap.objs.size (·.push yv) >>= fun _ => ret .none) _ _ s6
    refine wpAny_bind (wpAny_updateSeq eo rfl (wpAny_pure ⟨.none, rfl, ?_⟩) (by simp; omega) (by simp; omega))
    have J6 := J5.lset (ys := ys ++ [y]) (its' := its ++ [yv]) (f := (·.push yv)) (t' := s6.toks) hD5 eo (by simp) (rv.append (.cons ry .nil)) (by simp; omega)
    obtain ⟨b1, b2⟩ := back J6
    exact ⟨m', hm', i + 1, _, τ2, _, w2, J6.unpinned, b1, b2⟩
 exact codeAny_compStart_list loop (T.self X.A 0 _ _ _ st1 loop)
theorem pe_comp (S : CScope X scope own caps cns) (hcalm : X.calm = true) (hi : PI X tg iter wi)
  (hg : ∀ k : CA, PG (cxC X scope (own ++ cns) k) tg (g k)) (hc : ∀ k : CA, PCs (cxC X scope (own ++ cns) k) ifs (tc k)) (he : ∀ k : CA, PE (cxC X scope (own ++ cns) k) elt (te k))
  (hs : ∀ x, foldedSetIterable iter X.env x = pure x := by intro _; rfl) : PE X (.ListComp elt [⟨tg, iter, ifs, 0⟩] scope pos) (tComp wi g tc te own caps) := by
 intro pins s σ H Q I h
 rw [eval_ListComp]
 refine pe_comp_use none S hcalm hi hg hc he hs I h fun D C H' s' q hI ⟨m, hm⟩ ⟨f0, f1, f2, f3, f4, f5⟩ => ?_
 exact ⟨m, hm, fun h' hs' => ⟨.ref D, H', hI.turned (t' := s'.toks) (fun b o hb e => (hs'.2 b hb).trans e) f0 f1 f3 f4 f5, rfl, q⟩⟩
end
theorem comp_list {K : PySem.W.Frag} {a : Addr} {xs : List V} {g : CA -> TG} {tc : CA -> TT} {te : CA -> TE} {own : List Str} {caps : List Nat} {σ : St} {H1 : Hp} {Q : VK} (hz : xs.length < sizeLine) (Pv : Addr -> Nat -> List V -> St -> Hp -> Prop)
  (h0 : ∀ D, H1 D = none -> Pv D 0 [] (cst own caps σ) (upd H1 D (.lst [])))
  (hl : ∀ D i ys τ H, i <= xs.length -> Pv D i ys τ H -> SqL K H a xs /\ H D = some (.lst ys) /\ ys.length <= i)
  (hs : ∀ k D i x ys τ H, xs[i]? = some x -> Pv D i ys τ H -> g k x τ H fun τ2 H2 => tc k τ2 H2 fun b H3 => if b = true then te k τ2 H3 fun y H4 => H4 D = some (.lst ys) /\ Pv D (i + 1) (ys ++ [y]) τ2 (upd H4 D (.lst (ys ++ [y]))) else Pv D (i + 1) ys τ2 H3)
  (hd : ∀ D ys τ H, H1 D = none -> Pv D xs.length ys τ H -> Q (.ref D) H) :
  ∀ D, H1 D = none -> ∀ k : CA, ∃ W : Nat -> Nat -> List V -> St -> Hp -> Prop, (∃ m, W 0 m [] (cst own caps σ) (upd H1 D (.lst []))) /\ ∀ i m ys τ H, W i m ys τ H -> H D = some (.lst ys) /\ ys.length < sizeLine /\
   (((Itl K a).stop i H /\ Q (.ref D) H) \/ ((Itl K a).go i H /\ ∃ N : List V -> St -> Hp -> Prop, (∀ ys τ H, N ys τ H -> ∃ m', m' < m /\ W (i + 1) m' ys τ H) /\
    ∀ x H', (Itl K a).yld i H x H' -> g k x τ H' fun τ2 H2 => tc k τ2 H2 fun b H3 => if b = true then te k τ2 H3 fun y H4 => H4 D = some (.lst ys) /\ N (ys ++ [y]) τ2 (upd H4 D (.lst (ys ++ [y]))) else N ys τ2 H3)) := by
 intro D hD k
 refine ⟨fun i m ys τ H => m = xs.length - i /\ i <= xs.length /\ Pv D i ys τ H, ⟨xs.length, by simp, Nat.zero_le _, h0 D hD⟩, ?_⟩
 rintro i m ys τ H ⟨rfl, hi, p⟩
 obtain ⟨q, e, z⟩ := hl D i ys τ H hi p
 refine ⟨e, by omega, ?_⟩
 by_cases hlt : i < xs.length
 ·refine .inr ⟨⟨xs, xs[i], q, by simp [hlt]⟩, Pv D (i + 1), fun ys' τ' H' p' => ⟨xs.length - (i + 1), by omega, rfl, hlt, p'⟩, fun x H' y => ?_⟩
  obtain ⟨rfl, y⟩ := y
  exact hs k D i x ys τ _ (y xs q) p
 ·have e : i = xs.length := by omega
  subst e
  exact .inl ⟨⟨xs, q, Nat.le_refl _⟩, hd D ys τ H hD p⟩
end L2
set_option Elab.async false
set_option linter.all false
set_option maxRecDepth 100000
set_option maxHeartbeats 1000000
namespace Hex
abbrev C := Int × Int
namespace Reach
variable {S T : C -> Prop} {a b c : C}
end Reach
section
variable {T pre post fr : List C} {found : List (List C)} {c : C}
end
end Hex
set_option Elab.async false
set_option linter.all false
set_option maxRecDepth 100000
set_option maxHeartbeats 4000000
namespace L2
open PySem PySem.Spec PyProof.Rows Hex
def cl (c : C) : List Int := [c.1, c.2]
theorem paired_append {α β : Type} {R : α -> β -> Prop} {c : List α} {d : List β} (k : Paired R c d) : ∀ {a : List α} {b : List β}, Paired R a b -> Paired R (a ++ c) (b ++ d)
 | _, _, .nil => k
 | _, _, .cons h t => .cons h (paired_append k t)
abbrev Ce (H : Hp) (v : V) (c : C) : Prop := Tp H v (cl c)
abbrev Cs (H : Hp) (vs : List V) (cs : List C) : Prop := Tps H vs (cs.map cl)
theorem Cs.len {H : Hp} {vs : List V} {cs : List C} (h : Cs H vs cs) : vs.length = cs.length := by
 have := Paired.length h
 simpa using this
def TupS (H H' : Hp) : Prop := ∀ b xs, H b = some (.tup xs) -> H' b = some (.tup xs)
theorem TupS.trans {H H1 H2 : Hp} (a : TupS H H1) (b : TupS H1 H2) : TupS H H2 := fun c xs h => b c xs (a c xs h)
theorem TupS.of {H H' : Hp} (s : Same H H') : TupS H H' := fun b xs h => s b _ h
def isTup : HO -> Bool
 | .tup _ => true
 | _ => false
theorem TupS.upd {H : Hp} {p : Addr} {o o' : HO} (h : H p = some o) (k : isTup o = false) : TupS H (upd H p o') := fun b xs z => by
 rw [upd_ne]
 ·exact z
 ·rintro rfl
  rw [h] at z
  cases z
  cases k
theorem Tps.mt {H H' : Hp} {vs : List V} {nss : List (List Int)} (t : TupS H H') (r : Tps H vs nss) : Tps H' vs nss := Paired.mapP r fun _ _ ⟨p, e, h⟩ => ⟨p, e, t _ _ h⟩
theorem Tp.mt {H H' : Hp} {v : V} {ns : List Int} (t : TupS H H') (r : Tp H v ns) : Tp H' v ns := let ⟨p, e, h⟩ := r; ⟨p, e, t _ _ h⟩
theorem Same.at {p : Addr} {H H1 : Hp} (a : Same H H1) (hp : H p = none) (o : HO) : Same H (upd H1 p o) := fun b o' h => by rw [upd_ne (ne_of_none h hp)]; exact a b o' h
end L2
set_option Elab.async false
set_option linter.all false
set_option maxRecDepth 100000
set_option maxHeartbeats 4000000
namespace L2
open PySem PySem.Spec PyProof.Rows
theorem tCB_i {r : List V -> Hp -> VK -> Prop} {t : TA} {σ : St} {H : Hp} {Q : VK} (h : t σ H fun vs H1 => r vs H1 Q) : tCB r t σ H Q := h
theorem tCons_i {te : TE} {t : TA} {σ : St} {H : Hp} {Q : List V -> Hp -> Prop} (h : te σ H fun v H1 => t σ H1 fun vs H2 => Q (v :: vs) H2) : tCons te t σ H Q := h
theorem tCall_i {sp : Sp} {dvs : List V} {E : XK} {t : TA} {σ : St} {H : Hp} {Q : VK} (h : t σ H fun vs H1 => sp (vs ++ dvs) H1 Q E) : tCall sp dvs E t σ H Q := h
theorem tNext_i {D : Ends} {σ : St} {H : Hp} (h : D.nx σ H) : tNext D σ H := h
theorem tSeq_i {t u : TS} {D : Ends} {σ : St} {H : Hp} (h : t { D with nx := u D } σ H) : tSeq t u D σ H := h
def tJ (t : TS) : TS := fun D σ H => ∃ J : St -> Hp -> Prop, t { D with nx := J } σ H /\ ∀ σ' H', J σ' H' -> D.nx σ' H'
theorem ps_join {X : Cx} {st : Stmt} {t : TS} (h : PS X st t) : PS X st (tJ t) := by
 intro pins s σ H D I q
 obtain ⟨J, q1, q2⟩ := q
 refine thn (h pins s σ H _ I q1) fun f s' z => ?_
 cases f with
 | next => obtain ⟨σ', H', I', j⟩ := z; exact ⟨σ', H', I', q2 σ' H' j⟩
 | brk => exact z
 | cont => exact z
 | ret u => exact z
section
variable {prog : Program} {w : World} {A : Around} {E : Value -> Shared -> Prop} {s : Shared}
end
section
variable {X : Cx} {e : Expr} {te : TE} {p1 p2 pos1 pos2 : Pos}
end
end L2
set_option Elab.async false
set_option linter.all false
set_option maxRecDepth 100000
set_option maxHeartbeats 4000000
namespace L2
open PySem PySem.Spec PyProof.Rows
def CompGo (J : It) (g : CA -> TG) (tc : CA -> TT) (te : CA -> TE) (own : List Str) (caps : List Nat) (σ : St) (H1 : Hp) (Q : VK) : Prop := ∀ D, H1 D = none -> ∀ k : CA, ∃ W : Nat -> Nat -> List V -> St -> Hp -> Prop,
 (∃ m, W 0 m [] (cst own caps σ) (upd H1 D (.lst []))) /\ ∀ i m ys τ H, W i m ys τ H -> H D = some (.lst ys) /\ ys.length < sizeLine /\
  ((J.stop i H /\ Q (.ref D) H) \/ (J.go i H /\ ∃ N : List V -> St -> Hp -> Prop, (∀ ys τ H, N ys τ H -> ∃ m', m' < m /\ W (i + 1) m' ys τ H) /\
   ∀ x H', J.yld i H x H' -> g k x τ H' fun τ2 H2 => tc k τ2 H2 fun b H3 => if b = true then te k τ2 H3 fun y H4 => H4 D = some (.lst ys) /\ N (ys ++ [y]) τ2 (upd H4 D (.lst (ys ++ [y]))) else N ys τ2 H3))
theorem tComp_i {wi : TI} {g : CA -> TG} {tc : CA -> TT} {te : CA -> TE} {own : List Str} {caps : List Nat} {σ : St} {H : Hp} {Q : VK} (h : wi σ H fun J H1 => CompGo J g tc te own caps σ H1 Q) : tComp wi g tc te own caps σ H Q := h
theorem gName_i {i : Nat} {v : V} {σ : St} {H : Hp} {Q : St -> Hp -> Prop} (h : Q (σ.set i (some v)) H) : gName i v σ H Q := h
theorem tAsg_i {te : TE} {g : TG} {D : Ends} {σ : St} {H : Hp} (h : te σ H fun x H1 => g x σ H1 D.nx) : tAsg te g D σ H := h
theorem tIfS_i {c : TT} {t u : TS} {D : Ends} {σ : St} {H : Hp} (h : c σ H fun b H1 => if b = true then t D σ H1 else u D σ H1) : tIfS c t u D σ H := h
theorem go_list {K : PySem.W.Frag} {a : Addr} {xs : List V} {g : CA -> TG} {tc : CA -> TT} {te : CA -> TE} {own : List Str} {caps : List Nat} {σ : St} {H1 : Hp} {Q : VK} (hz : xs.length < sizeLine) (Pv : Addr -> Nat -> List V -> St -> Hp -> Prop)
  (h0 : ∀ D, H1 D = none -> Pv D 0 [] (cst own caps σ) (upd H1 D (.lst [])))
  (hl : ∀ D i ys τ H, i <= xs.length -> Pv D i ys τ H -> SqL K H a xs /\ H D = some (.lst ys) /\ ys.length <= i)
  (hs : ∀ k D i x ys τ H, xs[i]? = some x -> Pv D i ys τ H -> g k x τ H fun τ2 H2 => tc k τ2 H2 fun b H3 => if b = true then te k τ2 H3 fun y H4 => H4 D = some (.lst ys) /\ Pv D (i + 1) (ys ++ [y]) τ2 (upd H4 D (.lst (ys ++ [y]))) else Pv D (i + 1) ys τ2 H3)
  (hd : ∀ D ys τ H, H1 D = none -> Pv D xs.length ys τ H -> Q (.ref D) H) : CompGo (Itl K a) g tc te own caps σ H1 Q := comp_list hz Pv h0 hl hs hd
end L2
set_option Elab.async false
set_option linter.all false
set_option maxRecDepth 100000
set_option maxHeartbeats 4000000
namespace L2
open PySem PySem.Spec PyProof.Rows
section
variable {X : Cx}
theorem bt_all : bootBuiltins "all" = some (.builtin "all") := by decide +kernel
theorem bls_items : ∀ {bs : List Bool} {us : List Value}, Vals (bs.map V.bl) us -> us = bs.map Value.bool
 | [], _, h => by cases h; rfl
 | b :: bs, _, h => by
  cases h with
  | cons r t => rw [show _ = Value.bool b from r, bls_items t]; rfl
theorem range_all : ∀ (bs : List Bool), ((List.range bs.length).all fun i => bs.getD i true) = bs.all id
 | [] => rfl
 | b :: bs => by
  rw [List.length_cons, List.range_succ_eq_map, List.all_cons, List.all_map, List.all_cons, <- range_all bs]
  rfl
theorem call_allB (hc : X.calm = true) : CallR X (.builtin "all") (fun xs H Q => ∃ (p : Addr) (bs : List Bool), xs = [.ref p] /\ SqL X.K H p (bs.map V.bl) /\ Q (.bl (bs.all id)) H) := by
 intro pins s σ H xs us Q I r h
 obtain ⟨p, bs, rfl, hq, q⟩ := h
 obtain ⟨u, rfl, rx⟩ := vals1 r
 cases rx
 obtain ⟨its, r', pl, hz⟩ := I.list hq
 have e := bls_items r'
 subst e
 have hl := pl.isList
 have hp : p < s.heap.objs.size := let ⟨o, ho, _⟩ := hl; Heap.lt_size ho
 refine call_all_walk (wpAny_pyIter_list hl ?_)
 refine ⟨s.heap.objs.size, _, _, _, _, _, fun i => bs.getD i true, rfl, Walks.list (A := X.A.in1) (show X.A.in1.handled = none from I.ok.hd hc) s.heap.objs.size p (Nat.ne_of_lt hp) (bs.map Value.bool).toArray, ⟨⟨_, Heap.get?_push_size _ rfl, rfl, rfl⟩, hl.push _⟩, ?_, fun h' tk keep => ?_⟩
 ·intro i v s' Q' E' hv hQ'
  have hv' : (bs.map Value.bool)[i]? = some v := by simpa using hv
  rw [List.getElem?_map] at hv'
  cases eb : bs[i]? with
  | none => rw [eb] at hv'; cases hv'
  | some b =>
   rw [eb] at hv'
   simp at hv'
   subst hv'
   have e3 : bs.getD i true = b := by rw [List.getD_eq_getElem?_getD, eb]; rfl
   have hQ2 : Q' (bs.getD i true) s' := hQ'
   rw [e3] at hQ2
   exact wpAny_truthy_bool hQ2
 ·have e2 : ((List.range ((bs.map Value.bool).toArray.size)).all fun i => bs.getD i true) = bs.all id := by
   rw [<- range_all bs]
   simp
  rw [e2]
  exact ⟨.bl _, H, I.kept (t' := tk) fun b o e => keep b o (by simp only [List.mem_singleton]; exact Nat.ne_of_lt (Heap.lt_size e)) (Heap.get?_push_of_some _ e), rfl, q⟩
end
end L2
set_option Elab.async false
set_option linter.all false
set_option maxRecDepth 100000
set_option maxHeartbeats 4000000
namespace L2
open PySem PySem.Spec PyProof.Rows Hex
theorem paired_of {α β : Type} {R : α -> β -> Prop} : ∀ {as : List α} {bs : List β}, Paired R as bs -> ∀ {i : Nat} {a : α}, as[i]? = some a -> ∃ b, bs[i]? = some b /\ R a b
 | _, _, .nil, i, a, h => by simp at h
 | _, _, .cons r t, 0, a, h => by
  simp only [List.getElem?_cons_zero, Option.some.injEq] at h
  subst h
  exact ⟨_, rfl, r⟩
 | _, _, .cons r t, i + 1, a, h => by
  simp only [List.getElem?_cons_succ] at h
  obtain ⟨b, hb, q⟩ := paired_of t h
  exact ⟨b, by simpa using hb, q⟩
theorem takeS {α : Type} {l : List α} {i : Nat} {c : α} (h : l[i]? = some c) : l.take (i + 1) = l.take i ++ [c] := by rw [List.take_add_one, h]; rfl
def Stays {β : Type} (R : Hp -> V -> β -> Prop) : Prop := ∀ H H' v b, TupS H H' -> R H v b -> R H' v b
def isB (_ : Hp) (v : V) (n : Bool) : Prop := v = .bl n
theorem stays_B : Stays isB := fun _ _ _ _ _ h => h
theorem stays_Ce : Stays Ce := fun _ _ _ _ t h => h.mt t
theorem isB_map : ∀ {ys : List V} {ns : List Bool} {H : Hp}, Paired (isB H) ys ns -> ys = ns.map V.bl
 | _, _, _, .nil => rfl
 | _, _, _, .cons r t => by rw [List.map_cons, <- isB_map t, show _ = V.bl _ from r]
theorem paired_map {α β γ : Type} {R : α -> γ -> Prop} {f : β -> γ} : ∀ {as : List α} {bs : List β}, Paired R as (bs.map f) -> Paired (fun a b => R a (f b)) as bs
 | _, [], h => by
  generalize e : ([] : List β).map f = l at h
  cases h with
  | nil => exact .nil
  | cons _ _ => cases e
 | _, b :: bs, h => by
  generalize e : (b :: bs).map f = l at h
  cases h with
  | nil => cases e
  | cons r t =>
   rw [List.map_cons] at e
   injection e with e1 e2
   subst e1
   subst e2
   exact .cons r (paired_map t)
theorem map_paired {α β γ : Type} {R : α -> γ -> Prop} {f : β -> γ} : ∀ {as : List α} {bs : List β}, Paired (fun a b => R a (f b)) as bs -> Paired R as (bs.map f)
 | _, _, .nil => .nil
 | _, _, .cons r t => .cons r (map_paired t)
theorem Cs.pair {H : Hp} {us : List V} {cs : List C} (h : Cs H us cs) : Paired (Ce H) us cs := paired_map (f := cl) (R := Tp H) h
theorem Cs.ofPair {H : Hp} {us : List V} {cs : List C} (h : Paired (Ce H) us cs) : Cs H us cs := map_paired (f := cl) (R := Tp H) h
theorem go_map {α β : Type} {K : PySem.W.Frag} {a : Addr} {us : List V} {xs : List α} {te : CA -> TE} {y : Str} {caps : List Nat} {σ : St} {H1 : Hp} {Q : VK} (S : Hp -> V -> α -> Prop) (R : Hp -> V -> β -> Prop) (φ : α -> β) (mS : Stays S) (mR : Stays R)
  (hq : SqL K H1 a us) (hp : Paired (S H1) us xs) (hz : us.length < sizeLine)
  (hs : ∀ (k : CA) (i : Nat) (v : V) (c : α) (H : Hp), us[i]? = some v -> xs[i]? = some c -> Same H1 H -> S H v c -> ∀ N : VK, (∀ u H', Same H H' -> R H' u (φ c) -> N u H') -> te k (some v :: caps.map fun j => (σ[j]?).join) H N)
  (hd : ∀ D ys H, H1 D = none -> Same H1 H -> H D = some (.lst ys) -> Paired (R H) ys (xs.map φ) -> Q (.ref D) H) : CompGo (Itl K a) (fun _ => gName 0) (fun _ _ H Q => Q true H) te [y] caps σ H1 Q := by
 have hl := Paired.length hp
 refine go_list (K := K) (xs := us) hz (fun D i ys τ H => H1 D = none /\ Same H1 H /\ H D = some (.lst ys) /\ Paired (R H) ys ((xs.take i).map φ) /\ ∃ v, τ = v :: caps.map fun j => (σ[j]?).join) ?_ ?_ ?_ ?_
 ·exact fun D hD => ⟨hD, Same.new hD _, upd_same, .nil, none, rfl⟩
 ·rintro D i ys τ H hi ⟨hD, s, d, p, v, rfl⟩
  refine ⟨s.seq hq, d, ?_⟩
  rw [Paired.length p, List.length_map, List.length_take]
  omega
 ·rintro k D i x ys τ H hi ⟨hD, s, d, p, v, rfl⟩
  obtain ⟨c, hc, sc⟩ := paired_of hp hi
  refine gName_i ?_
  show if true = true then _ else _
  rw [if_pos rfl]
  refine hs k i x c H hi hc s (mS _ _ _ _ (TupS.of s) sc) _ fun u H' s' r => ?_
  have d' := s' _ _ d
  refine ⟨d', hD, (s.trans s').at hD _, upd_same, ?_, _, rfl⟩
  rw [takeS hc, List.map_append]
  have t : TupS H' (upd H' D (.lst (ys ++ [u]))) := TupS.upd d' rfl
  exact paired_append (.cons (mR _ _ _ _ t r) .nil) (Paired.mapP p fun _ _ z => mR _ _ _ _ ((TupS.of s').trans t) z)
 ·rintro D ys τ H hD ⟨_, s, d, p, v, rfl⟩
  rw [hl, List.take_length] at p
  exact hd D ys H hD s d p
theorem map_name {α β : Type} {K : PySem.W.Frag} {j : Nat} {a : Addr} {us : List V} {xs : List α} {te : CA -> TE} {y : Str} {caps : List Nat} {σ : St} {H1 : Hp} {Q : VK} (hσ : σ[j]? = some (some (.ref a))) (S : Hp -> V -> α -> Prop) (R : Hp -> V -> β -> Prop) (φ : α -> β) (mS : Stays S) (mR : Stays R)
  (hq : SqL K H1 a us) (hp : Paired (S H1) us xs) (hz : us.length < sizeLine)
  (hs : ∀ (k : CA) (i : Nat) (v : V) (c : α) (H : Hp), us[i]? = some v -> xs[i]? = some c -> Same H1 H -> S H v c -> ∀ N : VK, (∀ u H', Same H H' -> R H' u (φ c) -> N u H') -> te k (some v :: caps.map fun j => (σ[j]?).join) H N)
  (hd : ∀ D ys H, H1 D = none -> Same H1 H -> H D = some (.lst ys) -> Paired (R H) ys (xs.map φ) -> Q (.ref D) H) : tComp (iList K (tVar j)) (fun _ => gName 0) (fun _ _ H Q => Q true H) te [y] caps σ H1 Q :=
 ⟨_, hσ, a, rfl, ⟨us, hq⟩, go_map S R φ mS mR hq hp hz hs hd⟩
def ForGo (J : It) (g : TG) (tb : TS) (D : Ends) (σ : St) (H : Hp) : Prop := ∃ W : Nat -> Nat -> St -> Hp -> Prop, (∃ m, W 0 m σ H) /\ ∀ i m σ H, W i m σ H ->
 (J.stop i H /\ D.nx σ H) \/ (J.go i H /\ ∃ N : St -> Hp -> Prop, (∀ σ' H', N σ' H' -> ∃ m', m' < m /\ W (i + 1) m' σ' H') /\ ∀ x H', J.yld i H x H' -> g x σ H' fun σ2 H2 => tb { D with nx := N, ct := N, bk := D.nx } σ2 H2)
theorem tFor_i {wi : TI} {g : TG} {tb : TS} {D : Ends} {σ : St} {H : Hp} (h : wi σ H fun J H1 => ForGo J g tb D σ H1) : tFor wi g tb D σ H := h
theorem gf_range {lo : Int} {n : Nat} {g : TG} {tb : TS} {D : Ends} {σ : St} {H : Hp} (Pv : Nat -> St -> Hp -> Prop) (h0 : Pv 0 σ H)
  (hs : ∀ i σ H, i < n -> Pv i σ H -> g (.int (lo + i)) σ H fun σ2 H2 => tb { D with nx := Pv (i + 1), ct := Pv (i + 1), bk := D.nx } σ2 H2) (hd : ∀ σ H, Pv n σ H -> D.nx σ H) : ForGo (Itr lo n) g tb D σ H := for_range Pv h0 hs hd
theorem gf_list {K : PySem.W.Frag} {a : Addr} {xs : List V} {g : TG} {tb : TS} {D : Ends} {σ : St} {H : Hp} (Pv : Nat -> St -> Hp -> Prop) (h0 : Pv 0 σ H) (hl : ∀ i σ H, i <= xs.length -> Pv i σ H -> SqL K H a xs)
  (hs : ∀ i x σ H, xs[i]? = some x -> Pv i σ H -> g x σ H fun σ2 H2 => tb { D with nx := Pv (i + 1), ct := Pv (i + 1), bk := D.nx } σ2 H2) (hd : ∀ σ H, Pv xs.length σ H -> D.nx σ H) : ForGo (Itl K a) g tb D σ H := for_list Pv h0 hl hs hd
end L2
set_option Elab.async false
set_option linter.all false
set_option maxRecDepth 100000
set_option maxHeartbeats 4000000
namespace L2
open PySem PySem.Spec PyProof.Rows Hex
section
variable {X : Cx} {k : Nat} {cn m : Str} {fl ps : List Str} {sp : Sp} {p pos apos : Pos} {e o : Expr} {es : List Expr} {t : TA} {ta : TE}
theorem pe_globI {x : Str} {i : Int} {pos : Pos} (hg : Gl X x) (hm : ∃ t, X.mg x = some (.int i t)) (hd : (x == ("__debug__" : Str)) = false := by decide) : PE X (.Name x pos) (tC (.int i)) := by
 obtain ⟨t, h⟩ := hm
 exact pe_glob hg h ⟨t, rfl⟩ hd
end
end L2
set_option Elab.async false
set_option linter.all false
set_option maxRecDepth 100000
set_option maxHeartbeats 4000000
namespace L2
open PySem PySem.Spec PyProof.Rows
theorem strs_items : ∀ {zs : List Str} {us : List Value}, Vals (zs.map V.str) us -> ∃ l : List (Str × Tok), us = strValues l /\ l.map (·.1) = zs
 | [], _, h => by cases h; exact ⟨[], rfl, rfl⟩
 | z :: zs, _, h => by
  cases h with
  | cons r t =>
   obtain ⟨t', rfl⟩ := (show ∃ t, _ = Value.str z t from r)
   obtain ⟨l, h1, h2⟩ := strs_items t
   exact ⟨(z, t') :: l, by rw [h1]; rfl, by rw [List.map_cons, h2]⟩
theorem vals_strs : ∀ l : List (Str × Tok), Vals ((l.map (·.1)).map V.str) (strValues l)
 | [] => .nil
 | p :: l => .cons ⟨p.2, rfl⟩ (vals_strs l)
section
variable {X : Cx}
theorem mt_join : MtR X "str.join" (fun x ys H Q => ∃ (sep : Str) (l : Addr) (zs : List Str), x = .str sep /\ ys = [.ref l] /\ SqL X.K H l (zs.map V.str) /\ JoinOk sep zs = true /\ Q (.str (Txt.join sep zs)) H) := by
 intro pins s σ H x xs v us Q I rx rxs h
 obtain ⟨sep, l, zs, rfl, rfl, hq, ok, q⟩ := h
 obtain ⟨t, rfl⟩ := (show ∃ t, v = Value.str sep t from rx)
 obtain ⟨u, rfl, ru⟩ := vals1 rxs
 cases (show u = Value.ref l from ru)
 obtain ⟨its, rv, pl, hz⟩ := I.list hq
 obtain ⟨ps, rfl, e⟩ := strs_items rv
 exact SC.join pl.isList e ok fun t' k => ⟨.str _, H, I.tok _, ⟨t', rfl⟩, q⟩
theorem mt_split : MtR X "str.split" (fun x ys H Q => ∃ (z y : Str), x = .str z /\ ys = [.str y] /\ y.length ≠ 0 /\ z.length <= 1000000 /\
  ∀ l : Addr, H l = none -> Q (.ref l) (upd H l (.lst ((Txt.split z y).map V.str)))) := by
 intro pins s σ H x xs v us Q I rx rxs h
 obtain ⟨z, y, rfl, rfl, hy, hz, q⟩ := h
 have hl : (Txt.split z y).length <= sizeLine := Nat.le_trans (split_le z y) (Nat.le_trans (Nat.add_le_add_right hz 2) (by decide))
 obtain ⟨t, rfl⟩ := (show ∃ t, v = Value.str z t from rx)
 obtain ⟨u, rfl, ru⟩ := vals1 rxs
 obtain ⟨t2, rfl⟩ := (show ∃ t, u = Value.str y t from ru)
 have fin : ∀ (l : List (Str × Tok)) (k : Nat), l.map (·.1) = Txt.split z y -> EP X pins σ Q (.ref s.heap.objs.size) { s with heap := s.heap.push { cls := .type "list", data := .seq (strValues l).toArray }, toks := k } := fun l k e => by
  have hn := I.hok.fresh (Nat.le_refl s.heap.objs.size)
  refine ⟨.ref _, _, I.laid (t' := k) (o := .lst ((Txt.split z y).map V.str)) (fun b u q => Heap.get?_push_of_some _ q) (Nat.le_refl _) ⟨by rw [List.length_map]; exact hl, strValues l, 0, ?_, Heap.get?_push_size _ rfl⟩, rfl, q _ hn⟩
  rw [<- e]
  exact vals_strs l
 have hy' : (y.length == 0) = false := by simpa using hy
 have hz' : z.length <= sizeLine := Nat.le_trans hz (by decide)
 cases c1 : (decide (z.length < y.length) || decide (Builtin.Str.strKind z < Builtin.Str.strKind y)) with
 | true => exact call_meets F.slot_str_split (typeIs_str _ _ _) F.entry_str_split (F.args_str_split_2 _ _) (meets_str_split_cannot_occur z y t t2 c1) (fin [(z, t)] _ (if_pos c1).symm)
 | false =>
  have n1 := ne_true_of_eq_false c1
  cases c2 : (Builtin.Str.occurrences z y 0 z.length (z.length + 1)).isEmpty with
  | true => exact call_meets F.slot_str_split (typeIs_str _ _ _) F.entry_str_split (F.args_str_split_2 _ _) (meets_str_split_not_found z y t t2 c1 hy' c2) (fin [(z, t)] _ ((if_neg n1).trans (if_pos c2)).symm)
  | false =>
   have hp : (Builtin.Str.partsBetween z (Builtin.Str.occurrences z y 0 z.length (z.length + 1)) y.length).length <= sizeLine := by
    have e : Txt.split z y = Builtin.Str.partsBetween z (Builtin.Str.occurrences z y 0 z.length (z.length + 1)) y.length := (if_neg n1).trans (if_neg (ne_true_of_eq_false c2))
    rw [<- e]
    exact hl
   refine call_meets F.slot_str_split (typeIs_str _ _ _) F.entry_str_split (F.args_str_split_2 _ _) (meets_str_split_sep z y t t2 c1 hy' c2 hz' hp) ?_
   have := fin (numbered s.toks (Builtin.Str.partsBetween z (Builtin.Str.occurrences z y 0 z.length (z.length + 1)) y.length)) (s.toks + (Builtin.Str.partsBetween z (Builtin.Str.occurrences z y 0 z.length (z.length + 1)) y.length).length) ((numbered_texts _ _).trans ((if_neg n1).trans (if_neg (ne_true_of_eq_false c2))).symm)
   rw [<- strsFrom_eq] at this
   exact this
theorem call_intS : CallR X (.type "int") (fun xs H Q => ∃ (z : Str) (n : Int), xs = [.str z] /\ PySem.intText? z = some n /\ z.length <= 640 /\ Q (.int n) H) := by
 intro pins s σ H xs us Q I r h
 obtain ⟨z, n, rfl, e, hl, q⟩ := h
 obtain ⟨u, rfl, ru⟩ := vals1 r
 obtain ⟨t, rfl⟩ := (show ∃ t, u = Value.str z t from ru)
 exact PySem.W.KIN.call_text e hl ⟨.int n, H, I.tok _, ⟨_, rfl⟩, q⟩
theorem pe_globS {x : Str} {z : Str} {pos : Pos} (hg : Gl X x) (hm : ∃ t, X.mg x = some (.str z t)) (hd : (x == ("__debug__" : Str)) = false := by decide) : PE X (.Name x pos) (tC (.str z)) := by
 obtain ⟨t, h⟩ := hm
 exact pe_glob hg h ⟨t, rfl⟩ hd
end
def Itx (z : Str) : It := ⟨fun i _ => i < z.cps.size, fun i H x H' => H' = H /\ ∃ c, z.cps[i]? = some c /\ x = .str ⟨#[c]⟩, fun i _ => i = z.cps.size⟩
theorem turn_str {P : Program} {w : World} {K : PySem.W.Frag} {tg : Expr} (it : Addr) (z : Str) (t : Tok) (n : String) (hn : ["enumerate", "zip", "dict_itemiterator", "dict_reverseitemiterator", "odict_iterator", "itertools.zip_longest", "itertools.pairwise"].contains n = false)
  (W : ∀ A : Around, A.handled = none -> Walks P w A it [it] [it] z.cps.size (SignAt z) (fun i h => h.IsStrIter it n z t i))
  (S : ∀ (A : Around) (i : Nat) (s : Shared) (Q : Value -> Shared -> Prop) (E : Value -> Shared -> Prop), s.heap.IsStrIter it n z t i -> Q (.ref it) s -> wpAny (model P w) A (pyIter (.ref it)) Q E s) : Turn P w K tg (Itx z) [it] it (fun i h => h.IsStrIter it n z t i) where
 mem := by simp
 obj := fun i h st b hb => by
  have e : b = it := by simpa using hb
  subst e
  obtain ⟨o, ho, hc, hd⟩ := st
  exact ⟨o, ho, fun v z' => by rw [hd] at z'; cases z'⟩
 keep := fun i h h' st k => by
  obtain ⟨o, ho, r⟩ := st
  exact ⟨o, k it (by simp) o ho, r⟩
 item := by
  intro X hP hw hK hc i pins s σ H E I hf st hg
  subst hP hw hK
  obtain ⟨f0, f1, f2, f3, f4, f5⟩ := hf it (by simp)
  refine (W X.A (I.ok.hd hc)).item i s _ _ hg st fun v h' tk hv st' kk => ?_
  obtain ⟨c, u, hcx, rfl⟩ := hv
  have I1 : Inv X pins σ H { s with heap := h', toks := tk } := I.turned (fun b o hb e => kk b o (by simpa using hb) e) f0 f1 f3 f4 f5
  obtain ⟨o, ho, hcl, hd⟩ := id st'
  exact ⟨_, rfl, go_of (s := { s with heap := h', toks := tk }) ho hcl hd hn ⟨.str ⟨#[c]⟩, H, I1, ⟨u, rfl⟩, ⟨rfl, c, hcx, rfl⟩, st', fun b hb => (hf b hb).1⟩⟩
 done := by
  intro X hP hw hK hc i pins s σ H E I hf st hg
  subst hP hw hK
  obtain ⟨f0, f1, f2, f3, f4, f5⟩ := hf it (by simp)
  cases (show i = z.cps.size from hg)
  exact (W X.A (I.ok.hd hc)).done s _ _ st fun h' tk kk => ⟨rfl, I.turned (t' := tk) (fun b o hb e => kk b o (by simpa using hb) e) f0 f1 f3 f4 f5⟩
 self := fun A i s Q E st h => S A i s Q E st h
section
variable {X : Cx} {tg : Expr}
def iStr (tl : TE) : TI := fun σ H R => tl σ H fun x H1 => ∃ z, x = .str z /\ R (Itx z) H1
theorem pi_str {l : Expr} {tl : TE} (hl : PE X l tl) : PI X tg l (iStr tl) := by
 intro pins s σ H R I h
 refine thn (hl pins s σ H _ I h) fun v s1 ⟨x, H1, I1, r1, q1⟩ => ?_
 obtain ⟨z, rfl, q⟩ := q1
 obtain ⟨t, rfl⟩ := (show ∃ t, v = Value.str z t from r1)
 have fp : ∀ b ∈ [s1.heap.objs.size], FpOk X pins H1 b := fun b hb => by
  have e : b = s1.heap.objs.size := by simpa using hb
  subst e
  exact I1.fpOk (Nat.le_refl _) (I1.hok.fresh (Nat.le_refl _))
 cases ha : z.cps.all (· < 128)
 ·exact wpAny_pyIter_wide ha ⟨_, [s1.heap.objs.size], _, _, H1, rfl, I1.kept (t' := s1.toks) fun b o e => Heap.get?_push_of_some _ e, turn_str _ z t "str_iterator" (by decide) (fun A hA => Walks.strWide hA _ z t) (fun A i s Q E st h => wpAny_pyIter_striter_wide st h), ⟨_, Heap.get?_push_size _ rfl, rfl, rfl⟩, fp, q⟩
 ·exact wpAny_pyIter_ascii ha ⟨_, [s1.heap.objs.size], _, _, H1, rfl, I1.kept (t' := s1.toks) fun b o e => Heap.get?_push_of_some _ e, turn_str _ z t "str_ascii_iterator" (by decide) (fun A hA => Walks.strAscii hA _ z t) (fun A i s Q E st h => wpAny_pyIter_striter_ascii st h), ⟨_, Heap.get?_push_size _ rfl, rfl, rfl⟩, fp, q⟩
end
theorem go_strs {β : Type} {z : Str} {te : CA -> TE} {y : Str} {caps : List Nat} {σ : St} {H1 : Hp} {Q : VK} (R : Hp -> V -> β -> Prop) (φ : Nat -> β) (mR : Stays R) (hz : z.cps.size < sizeLine)
  (hs : ∀ (k : CA) (c : Nat) (H : Hp), c ∈ z.cps.toList -> Same H1 H -> ∀ N : VK, (∀ u H', Same H H' -> R H' u (φ c) -> N u H') -> te k (some (.str ⟨#[c]⟩) :: caps.map fun j => (σ[j]?).join) H N)
  (hd : ∀ D ys H, H1 D = none -> Same H1 H -> H D = some (.lst ys) -> Paired (R H) ys (z.cps.toList.map φ) -> Q (.ref D) H) : CompGo (Itx z) (fun _ => gName 0) (fun _ _ H Q => Q true H) te [y] caps σ H1 Q := by
 intro D hD k
 refine ⟨fun i m ys τ H => m = z.cps.size - i /\ i <= z.cps.size /\ H1 D = none /\ Same H1 H /\ H D = some (.lst ys) /\ Paired (R H) ys ((z.cps.toList.take i).map φ) /\ ∃ v, τ = v :: caps.map fun j => (σ[j]?).join, ⟨z.cps.size, by simp, Nat.zero_le _, hD, Same.new hD _, upd_same, .nil, none, rfl⟩, ?_⟩
 rintro i m ys τ H ⟨rfl, hi, _, s, d, p, v, rfl⟩
 have hl : ys.length <= i := by
  rw [Paired.length p, List.length_map, List.length_take]
  omega
 refine ⟨d, by omega, ?_⟩
 by_cases hlt : i < z.cps.size
 ·refine .inr ⟨hlt, fun ys τ H => i + 1 <= z.cps.size /\ H1 D = none /\ Same H1 H /\ H D = some (.lst ys) /\ Paired (R H) ys ((z.cps.toList.take (i + 1)).map φ) /\ ∃ v, τ = v :: caps.map fun j => (σ[j]?).join, fun ys' τ' H' ⟨a, b⟩ => ⟨z.cps.size - (i + 1), by omega, rfl, a, b⟩, fun x H' yl => ?_⟩
  obtain ⟨rfl, c, hc, rfl⟩ := yl
  have hc' : z.cps.toList[i]? = some c := by rw [Array.getElem?_toList]; exact hc
  refine gName_i ?_
  show if true = true then _ else _
  rw [if_pos rfl]
  refine hs k c _ (List.mem_of_getElem? hc') s _ fun u H2 s2 r => ?_
  have d2 := s2 _ _ d
  refine ⟨d2, hlt, hD, (s.trans s2).at hD _, upd_same, ?_, _, rfl⟩
  have t : TupS H2 (upd H2 D (.lst (ys ++ [u]))) := TupS.upd d2 rfl
  rw [takeS hc', List.map_append]
  exact paired_append (.cons (mR _ _ _ _ t r) .nil) (Paired.mapP p fun _ _ z => mR _ _ _ _ ((TupS.of s2).trans t) z)
 ·have e : i = z.cps.size := by omega
  subst e
  rw [List.take_of_length_le (by simp)] at p
  exact .inl ⟨rfl, hd D ys H hD s d p⟩
end L2
set_option Elab.async false
set_option linter.all false
set_option maxRecDepth 100000
set_option maxHeartbeats 4000000
namespace L2
open PySem PySem.Spec PyProof.Rows
abbrev num (n : Int) : Str := Str.ofString (toString n)
theorem num_cps {n : Int} (h : 0 <= n) : (num n).cps.toList = (Nat.toDigits 10 n.toNat).map Char.toNat := by
 obtain ⟨m, rfl⟩ := Int.eq_ofNat_of_zero_le h
 exact W.KIN.signs_num m
theorem num_digits {n : Int} (h : 0 <= n) : NumText.AllDigits (num n).cps.toList := by
 intro c hc
 rw [num_cps h] at hc
 obtain ⟨x, hx, rfl⟩ := List.mem_map.mp hc
 have := Nat.isDigit_of_mem_toDigits (by decide) (by decide) hx
 simp only [Char.isDigit, Bool.and_eq_true, decide_eq_true_eq] at this
 exact ⟨this.1, this.2⟩
theorem num_ne {n : Int} (h : 0 <= n) : (num n).cps.toList ≠ [] := by
 rw [num_cps h]
 simpa using Nat.toDigits_ne_nil
theorem num_len0 {n : Int} (h : 0 <= n) : (num n).length = (Nat.toDigits 10 n.toNat).length := by
 show (num n).cps.size = _
 rw [<- Array.length_toList, num_cps h, List.length_map]
theorem num_len {n : Int} (h : 0 <= n) (h' : n < 10 ^ 40) : (num n).length <= 40 := by
 rw [num_len0 h]
 exact (Nat.length_toDigits_le_iff (by decide) (by decide)).mpr (by omega)
theorem num_val {n : Int} (h : 0 <= n) : (NumText.digitsVal (num n).cps.toList : Int) = n := by
 rw [num_cps h, W.KIN.val_back]
 omega
theorem num_read {n : Int} (h : 0 <= n) (h' : n < 10 ^ 40) : intText? (num n) = some n := by
 rw [intText_digits (num_digits h) (num_ne h) (Nat.le_trans (num_len h h') (by decide)), num_val h]
theorem digitsVal_lt : ∀ (cs : List Nat) (a : Nat), NumText.AllDigits cs -> cs.foldl (fun acc c => acc * 10 + (c - 48)) a < (a + 1) * 10 ^ cs.length
 | [], a, _ => by simp
 | c :: cs, a, h => by
  have hc := h c List.mem_cons_self
  have := digitsVal_lt cs (a * 10 + (c - 48)) fun x hx => h x (List.mem_cons_of_mem _ hx)
  refine Nat.lt_of_lt_of_le this ?_
  rw [List.length_cons, Nat.pow_succ, Nat.mul_comm (10 ^ _) 10, <- Nat.mul_assoc]
  exact Nat.mul_le_mul_right _ (by omega)
theorem num_head {n : Int} (h : 0 <= n) (e : (num n).cps.toList[0]? = some 48) : num n = "0" := by
 have d := num_digits h
 have v := num_val h
 have l : (num n).cps.toList.length = (Nat.toDigits 10 n.toNat).length := by rw [num_cps h, List.length_map]
 cases hc : (num n).cps.toList with
 | nil => exact absurd hc (num_ne h)
 | cons c cs =>
  rw [hc] at e d v l
  have e' : c = 48 := by simpa using e
  subst e'
  have b := digitsVal_lt cs 0 fun x hx => d x (List.mem_cons_of_mem _ hx)
  have v' : NumText.digitsVal (48 :: cs) = cs.foldl (fun acc c => acc * 10 + (c - 48)) 0 := rfl
  rw [v'] at v
  by_cases hz : cs = []
  ·subst hz
   have : num n = ⟨#[48]⟩ := by
    show (⟨(num n).cps⟩ : Str) = _
    rw [<- Array.toArray_toList (xs := (num n).cps), hc]
   rw [this]
   decide
  ·exfalso
   have hp : 0 < cs.length := List.length_pos_iff.mpr hz
   have : (Nat.toDigits 10 n.toNat).length <= cs.length := (Nat.length_toDigits_le_iff (by decide) hp).mpr (by simp at b; omega)
   rw [<- l] at this
   simp at this
   omega
def jn (c : Nat) : List (List Nat) -> List Nat
 | [] => []
 | [a] => a
 | a :: b :: r => a ++ c :: jn c (b :: r)
theorem cut_inj {c : Nat} {s t : List Nat} : ∀ {a b : List Nat}, c ∉ a -> c ∉ b -> a ++ c :: s = b ++ c :: t -> a = b /\ s = t
 | [], [], _, _, h => by simpa using h
 | [], x :: b, _, h, e => by
  rw [List.nil_append, List.cons_append] at e
  injection e with e1 e2
  subst e1
  exact absurd List.mem_cons_self h
 | x :: a, [], h, _, e => by
  rw [List.nil_append, List.cons_append] at e
  injection e with e1 e2
  subst e1
  exact absurd List.mem_cons_self h
 | x :: a, y :: b, ha, hb, e => by
  rw [List.cons_append, List.cons_append] at e
  injection e with e1 e2
  obtain ⟨h1, h2⟩ := cut_inj (fun z => ha (List.mem_cons_of_mem _ z)) (fun z => hb (List.mem_cons_of_mem _ z)) e2
  exact ⟨by rw [e1, h1], h2⟩
theorem jn_inj {c : Nat} : ∀ {as bs : List (List Nat)}, as ≠ [] -> bs ≠ [] -> (∀ a ∈ as, c ∉ a) -> (∀ b ∈ bs, c ∉ b) -> jn c as = jn c bs -> as = bs
 | [], _, h, _, _, _, _ => absurd rfl h
 | _, [], _, h, _, _, _ => absurd rfl h
 | [a], [b], _, _, _, _, e => by rw [show a = b from e]
 | [a], b :: b' :: r, _, _, h, _, e => by
  have : c ∈ a := by
   rw [show a = b ++ c :: jn c (b' :: r) from e]
   exact List.mem_append_right _ List.mem_cons_self
  exact absurd this (h a List.mem_cons_self)
 | a :: a' :: r, [b], _, _, _, h, e => by
  have : c ∈ b := by
   rw [<- show a ++ c :: jn c (a' :: r) = b from e]
   exact List.mem_append_right _ List.mem_cons_self
  exact absurd this (h b List.mem_cons_self)
 | a :: a' :: r, b :: b' :: q, _, _, ha, hb, e => by
  obtain ⟨h1, h2⟩ := cut_inj (ha a List.mem_cons_self) (hb b List.mem_cons_self) (show a ++ c :: jn c (a' :: r) = b ++ c :: jn c (b' :: q) from e)
  rw [h1, jn_inj (by simp) (by simp) (fun x hx => ha x (List.mem_cons_of_mem _ hx)) (fun x hx => hb x (List.mem_cons_of_mem _ hx)) h2]
theorem join_jn (c : Nat) : ∀ zs : List Str, ((⟨#[c]⟩ : Str).join zs).cps.toList = jn c (zs.map fun z => z.cps.toList)
 | [] => rfl
 | [z] => rfl
 | z :: y :: r => by
  show ((z ++ (⟨#[c]⟩ : Str)) ++ (⟨#[c]⟩ : Str).join (y :: r)).cps.toList = _
  rw [Str.cps_append, Str.cps_append, Array.toList_append, Array.toList_append, join_jn c (y :: r)]
  simp [jn]
theorem tjoin_jn (c : Nat) (zs : List Str) : (Txt.join ⟨#[c]⟩ zs).cps.toList = jn c (zs.map fun z => z.cps.toList) := by
 show (Builtin.Str.glued _ _).cps.toList = _
 rw [StrLaws.glued_eq_join]
 exact join_jn c zs
theorem cps_inj : ∀ {zs ys : List Str}, (zs.map fun z => z.cps.toList) = (ys.map fun z => z.cps.toList) -> zs = ys
 | [], [], _ => rfl
 | [], y :: ys, h => by cases h
 | z :: zs, [], h => by cases h
 | ⟨⟨z⟩⟩ :: zs, ⟨⟨y⟩⟩ :: ys, h => by
  rw [List.map_cons, List.map_cons] at h
  injection h with h1 h2
  rw [cps_inj h2]
  rw [show z = y from h1]
theorem split_join {c : Nat} {ws : List Str} (h0 : ws ≠ []) (h : ∀ w ∈ ws, c ∉ w.cps.toList) : Txt.split (Txt.join ⟨#[c]⟩ ws) ⟨#[c]⟩ = ws := by
 apply cps_inj
 refine jn_inj ?_ (by simpa using h0) ?_ ?_ ?_ (c := c)
 ·have := split_pos (Txt.join ⟨#[c]⟩ ws) ⟨#[c]⟩
  intro e
  have : (Txt.split (Txt.join ⟨#[c]⟩ ws) ⟨#[c]⟩).length = 0 := by
   rw [List.map_eq_nil_iff] at e
   rw [e]
   rfl
  omega
 ·intro a ha
  obtain ⟨p, hp, rfl⟩ := List.mem_map.mp ha
  exact StrLaws.split_free _ _ _ hp
 ·intro a ha
  obtain ⟨p, hp, rfl⟩ := List.mem_map.mp ha
  exact h p hp
 ·rw [<- join_jn, StrLaws.join_split, tjoin_jn]
theorem tjoin_len (c : Nat) (zs : List Str) : (Txt.join ⟨#[c]⟩ zs).length = (zs.map fun z => z.length).sum + (zs.length - 1) := by
 have := size_glued ⟨#[c]⟩ zs
 rw [show (⟨#[c]⟩ : Str).length = 1 from rfl, Nat.mul_one] at this
 exact this
theorem sum_len {B : Nat} : ∀ {zs : List Str}, (∀ z ∈ zs, z.length <= B) -> (zs.map fun z => z.length).sum <= zs.length * B
 | [], _ => by simp
 | z :: zs, h => by
  have h1 := h z List.mem_cons_self
  have h2 := sum_len (B := B) fun x hx => h x (List.mem_cons_of_mem z hx)
  rw [List.map_cons, List.sum_cons, List.length_cons, Nat.succ_mul]
  omega
theorem tjoin_le {c B : Nat} {zs : List Str} (h : ∀ z ∈ zs, z.length <= B) : (Txt.join ⟨#[c]⟩ zs).length <= zs.length * (B + 1) := by
 rw [tjoin_len, Nat.mul_succ]
 have := sum_len h
 omega
theorem joinOk {c B : Nat} {zs : List Str} (h : ∀ z ∈ zs, z.length <= B) (hz : zs.length * B + zs.length <= 1000000) : JoinOk ⟨#[c]⟩ zs = true := by
 unfold JoinOk
 rw [StrLaws.joinFits (B := B) h (by rw [show (⟨#[c]⟩ : Str).length = 1 from rfl, Nat.mul_one]; exact Nat.le_trans hz (by decide))]
 rfl
end L2
set_option Elab.async false
set_option linter.all false
set_option maxRecDepth 100000
set_option maxHeartbeats 4000000
namespace L2
open PySem PySem.Spec PyProof.Rows Hex
theorem log_lt {n k : Nat} (h : n < 2 ^ k) (hk : k ≠ 0) : n.log2 < k := by
 by_cases hn : n = 0
 ·subst hn
  rw [show Nat.log2 0 = 0 from rfl]
  omega
 ·exact (Nat.log2_lt hn).mpr h
def CDivB : Int -> Int -> Prop := fun _ j => 0 < j /\ j < 2 ^ 200
section
variable {X : Cx}
theorem op_fdivB : OpR X (binaryOp .FloorDiv) (rI CDivB fun i j => .int (i / j)) := opI fun i j _ _ _ _ _ hc q => by
 have h1 : (0 : Int) < j := hc.1
 have h2 : j < 2 ^ 200 := hc.2
 have h3 : j.natAbs < 2 ^ 200 := by omega
 exact floordiv_int (by omega) (by rw [Int.fdiv_eq_ediv_of_nonneg i (by omega)]; exact q) (.inl (PyProof.noPylong_of_log2 (Nat.lt_trans (log_lt h3 (by decide)) (by decide))))
end
theorem tNot_i {t : TT} {σ : St} {H : Hp} {Q : Bool -> Hp -> Prop} (h : t σ H fun c H1 => Q (!c) H1) : tNot t σ H Q := h
theorem tB_i {t : TE} {σ : St} {H : Hp} {Q : Bool -> Hp -> Prop} (h : t σ H fun x H1 => ∃ c, x = .bl c /\ Q c H1) : tB t σ H Q := h
def isS (_ : Hp) (v : V) (n : Str) : Prop := v = .str n
theorem stays_S : Stays isS := fun _ _ _ _ _ h => h
theorem isS_map : ∀ {ys : List V} {ns : List Str} {H : Hp}, Paired (isS H) ys ns -> ys = ns.map V.str
 | _, _, _, .nil => rfl
 | _, _, _, .cons r t => by rw [List.map_cons, <- isS_map t, show _ = V.str _ from r]
theorem map_isS {H : Hp} : ∀ ns : List Str, Paired (isS H) (ns.map V.str) ns
 | [] => .nil
 | _ :: r => .cons rfl (map_isS r)
theorem num_log {n : Int} (h : -10 ^ 45 < n) (h' : n < 10 ^ 45) : n.natAbs.log2 < 1920 := by
 refine log_lt (Nat.lt_of_lt_of_le (m := 10 ^ 45) ?_ (by decide)) (by decide)
 omega
end L2
namespace L2
open PySem PySem.Spec PyProof.Rows Hex
theorem num_negS (m : Nat) : (num (Int.negSucc m)).cps.toList = 45 :: (Nat.toDigits 10 (m + 1)).map Char.toNat := by
 have e : toString (Int.negSucc m) = String.ofList ('-' :: Nat.toDigits 10 (m + 1)) := by
  show "-" ++ Nat.repr (m + 1) = _
  rw [Nat.repr_eq_ofList_toDigits, String.ofList_cons]
  rfl
 unfold num
 rw [e, PySem.W.Fast.ofString_ofList]
 rfl
theorem num_neg {n : Int} (h : n < 0) : (num n).cps.toList = 45 :: (num (-n)).cps.toList := by
 obtain ⟨m, rfl⟩ := Int.eq_negSucc_of_lt_zero h
 rw [num_negS, num_cps (by omega)]
 rfl
theorem num_lenB {n : Int} (h : -10 ^ 40 < n) (h' : n < 10 ^ 40) : (num n).length <= 41 := by
 by_cases hn : 0 <= n
 ·exact Nat.le_trans (num_len hn h') (by decide)
 ·have e := num_neg (n := n) (by omega)
  have := num_len (n := -n) (by omega) (by omega)
  show (num n).cps.size <= 41
  rw [<- Array.length_toList, e, List.length_cons, Array.length_toList]
  exact Nat.succ_le_succ this
theorem num_free {n : Int} {c : Nat} (h1 : c ≠ 45) (h : c < 48 \/ 57 < c) : c ∉ (num n).cps.toList := by
 intro hc
 by_cases hn : 0 <= n
 ·have := num_digits hn c hc
  omega
 ·rw [num_neg (by omega)] at hc
  rcases List.mem_cons.mp hc with e | hc
  ·exact h1 e
  ·have := num_digits (n := -n) (by omega) c hc
   omega
theorem num_free45 {n : Int} (hn : 0 <= n) : 45 ∉ (num n).cps.toList := by
 intro hc
 have := num_digits hn 45 hc
 omega
def wd (m : Nat) (c : C) : Str := Txt.join ⟨#[m]⟩ [num c.1, num c.2]
theorem wd_cps (m : Nat) (c : C) : (wd m c).cps.toList = (num c.1).cps.toList ++ m :: (num c.2).cps.toList := tjoin_jn m [num c.1, num c.2]
theorem wd_free {m d : Nat} {c : C} (hd : d ≠ m) (h1 : d ≠ 45) (h : d < 48 \/ 57 < d) : d ∉ (wd m c).cps.toList := by
 rw [wd_cps]
 intro z
 rcases List.mem_append.mp z with z | z
 ·exact num_free h1 h z
 ·rcases List.mem_cons.mp z with z | z
  ·exact hd z
  ·exact num_free h1 h z
def small (c : C) : Prop := (-10 ^ 40 < c.1 /\ c.1 < 10 ^ 40) /\ -10 ^ 40 < c.2 /\ c.2 < 10 ^ 40
theorem wd_len {m : Nat} {c : C} (h : small c) : (wd m c).length <= 90 := by
 have h1 := num_lenB h.1.1 h.1.2
 have h2 := num_lenB h.2.1 h.2.2
 show (wd m c).cps.size <= 90
 rw [<- Array.length_toList, wd_cps, List.length_append, List.length_cons, Array.length_toList, Array.length_toList]
 have e1 : (num c.1).cps.size = (num c.1).length := rfl
 have e2 : (num c.2).cps.size = (num c.2).length := rfl
 omega
def shown (m : Nat) (cs : List C) : Str := if cs = [] then "none" else Txt.join ⟨#[32]⟩ (cs.map (wd m))
end L2
set_option Elab.async false
set_option linter.all false
set_option maxRecDepth 100000
set_option maxHeartbeats 4000000
namespace L2
open PySem PySem.Spec PyProof.Rows Hex
def rSlS : V -> Option Int -> Option Int -> Hp -> VK -> Prop := fun x lo hi H Q => ∃ z, x = .str z /\ z.length <= sizeLine /\ Q (.str (Txt.slice z lo hi)) H
theorem is_slice {h : Heap} {sl : Addr} {vl vu : Value} {lo hi : Option Int} (hs : h.IsSliceOf sl vl vu .none) (pl : IsPart vl lo) (pu : IsPart vu hi) : ∃ l u, h.IsSlice sl l u none /\ l.map (·.1) = lo /\ u.map (·.1) = hi := by
 cases pl with
 | none =>
  cases pu with
  | none => exact ⟨none, none, hs, rfl, rfl⟩
  | int j u => exact ⟨none, some (j, u), hs, rfl, rfl⟩
 | int i t =>
  cases pu with
  | none => exact ⟨some (i, t), none, hs, rfl, rfl⟩
  | int j u => exact ⟨some (i, t), some (j, u), hs, rfl, rfl⟩
section
variable {X : Cx}
theorem sl_str : SlR X rSlS := by
 intro pins s σ H x v vl vu lo hi sl Q I rx hs pl pu h
 obtain ⟨z, rfl, hz, q⟩ := h
 obtain ⟨t, rfl⟩ := (show ∃ t, v = Value.str z t from rx)
 refine ⟨"str", _, F.slot_str_getitem.lookup, typeIs_str _ _ _, ?_⟩
 obtain ⟨l, u, hl, e1, e2⟩ := is_slice hs pl pu
 refine wpAny_getItem_str_slice hl rfl ?_
 subst e1
 subst e2
 have e : Txt.slice z (l.map (·.1)) (u.map (·.1)) = if (1 == 1 && (slicePicked z l u none).length == z.length) = true then z else { cps := (List.filterMap (fun i => z.cps[i]?) (slicePicked z l u none)).toArray } := rfl
 have le := Txt.slice_le z (l.map (·.1)) (u.map (·.1))
 rw [e] at q le
 unfold sliceMade
 by_cases hc : (1 == 1 && (slicePicked z l u none).length == z.length) = true
 ·rw [if_pos hc] at q
  have hc' : ((Option.map (fun x => x.fst) (none : Option (Int × Tok))).getD 1 == 1 && (slicePicked z l u none).length == z.length) = true := hc
  rw [if_pos hc']
  exact ⟨.str z, H, I, ⟨t, rfl⟩, q⟩
 ·rw [if_neg hc] at q le
  have hc' : ¬ ((Option.map (fun x => x.fst) (none : Option (Int × Tok))).getD 1 == 1 && (slicePicked z l u none).length == z.length) = true := hc
  rw [if_neg hc']
  exact ⟨Nat.le_trans le hz, .str _, H, I.tok _, ⟨_, rfl⟩, q⟩
theorem mt_startswith : MtR X "str.startswith" (fun x ys H Q => ∃ z y, x = .str z /\ ys = [.str y] /\ Q (.bl (Txt.startswith z y)) H) := by
 intro pins s σ H x xs v us Q I rx rxs h
 obtain ⟨z, y, rfl, rfl, q⟩ := h
 obtain ⟨t, rfl⟩ := (show ∃ t, v = Value.str z t from rx)
 obtain ⟨u, rfl, ru⟩ := vals1 rxs
 obtain ⟨t2, rfl⟩ := (show ∃ t, u = Value.str y t from ru)
 exact SC.startswith ⟨.bl _, H, I, rfl, q⟩
end
theorem sw_one (c : Nat) : ∀ l : List Nat, Txt.startswith ⟨⟨l⟩⟩ ⟨#[c]⟩ = decide (l[0]? = some c)
 | [] => rfl
 | d :: r => by
  have e : ((⟨d :: r⟩ : Array Nat).extract 0 (0 + 1) == #[c]) = decide (d = c) := by
   rw [show (⟨d :: r⟩ : Array Nat).extract 0 (0 + 1) = #[d] by simp]
   by_cases h : d = c
   ·subst h; simp
   ·simp [h]
  show (decide (0 + 1 <= (d :: r).length) && ((⟨d :: r⟩ : Array Nat).extract 0 (0 + 1) == #[c])) = _
  rw [e]
  simp
theorem str_ext {x y : Str} (h : x.cps.toList = y.cps.toList) : x = y := by
 obtain ⟨⟨x⟩⟩ := x
 obtain ⟨⟨y⟩⟩ := y
 rw [show x = y from h]
end L2
set_option Elab.async false
set_option linter.all false
set_option maxRecDepth 100000
set_option maxHeartbeats 4000000
namespace L2
open PySem PySem.Spec PyProof.Rows Hex
def rpS (n : Nat) (x : Str) : Str := ⟨(List.replicate n x.cps.toList).flatten.toArray⟩
theorem fold_rep (a : Array Nat) : ∀ (n : Nat) (b : Array Nat), ((List.replicate n a).foldl (· ++ ·) b).toList = b.toList ++ (List.replicate n a.toList).flatten
 | 0, b => by simp
 | n + 1, b => by rw [List.replicate_succ, List.foldl_cons, fold_rep a n, List.replicate_succ, List.flatten_cons, Array.toList_append, List.append_assoc]
section
variable {X : Cx} {e es : Expr} {te ts : TE} {p2 pos : Pos}
theorem op_mul_str : OpR X (binaryOp .Mult) (fun x y H Q => ∃ z n, x = .str z /\ y = .int n /\ 0 < n /\ n <= 1000 /\ z.length <= 1000 /\ Q (.str (rpS n.toNat z)) H) := by
 intro pins s σ H x y v u Q I rx ry h
 obtain ⟨z, n, rfl, rfl, n0, n1, hz, q⟩ := h
 obtain ⟨t, rfl⟩ := (show ∃ t, v = Value.str z t from rx)
 obtain ⟨t', rfl⟩ := (show ∃ t, u = Value.int n t from ry)
 have hm : z.length * n.toNat <= 1000 * 1000 := Nat.mul_le_mul hz (by omega)
 refine PySem.P.mul_str ?_ ?_ ?_ ?_
 ·have e1 : decide (n < -(2 ^ 63 : Int)) = false := decide_eq_false (by omega)
  have e2 : decide (n >= 2 ^ 63) = false := decide_eq_false (by omega)
  rw [e1, e2, Bool.or_false]
 ·intro _ _ hgt
  have : (1000 : Int) <= (2 ^ 63 - 1) / n := (Int.le_ediv_iff_mul_le n0).mpr (by omega)
  omega
 ·intro _ _
  exact decide_eq_false (Nat.not_lt.mpr (Nat.le_trans hm (by decide)))
 ·rw [if_neg (by omega)]
  by_cases hc : (n == 1 || z.length == 0) = true
  ·rw [if_pos hc]
   have e : rpS n.toNat z = z := by
    apply str_ext
    show (List.replicate n.toNat z.cps.toList).flatten = _
    rcases (by simpa using hc : n = 1 \/ z.length = 0) with h | h
    ·subst h
     simp
    ·have : z.cps.toList = [] := by
      rw [<- List.length_eq_zero_iff, Array.length_toList]
      exact h
     rw [this]
     simp
   rw [e] at q
   exact ⟨.str z, H, I, ⟨t, rfl⟩, q⟩
  ·rw [if_neg hc]
   have e : (⟨(List.replicate n.toNat z.cps).foldl (· ++ ·) #[]⟩ : Str) = rpS n.toNat z := str_ext (by rw [fold_rep]; rfl)
   rw [e]
   refine ⟨?_, .str _, H, I.tok _, ⟨_, rfl⟩, q⟩
   show (List.replicate n.toNat z.cps.toList).flatten.toArray.size <= sizeLine
   rw [List.size_toArray, len_rep, Array.length_toList, Nat.mul_comm]
   exact Nat.le_trans hm (by decide)
end
end L2
set_option Elab.async false
set_option linter.all false
set_option maxRecDepth 100000
set_option maxHeartbeats 4000000
namespace L2
open PySem PySem.Spec PyProof.Rows Hex
theorem len_cps (z : Str) : z.length = z.cps.toList.length := (Array.length_toList).symm
theorem app_cps (x y : Str) : (x ++ y).cps.toList = x.cps.toList ++ y.cps.toList := Array.toList_append
theorem sl_from {z : Str} {k : Int} (h0 : 0 <= k) (h : k <= z.length) : (Txt.slice z (some k) none).cps.toList = z.cps.toList.drop k.toNat := by
 rw [slice_from_eq h0 h rfl]
 show List.take _ (List.drop _ _) = _
 rw [List.take_of_length_le]
 rw [List.length_drop, <- len_cps]
 omega
theorem sl_to {z : Str} {k : Int} (h0 : 0 <= k) (h : k <= z.length) : (Txt.slice z none (some k)).cps.toList = z.cps.toList.take k.toNat := by
 rw [eq_of_beq (slice_closes_toL h0 h)]
 show List.take _ (List.drop 0 _) = _
 rw [List.drop_zero, Int.sub_zero]
theorem rp_len (n : Nat) (z : Str) : (rpS n z).length = n * z.length := by
 show (List.replicate n z.cps.toList).flatten.toArray.size = _
 rw [List.size_toArray, len_rep, <- len_cps]
end L2
set_option Elab.async false
set_option linter.all false
set_option maxRecDepth 100000
set_option maxHeartbeats 4000000
namespace L2
open PySem PySem.Spec PyProof.Rows
def lessH (h : Heap) (S : Addr -> Bool) : Heap := ⟨h.objs.mapIdx fun i o => if S i then { cls := Value.none, data := Data.freed } else o, h.life⟩
theorem lessH_in {h : Heap} {S : Addr -> Bool} {a : Addr} (hS : S a = true) : (lessH h S).get? a = none := by
 unfold lessH Heap.get?
 simp only [Array.getElem?_mapIdx]
 cases e : h.objs[a]? with
 | none => rfl
 | some o => simp [hS]
theorem lessH_out {h : Heap} {S : Addr -> Bool} {a : Addr} (hS : S a = false) : (lessH h S).get? a = h.get? a := by
 unfold lessH Heap.get?
 simp only [Array.getElem?_mapIdx]
 cases e : h.objs[a]? with
 | none => rfl
 | some o => simp [hS]
theorem frames_base {h base B : Heap} : ∀ {l : List Env}, h.FunFrames base l -> (∀ L ∈ frs l, B.get? L = none) -> h.FunFrames B l
 | [], _, _ => trivial
 | env :: l, ⟨hk, ⟨L, o, hf, hn, ho, hd⟩, hr⟩, hB => by
  refine ⟨hk, ⟨L, o, hf, hB L ?_, ho, hd⟩, frames_base hr fun L' hL' => hB L' ?_⟩
  ·unfold frs
   rw [List.filterMap_cons, hf]
   exact List.mem_cons_self
  ·unfold frs at hL' ⊢
   rw [List.filterMap_cons, hf]
   exact List.mem_cons_of_mem _ hL'
structure Fl (h₀ h : Heap) (H : Hp) (a C : Addr) : Prop where
 new : h₀.get? a = none
 off : H a = none
 obj : ∃ oe vs a0, h.get? a = some oe /\ oe.cls = .ref C /\ oe.data = .fields vs /\ vs[0]? = some a0 /\ (vs[1]? = some .none \/
  ∃ T oT ts fl, vs[1]? = some (.ref T) /\ T ≠ a /\ h₀.get? T = none /\ H T = none /\ h.get? T = some oT /\ oT.data = .fields ts /\ ts[3]? = some fl)
def CXr (P : Program) (w : World) (C : Addr) : CXT := fun outer H s E e s' =>
 ∃ a H', e = .ref a /\ s'.os = s.os /\ AllBare s'.gens /\ Un (frs outer) [] H H' s.heap s'.heap /\ HOk P w H' s'.heap /\ Fl s.heap s'.heap H' a C /\ E (.ref C) none H'
structure Catches (X : Cx) (h₀ : Heap) (C : Addr) (E : St -> XK) : Prop where
 old : ∀ (pins : List (Addr × Obj)) (σ : St) (H : Hp) (s : Shared), Inv X pins σ H s -> ∀ b o, h₀.get? b = some o -> ∃ o', s.heap.get? b = some o'
 go : ∀ (pins : List (Addr × Obj)) (σ : St) (H : Hp) (s : Shared) (a : Addr), Inv X pins σ H s -> Fl h₀ s.heap H a C -> E σ (.ref C) none H -> X.xe (.ref a) s
theorem Fl.older {h₀ h₁ h : Heap} {H : Hp} {a C : Addr} (f : Fl h₁ h H a C) (k : ∀ b o, h₀.get? b = some o -> ∃ o', h₁.get? b = some o') : Fl h₀ h H a C := by
 have back : ∀ b, h₁.get? b = none -> h₀.get? b = none := fun b hb => by
  cases e : h₀.get? b with
  | none => rfl
  | some o =>
   obtain ⟨o', h'⟩ := k b o e
   rw [hb] at h'
   cases h'
 obtain ⟨oe, vs, a0, h1, h2, h3, h4, h5⟩ := f.obj
 refine ⟨back _ f.new, f.off, oe, vs, a0, h1, h2, h3, h4, h5.imp id ?_⟩
 rintro ⟨T, oT, ts, fl, t1, t2, t3, t4⟩
 exact ⟨T, oT, ts, fl, t1, t2, back _ t3, t4⟩
theorem run_fnX {X : Cx} {h₀ : Heap} {C f : Addr} {E : St -> XK} {k : Nat} {fd : FuncData} {ps : List Str} {sp : Sp} {pins : List (Addr × Obj)} {σ : St} {H : Hp} {s : Shared} {Q : VK} {us : List Value} {vs : List V} (hc : Catches X h₀ C E) (F : FnOk X.prog X.w X.K X.mg X.base (CXr X.prog X.w C) k f fd ps sp) (hr : Room k X.A) (hb : Binds X.K fd ps [])
  (I : Inv X pins σ H s) (r : Vals vs us) (h : sp (vs ++ []) H Q (E σ)) : wpAny (model X.prog X.w) X.A (call (.ref f) us) (EP X pins σ Q) X.xe s := by
 have r2 : Vals (vs ++ []) (us ++ []) := r.append .nil
 have hl : (us ++ []).length = ps.length := by rw [<- r2.length]; exact F.len _ _ _ _ h
 refine wpAny_call (codeAny_mono (F.run X.A X.stack s H ⟨us, []⟩ (us ++ []) (vs ++ []) Q (E σ) hr I.env0 (hb s us I.kIn hl) r2 h) fun r s' hq => ?_)
 cases r with
 | error e =>
  obtain ⟨a, H', rfl, os, bare, un, hok, fl, q⟩ := hq
  obtain ⟨hh, g, d, t, os'⟩ := s'
  obtain rfl : os' = s.os := os
  exact hc.go pins σ H' _ a (I.call (h' := hh) (g' := g) (d' := d) (t' := t) (ch := []) un hok bare (fun b z => absurd z (by simp))) (fl.older (hc.old pins σ H s I)) q
 | ok fl =>
  cases fl with
  | ret u => exact I.after hq
  | next => exact False.elim hq
  | brk => exact False.elim hq
  | cont => exact False.elim hq
theorem frames_keep {h h' base : Heap} : ∀ {l : List Env}, h.FunFrames base l -> (∀ L ∈ frs l, ∀ o, h.get? L = some o -> h'.get? L = some o) -> h'.FunFrames base l
 | [], _, _ => trivial
 | env :: l, ⟨hk, ⟨L, o, hf, hn, ho, hd⟩, hr⟩, hB => by
  refine ⟨hk, ⟨L, o, hf, hn, hB L ?_ o ho, hd⟩, frames_keep hr fun L' hL' => hB L' ?_⟩
  ·unfold frs
   rw [List.filterMap_cons, hf]
   exact List.mem_cons_self
  ·unfold frs at hL' ⊢
   rw [List.filterMap_cons, hf]
   exact List.mem_cons_of_mem _ hL'
theorem noteFrame_any {M : Model} {A : Around} {E' : Value -> Shared -> Prop} {s : Shared} {base : Heap} {env : Env} {outer : List Env} {L e : Addr} {cls a0 fl : Value} {Q : Unit -> Shared -> Prop}
  (hf : A.frames = some (env :: outer)) (hF : s.heap.FunFrames base (env :: outer)) (hL : env.frame = some L) (tr : s.heap.TracedAtW base e cls a0 fl) (st : base.StaysIn s.heap) (hn : base.get? e = none)
  (q : ∀ h', base.NotedW (env :: outer) e cls a0 (rawInt ↑L) s.heap h' -> Q () { s with heap := h' }) : wpAny M A (noteFrame (.ref e) env) Q E' s := by
 obtain ⟨oe, vs, T, oT, ts, h1, ⟨h2, h3⟩, h4, h5, h6, h7, h8, h9, h10⟩ := id tr
 unfold noteFrame
 rw [hL]
 dsimp only
 refine wpAny_bind (wpAny_field h1 h4 h5 ?_)
 rw [if_pos (by rfl)]
 refine wpAny_bind (wpAny_field h8 h9 h10 ?_)
 by_cases hfl : (fl == rawInt ↑L) = true
 ·rw [if_pos hfl]
  refine wpAny_pure (q s.heap ⟨st, hF, ?_, fun b o eb _ => ⟨o.slots, eb⟩⟩)
  rw [<- eq_of_beq hfl]
  exact tr
 ·rw [if_neg hfl]
  have hsz : 3 < ts.size := by
   rcases Nat.lt_or_ge 3 ts.size with h | h
   ·exact h
   ·rw [Array.getElem?_eq_none h] at h10; cases h10
  refine wpAny_bind (wpAny_setField h8 h9 hsz ?_)
  have sb := Heap.SameBut.update s.heap T (Obj.mapFields fun x => x.setIfInBounds 3 Value.none)
  have keep : ∀ b o, b ≠ T -> s.heap.get? b = some o -> (s.heap.update T (Obj.mapFields fun x => x.setIfInBounds 3 Value.none)).get? b = some o := fun b o hb eb => (sb.2 b hb).trans eb
  have nT : T ∉ frs (env :: outer) := fun hb => by
   obtain ⟨_, o', ho', hd'⟩ := hF.mem hb
   rw [h8] at ho'
   cases ho'
   exact hd' _ h9
  have hv : 1 < vs.size := by
   rcases Nat.lt_or_ge 1 vs.size with h | h
   ·exact h
   ·rw [Array.getElem?_eq_none h] at h5; cases h5
  refine wpAny_entryW (base := base) (a0 := a0) hf (frames_keep hF fun b hb o eb => keep b o (fun z => nT (z ▸ hb)) eb) hL (keep e oe (fun z => h7 z.symm) h1) (fun b o eb => keep b o (fun z => by rw [z, h6] at eb; cases eb) (st b o eb)) hn h4 hv h3 fun h' nw => ?_
  obtain ⟨n1, n2, n3, n4⟩ := nw
  rw [h2] at n3
  exact q h' ⟨n1, n2, n3, fun b o eb hd => n4 b o (keep b o (fun z => by rw [z, h8] at eb; cases eb; exact hd _ h9) eb) hd⟩
theorem note_set {s : Shared} {h₀ : Heap} {env : Env} {outer : List Env} {a C : Addr} {H : Hp} {base : Heap} (hF : s.heap.FunFrames base (env :: outer)) (fl : Fl h₀ s.heap H a C) :
  ∃ (S : Addr -> Bool) (oe : Obj) (vs : Array Value) (a0 : Value), s.heap.get? a = some oe /\ oe.cls = .ref C /\ oe.data = .fields vs /\ vs[0]? = some a0 /\ S a = true /\ (∀ b ∈ frs (env :: outer), S b = true) /\
   (∀ b o, s.heap.get? b = some o -> (∀ vs, o.data ≠ .fields vs) \/ H b ≠ none \/ h₀.get? b ≠ none -> b ∉ frs (env :: outer) -> S b = false) /\ (∀ b, H b ≠ none \/ h₀.get? b ≠ none -> b ∉ frs (env :: outer) -> S b = false) /\
   (vs[1]? = some .none \/ ∃ fl, s.heap.TracedAtW (lessH s.heap S) a (.ref C) a0 fl) := by
 obtain ⟨oe, vs, a0, ho, hcls, hdat, hv0, hv1⟩ := fl.obj
 rcases hv1 with hv1 | ⟨T, oT, ts, fl', t1, t2, t3, t4, t5, t6, t7⟩
 ·have key : ∀ b, H b ≠ none \/ h₀.get? b ≠ none -> b ∉ frs (env :: outer) -> decide (b = a \/ b ∈ frs (env :: outer)) = false := fun b hb hn => by
   refine decide_eq_false ?_
   rintro (rfl | h)
   ·rcases hb with hb | hb
    ·exact hb fl.off
    ·exact hb fl.new
   ·exact hn h
  refine ⟨fun b => decide (b = a \/ b ∈ frs (env :: outer)), oe, vs, a0, ho, hcls, hdat, hv0, by simp, fun b hb => by simp [hb], fun b o eb hb hn => ?_, key, .inl hv1⟩
  rcases hb with hb | hb
  ·refine decide_eq_false ?_
   rintro (rfl | h)
   ·rw [ho] at eb; cases eb; exact hb _ hdat
   ·exact hn h
  ·exact key b hb hn
 ·have key : ∀ b, H b ≠ none \/ h₀.get? b ≠ none -> b ∉ frs (env :: outer) -> decide (b = a \/ b = T \/ b ∈ frs (env :: outer)) = false := fun b hb hn => by
   refine decide_eq_false ?_
   rintro (rfl | rfl | h)
   ·rcases hb with hb | hb
    ·exact hb fl.off
    ·exact hb fl.new
   ·rcases hb with hb | hb
    ·exact hb t4
    ·exact hb t3
   ·exact hn h
  refine ⟨fun b => decide (b = a \/ b = T \/ b ∈ frs (env :: outer)), oe, vs, a0, ho, hcls, hdat, hv0, by simp, fun b hb => by simp [hb], fun b o eb hb hn => ?_, key, .inr ⟨fl', oe, vs, T, oT, ts, ho, ⟨hcls, hv0⟩, hdat, t1, lessH_in (by simp), t2, t5, t6, t7⟩⟩
  rcases hb with hb | hb
  ·refine decide_eq_false ?_
   rintro (rfl | rfl | h)
   ·rw [ho] at eb; cases eb; exact hb _ hdat
   ·rw [t5] at eb; cases eb; exact hb _ t6
   ·exact hn h
  ·exact key b hb hn
structure Noted (h₀ h h' : Heap) (H : Hp) (a C : Addr) (l : List Env) : Prop where
 keep : ∀ b o, h.get? b = some o -> (∀ vs, o.data ≠ .fields vs) \/ H b ≠ none \/ h₀.get? b ≠ none -> b ∉ frs l -> h'.get? b = some o
 slot : ∀ b o, b ∈ frs l -> h.get? b = some o -> ∃ sl, h'.get? b = some { cls := o.cls, dict := o.dict, data := o.data, slots := sl }
 fl : Fl h₀ h' H a C
 tr : ∃ oe vs T, h'.get? a = some oe /\ oe.data = .fields vs /\ vs[1]? = some (.ref T)
theorem noted_of {h₀ h h' : Heap} {H : Hp} {a C : Addr} {env : Env} {outer : List Env} {base : Heap} {S : Addr -> Bool} {a0 fl' : Value} (fl : Fl h₀ h H a C) (hF : h.FunFrames base (env :: outer))
  (hSo : ∀ b o, h.get? b = some o -> (∀ vs, o.data ≠ .fields vs) \/ H b ≠ none \/ h₀.get? b ≠ none -> b ∉ frs (env :: outer) -> S b = false) (hSk : ∀ b, H b ≠ none \/ h₀.get? b ≠ none -> b ∉ frs (env :: outer) -> S b = false)
  (k0 : ∀ b o, h₀.get? b = some o -> ∃ o', h.get? b = some o') (kH : ∀ b o, H b = some o -> ∃ o', h.get? b = some o')
  (w : (lessH h S).NotedW (env :: outer) a (.ref C) a0 fl' h h') : Noted h₀ h h' H a C (env :: outer) := by
 obtain ⟨st, fr, ⟨oe', vs', T', oT', ts', u1, ⟨u2, u3⟩, u4, u5, u6, u7, u8, u9, u10⟩, sl⟩ := w
 have nf : T' ∉ frs (env :: outer) := fun hb => by
  obtain ⟨_, o', ho', hd'⟩ := fr.mem hb
  rw [u8] at ho'
  cases ho'
  exact hd' _ u9
 refine ⟨fun b o e hb hn => st b o (by rw [lessH_out (hSo b o e hb hn)]; exact e), fun b o hb e => ?_, ⟨fl.new, fl.off, oe', vs', a0, u1, u2, u4, u3, .inr ⟨T', oT', ts', _, u5, u7, ?_, ?_, u8, u9, u10⟩⟩, ⟨oe', vs', T', u1, u4, u5⟩⟩
 ·obtain ⟨_, o', ho', hd'⟩ := hF.mem hb
  rw [e] at ho'
  cases ho'
  exact sl b o e hd'
 ·cases e0 : h₀.get? T' with
  | none => rfl
  | some o =>
   obtain ⟨o', h'⟩ := k0 T' o e0
   have := hSk T' (.inr (by rw [e0]; exact fun z => nomatch z)) nf
   rw [lessH_out this, h'] at u6
   cases u6
 ·cases e0 : H T' with
  | none => rfl
  | some o =>
   have := hSk T' (.inl (by rw [e0]; exact fun z => nomatch z)) nf
   obtain ⟨o', h'⟩ := kH T' o e0
   rw [lessH_out this, h'] at u6
   cases u6
section
variable {M : Model} {A : Around} {E' : Value -> Shared -> Prop} {s : Shared} {base h₀ : Heap} {env : Env} {outer : List Env} {L a C : Addr} {H : Hp} {Q : Unit -> Shared -> Prop}
theorem note_exc (hf : A.frames = some (env :: outer)) (hF : s.heap.FunFrames base (env :: outer)) (hL : env.frame = some L) (fl : Fl h₀ s.heap H a C)
  (k0 : ∀ b o, h₀.get? b = some o -> ∃ o', s.heap.get? b = some o') (kH : ∀ b o, H b = some o -> ∃ o', s.heap.get? b = some o')
  (q : ∀ h', Noted h₀ s.heap h' H a C (env :: outer) -> Q () { s with heap := h' }) : wpAny M A (noteFrame (.ref a) env) Q E' s := by
 obtain ⟨S, oe, vs, a0, ho, hcls, hdat, hv0, hSa, hSf, hSo, hSk, hTr⟩ := note_set hF fl
 have hB : s.heap.FunFrames (lessH s.heap S) (env :: outer) := frames_base hF fun b hb => lessH_in (hSf b hb)
 have stay : (lessH s.heap S).StaysIn s.heap := fun b o e => by
  cases hs : S b with
  | true => rw [lessH_in hs] at e; cases e
  | false => rw [lessH_out hs] at e; exact e
 rcases hTr with hv1 | ⟨fl', htr⟩
 ·unfold noteFrame
  rw [hL]
  dsimp only
  refine wpAny_bind (wpAny_field ho hdat hv1 ?_)
  rw [if_neg (by decide)]
  have hv : 1 < vs.size := by
   rcases Nat.lt_or_ge 1 vs.size with h | h
   ·exact h
   ·rw [Array.getElem?_eq_none h] at hv1; cases hv1
  refine wpAny_entryW (base := lessH s.heap S) (a0 := a0) hf hB hL ho stay (lessH_in hSa) hdat hv hv0 fun h' nw => ?_
  rw [hcls] at nw
  exact q h' (noted_of fl hF hSo hSk k0 kH nw)
 ·exact noteFrame_any hf hB hL htr stay (lessH_in hSa) fun h' nw => q h' (noted_of fl hF hSo hSk k0 kH nw)
theorem leave_exc (hf : A.frames = some (env :: outer)) (hF : s.heap.FunFrames base (env :: outer)) (hL : env.frame = some L) (fl : Fl h₀ s.heap H a C)
  (k0 : ∀ b o, h₀.get? b = some o -> ∃ o', s.heap.get? b = some o') (kH : ∀ b o, H b = some o -> ∃ o', s.heap.get? b = some o')
  (q : ∀ h', Noted h₀ s.heap h' H a C (env :: outer) -> Q () { s with heap := h' }) : wpAny M A (leaving env (.ref a)) Q E' s := by
 obtain ⟨S, oe, vs, a0, ho, hcls, hdat, hv0, hSa, hSf, hSo, hSk, hTr⟩ := note_set hF fl
 have hB : s.heap.FunFrames (lessH s.heap S) (env :: outer) := frames_base hF fun b hb => lessH_in (hSf b hb)
 have stay : (lessH s.heap S).StaysIn s.heap := fun b o e => by
  cases hs : S b with
  | true => rw [lessH_in hs] at e; cases e
  | false => rw [lessH_out hs] at e; exact e
 have fin : ∀ h', (lessH s.heap S).LeftW (env :: outer) a (.ref C) a0 s.heap h' -> Q () { s with heap := h' } := fun h' w => q h' (noted_of (fl' := .none) fl hF hSo hSk k0 kH w)
 rcases hTr with hv1 | ⟨fl', htr⟩
 ·have := wpAny_leaving_firstW (M := M) (E := E') (Q := Q) (a0 := a0) hf hB hL ho stay (lessH_in hSa) hdat hv1 hv0 (by rw [hcls]; exact fin)
  exact this
 ·unfold leaving
  refine wpAny_bind (noteFrame_any hf hB hL htr stay (lessH_in hSa) fun h1 ⟨n1, n2, n3, n4⟩ => ?_)
  refine wpAny_setFlight_noneW n1 n2 n3 fun h' m1 m2 m3 m4 => fin h' ⟨m1, m2, m3, fun b o eb hd => ?_⟩
  obtain ⟨sl, e1⟩ := n4 b o eb hd
  exact ⟨sl, m4 b _ e1 hd⟩
end
end L2
set_option Elab.async false
set_option linter.all false
set_option maxRecDepth 100000
set_option maxHeartbeats 4000000
namespace L2
open PySem PySem.Spec PyProof.Rows
theorem ObjOk.get {P : Program} {w : World} {H : Hp} {h : Heap} {a : Addr} {o : HO} (x : ObjOk P w H h a o) : ∃ u, h.get? a = some u := by
 induction o with
 | lst xs => obtain ⟨z, its, n, r, e⟩ := x; exact ⟨_, e⟩
 | tup xs => obtain ⟨z, its, r, ob, e, c⟩ := x; exact ⟨_, e⟩
 | dK kvs => obtain ⟨z, y, vs, r, ob, es, ep, e, c⟩ := x; exact ⟨_, e⟩
 | dT kvs => obtain ⟨z, y, xs, r, ob, es, ep, e, c⟩ := x; exact ⟨_, e⟩
 | set S n => obtain ⟨ob, es, ep, t, e, c⟩ := x; exact ⟨_, e⟩
 | ins C dx fs => obtain ⟨d, z, ne, e, mA, ⟨od, es, ep, e2, c⟩, r⟩ := x; exact ⟨_, e⟩
 | own y => obtain ⟨ob, e⟩ := x; exact ⟨_, e⟩
 | xd fs => obtain ⟨mA, ⟨od, es, ep, e, c⟩, r⟩ := x; exact ⟨_, e⟩
 | rng lo hi => obtain ⟨t, u, v, e⟩ := x; exact ⟨_, e⟩
 | frz ob u ih => obtain ⟨e, q⟩ := x; exact ⟨_, e⟩
 | tbl ps => exact ⟨_, x⟩
 | met f y => exact ⟨_, x⟩
 | ext φ => obtain ⟨p, ⟨o, e⟩, st⟩ := x; exact ⟨_, e⟩
theorem catches_fn {P : Program} {w : World} {K : PySem.W.Frag} {mg : Str -> Option Value} {base : Heap} {N : List Str} {qual : Str} {scope : Scope} {f C : Addr} {cd : Value} {A : Around} {outer : List Env} {s : Shared} {H : Hp} {E : XK} :
  Catches (cxOf (CXr P w C) P w K mg base N qual scope f cd A outer s H E) s.heap C (fun _ => E) := by
 have old : ∀ (pins : List (Addr × Obj)) (σ : St) (H1 : Hp) (s1 : Shared), Inv (cxOf (CXr P w C) P w K mg base N qual scope f cd A outer s H E) pins σ H1 s1 -> ∀ b o, s.heap.get? b = some o -> ∃ o', s1.heap.get? b = some o' := fun pins σ H1 s1 I b o e => I.base.there b o e (fun z => absurd (show b ∈ ([] : List Addr) from z) (by simp))
 refine ⟨old, fun pins σ H1 s1 a I fl q => ?_⟩
 have hst := I.stack
 have kH : ∀ b o, H1 b = some o -> ∃ o', s1.heap.get? b = some o' := fun b o e => (I.hok b o e).get
 refine leave_exc (h₀ := s.heap) (base := base) (env := envOfC qual scope s.heap.objs.size f cd) (outer := outer) I.ok.frames hst rfl fl (old pins σ H1 s1 I) kH fun h' nt => ?_
 have k1 : ∀ b o, s1.heap.get? b = some o -> H1 b ≠ none \/ s.heap.get? b ≠ none -> b ∉ frs (envOfC qual scope s.heap.objs.size f cd :: outer) -> h'.get? b = some o := fun b o e hb hn => nt.keep b o e (.inr hb) hn
 have k2 := nt.slot
 have fl' := nt.fl
 have frn : ∀ b ∈ frs (envOfC qual scope s.heap.objs.size f cd :: outer), H1 b = none := I.stkFree
 have un := I.base
 have frc : frs (envOfC qual scope s.heap.objs.size f cd :: outer) = s.heap.objs.size :: frs outer := rfl
 have own : ∀ b o, s.heap.get? b = some o -> b ∉ frs outer -> b ∉ frs (envOfC qual scope s.heap.objs.size f cd :: outer) := fun b o e nf hb => by
  rw [frc] at hb
  rcases List.mem_cons.mp hb with h | h
  ·exact Nat.ne_of_lt (Heap.lt_size e) h
  ·exact nf h
 have sub : ∀ b, b ∈ frs outer -> b ∈ frs (envOfC qual scope s.heap.objs.size f cd :: outer) := fun b hb => by
  rw [frc]
  exact List.mem_cons_of_mem _ hb
 refine ⟨a, H1, rfl, I.os, I.bare, ⟨fun b o e n nf nx => ?_, fun b o e n hf nx => ?_, un.free, fun b o e nx => ?_, un.tups, un.frzs, un.tbls⟩, fun b u e => ?_, fl', q⟩
 ·exact k1 b o (un.keep b o e n nf nx) (.inr (by rw [e]; exact fun z => nomatch z)) (own b o e nf)
 ·obtain ⟨sl, e1⟩ := un.slot b o e n hf nx
  obtain ⟨sl', e2⟩ := k2 b _ (sub b hf) e1
  exact ⟨sl', e2⟩
 ·obtain ⟨o', e1⟩ := un.there b o e nx
  by_cases hf : b ∈ frs outer
  ·obtain ⟨sl', e2⟩ := k2 b _ (sub b hf) e1
   exact ⟨_, e2⟩
  ·exact ⟨_, k1 b o' e1 (.inr (by rw [e]; exact fun z => nomatch z)) (own b o e hf)⟩
 ·refine (I.hok b u e).stay (fun c v hc q => ?_) (fun _ q => q) fun _ _ q => q
  have tr : H1 c ≠ none := by
   rcases hc with rfl | hc
   ·rw [e]; exact fun z => nomatch z
   ·rw [hc]; exact fun z => nomatch z
  exact k1 c v q (.inl tr) fun hf => tr (frn c hf)
theorem Fun.okX {P : Program} {w : World} {K : PySem.W.Frag} {mg : Str -> Option Value} {base : Heap} {x qual : Str} {st : Stmt} {f C : Addr} {fd : FuncData} {N ps : List Str} {k : Nat} {sp : Sp} (F : Fun K x qual st f fd) (S : FnScope N ps (defScope st)) (len : ∀ vs H Q E, sp vs H Q E -> vs.length = ps.length)
  (hbody : ∀ (cdv : Value) (A : Around) (outer : List Env) (s : Shared) (H : Hp) (vs : List V) (Q : VK) (E : XK), Room k (A.deeper (envOfC qual (defScope st) s.heap.objs.size f cdv)) -> sp vs H Q E ->
   ∃ t, PSs (cxOf (CXr P w C) P w K mg base N qual (defScope st) f cdv A outer s H E) (defBody st) t /\ t { nx := fun _ H' => Q .non H', rt := Q } (start N vs) H) : FnOk P w K mg base (CXr P w C) (k + 1) f fd ps sp := by
 obtain ⟨oc, od, kV, doc, pm, an, cdv, ct, osl, rfl, lk, hcd⟩ := F.ex
 exact fn_of lk hcd S len fun A outer s H vs Q E hr hsp => hbody cdv A outer s H vs Q E hr hsp
def FnX (P : Program) (w : World) (K : PySem.W.Frag) (mg : Str -> Option Value) (base : Heap) (C : Addr) (k : Nat) (x : Str) (ps : List Str) (sp : Sp) : Prop :=
 ∃ (f : Addr) (fd : FuncData), FnOk P w K mg base (CXr P w C) k f fd ps sp /\ Binds K fd ps [] /\ PySem.W.keepIn K (.ref f) = true /\ mg x = some (.ref f)
def tCallX (sp : Sp) (E : St -> XK) (t : TA) : TE := fun σ H Q => t σ H fun vs H1 => sp (vs ++ []) H1 Q (E σ)
section
variable {X : Cx} {h₀ : Heap} {C : Addr} {E : St -> XK} {k : Nat} {x : Str} {ps : List Str} {sp : Sp} {p pos : Pos} {e : Expr} {es : List Expr} {t : TA}
theorem pe_callX (hc : Catches X h₀ C E) (F : FnX X.prog X.w X.K X.mg X.base C k x ps sp) (hr : Room k X.A) (hg : Gl X x) (ha : PA X (e :: es) t) (hdb : (x == ("__debug__" : Str)) = false := by decide)
  (he : starEach (e :: es) X.env = (false, eval e X.env) :: starEach es X.env := by rfl) (hpl : (backTo pos (starEach es X.env)).any (·.1) = false := by rfl) :
  PE X (.Call (.Name x p) (e :: es) [] pos) (tCallX sp E t) := by
 obtain ⟨f, fd, G, b, kp, m⟩ := F
 intro pins s σ H Q I h
 refine wpAny_Call_Name_kw (ld_glob I hg m ?_ hdb)
 refine PySem.W.callWith_K (h₀ := X.base) I.ok.mod.kin kp (thn (ha pos pins s σ H _ I h) fun us s1 ⟨vs, H1, I1, r, q⟩ => ⟨I1.kIn, ?_⟩) he hpl
 exact run_fnX hc G hr b I1 r q
end
end L2
set_option Elab.async false
set_option linter.all false
set_option maxRecDepth 100000
set_option maxHeartbeats 4000000
namespace L2
open PySem PySem.Spec PyProof.Rows
abbrev bmV : List Value := [Value.type "ValueError", Value.type "Exception", Value.type "BaseException", Value.type "object"]
theorem tail_base {h : Heap} {bm : List Value} (t : OwnTail h bmV bm) : bm.contains (Value.type "BaseException") = true := by
 induction t with
 | base => decide
 | own _ _ _ _ ih =>
  rw [List.contains_cons, ih]
  exact Bool.or_true _
theorem ps_raise {X : Cx} {h₀ : Heap} {C : Addr} {E : St -> XK} {x : Str} {np cpos pos : Pos} {arg : Expr} {ta : TE} (hc : Catches X h₀ C E) (hcalm : X.calm = true) (hg : Gl X x) (hm : X.mg x = some (.ref C))
  (hx : ∀ h : Heap, X.K.In h -> OwnClsQ x C bmV "ValueError.__new__" X.mg h) (ha : PE X arg ta) (hs : starEach [arg] X.env = [(false, eval arg X.env)] := by rfl) (hd : (x == ("__debug__" : Str)) = false := by decide) :
  PS X (.Raise (some (.Call (.Name x np) [arg] [] cpos)) none pos) (fun D σ H => ta σ H fun _ H1 => E σ (.ref C) none H1) := by
 intro pins s σ H D I h
 obtain ⟨bm, N, nm, q, bs, hdct, sn, sub, ab, col, dd, k0, k1, k2, k3, k5, mN, o1, o2, o3, o4⟩ := (hx _ I.ok.mod.kin).own.obj
 refine wpAny_Raise_call_subT (nm := nm) (q := q) (N := N) (bs := bs) (hdct := hdct) (sn := sn) (sub := sub) (ab := ab) (col := col) (dd := dd) (k0 := k0) (k1 := k1) (k2 := k2) (k3 := k3) (k5 := k5) F.excBase_ValueError (tail_base o4) (I.ok.hd hcalm) (by rw [hs]; rfl) o3 (ld_glob I hg hm ⟨rfl, ?_⟩ hd)
 rw [hs]
 refine Calls.evalArgs_plain (Calls.spliced_cons (thn (ha pins s σ H _ I h) fun v s1 ⟨y, H1, I1, r1, q1⟩ => Calls.spliced_nil ⟨rfl, by show 1 <= sizeLine; decide, I1.bk _ _ o1, o2.keeps I1.bk, o4.keeps I1.bk, fun h' e made => ?_⟩))
 have I2 : Inv X pins σ H1 { s1 with heap := h' } := I1.kept (t' := s1.toks) made.keeps
 refine hc.go pins σ H1 _ e I2 ⟨?_, ?_, ?_⟩ q1
 ·cases e0 : h₀.get? e with
  | none => rfl
  | some o =>
   obtain ⟨o', h''⟩ := hc.old pins σ H1 s1 I1 e o e0
   rw [made.new] at h''
   cases h''
 ·cases e0 : H1 e with
  | none => rfl
  | some o =>
   obtain ⟨o', h''⟩ := (I1.hok e o e0).get
   rw [made.new] at h''
   cases h''
 ·obtain ⟨t, e1, _, _⟩ := made.there
  exact ⟨_, _, _, e1, rfl, rfl, rfl, .inl rfl⟩
end L2
set_option Elab.async false
set_option linter.all false
set_option maxRecDepth 100000
set_option maxHeartbeats 4000000
namespace L2
open PySem PySem.Spec PyProof.Rows
section
variable {prog : Program} {w : World} {A : Around} {R : Result -> Shared -> Prop} {s : Shared}
theorem compLoop_genX {elt target iter : Expr} {scope : Scope} {pos : Pos} {it acc : Value} {env : Env} (I : Nat -> Shared -> Prop)
  (turn : ∀ n s, I n s -> wpAny (model prog w) A (pyNext it) (fun r s₁ => match r with
   | none => R (.ok .next) s₁
   | some v => wpAny (model prog w) A (letOwnedTupleGo target it v) (fun _ s₁' => wpAny (model prog w) A (assign target env v) (fun _ s₂ =>
     wpAny (model prog w) A (eval elt env) (fun x s₄ =>
       wpAny (model prog w) A (call (.builtin "list.append") [acc, x]) (fun _ s₅ => ∃ m, m < n /\ I m s₅) (notedBy (model prog w) A env fun e s' => R (.error e) s') s₄) (notedBy (model prog w) A env fun e s' => R (.error e) s') s₂) (notedBy (model prog w) A env fun e s' => R (.error e) s') s₁') (notedBy (model prog w) A env fun e s' => R (.error e) s') s₁) (notedBy (model prog w) A env fun e s' => R (.error e) s') s)
  (n : Nat) (h : I n s) :
  codeAny (model prog w) A (.compLoop (.ListComp elt [⟨target, iter, [], 0⟩] scope pos) 0 it acc env) R s := by
 refine codeAny_loop rfl I (fun n s hI => ?_) n h
 show wpAny _ A ((compTurn (.ListComp elt [⟨target, iter, [], 0⟩] scope pos) 0 it acc env).onRaise (fun x => do noteFrame x env; theTreesLotGoes x)) _ _ s
 refine wpAny_noted ?_
 rw [compTurn_list]
 refine wpAny_bind (wpAny_standAt (wpAny_bind (wpAny_mono (turn n s hI) (fun r s₁ h₁ => ?_) fun _ _ z => z)))
 cases r with
 | none => exact wpAny_pure h₁
 | some v =>
  refine wpAny_bind (wpAny_mono h₁ (fun _ s₁' h₁ => ?_) fun _ _ z => z)
  refine wpAny_bind (wpAny_mono h₁ (fun _ s₂ h₂ => wpAny_bind ?_) fun _ _ z => z)
  rw [List.forIn_nil]
  refine wpAny_pure ?_
  exact wpAny_bind (wpAny_bind (wpAny_mono h₂ (fun x s₄ h₄ => wpAny_bind (wpAny_mono h₄ (fun _ s₅ h₅ => wpAny_pure (wpAny_pure ⟨rfl, h₅⟩)) fun _ _ z => z)) fun _ _ z => z))
end
theorem frs_old {h base : Heap} {l : List Env} (hF : h.FunFrames base l) {b : Addr} (hb : b ∈ frs l) : b < h.objs.size := by
 obtain ⟨_, o, ho, _⟩ := hF.mem hb
 exact Heap.lt_size ho
section
variable {X : Cx} {scope : Scope} {own : List Str} {caps : List Nat} {cns : List Str} {elt tg iter : Expr} {pos : Pos} {wi : TI} {g : CA -> TG} {te : CA -> TE} {C : Addr} {E : XK}
theorem catches_block {xe' : Value -> Shared -> Prop} {N' : List Str} {bc : List (Str × Addr)} {h1 : Heap} {s : Shared} {H3 : Hp} {fp : List Addr} {pins : List (Addr × Obj)} {σ : St} {P : Value -> Shared -> Prop} {acc : Value} (hc : Catches X X.s₀.heap C fun _ => E) (hex : X.ex = []) (hst : X.stack = X.env :: X.outer) (hfr : X.env.frame = some X.env.locals)
  (I3 : Inv X pins σ H3 { s with heap := h1 }) (hfp : ∀ b ∈ fp, FpOk X pins H3 b /\ b < h1.objs.size)
  (hxe : ∀ a s', wpAny (model X.prog X.w) X.A (noteFrame (.ref a) X.env) (fun _ s'' => compPost (model X.prog X.w) X.A X.xe none P acc h1.objs.size (.error (.ref a)) s'') (fun e s'' => compPost (model X.prog X.w) X.A X.xe none P acc h1.objs.size (.error e) s'') s' -> xe' (.ref a) s') :
  Catches ((cxC X scope N' ⟨bc, h1.objs.size, { s with heap := h1 }, H3, fp, X.pn ++ pins⟩).wish xe') (lessH h1 fun b => decide (b ∈ fp)) C (fun _ => E) := by
 have inl : ∀ b o, (lessH h1 fun b => decide (b ∈ fp)).get? b = some o -> b ∉ fp /\ h1.get? b = some o := fun b o e => by
  by_cases hb : b ∈ fp
  ·rw [lessH_in (by simpa using hb)] at e; cases e
  ·rw [lessH_out (by simpa using hb)] at e; exact ⟨hb, e⟩
 have old : ∀ (pins' : List (Addr × Obj)) (τ : St) (H : Hp) (s' : Shared), Inv ((cxC X scope N' ⟨bc, h1.objs.size, { s with heap := h1 }, H3, fp, X.pn ++ pins⟩).wish xe') pins' τ H s' -> ∀ b o, (lessH h1 fun b => decide (b ∈ fp)).get? b = some o -> ∃ o', s'.heap.get? b = some o' := fun pins' τ H s' J b o e =>
  J.base.there b o (inl b o e).2 (inl b o e).1
 refine ⟨old, fun pins' τ H s' a J fl q => hxe a s' ?_⟩
 have hf : X.A.frames = some (X.env :: X.outer) := by rw [<- hst]; exact I3.ok.frames
 have hF3 : h1.FunFrames X.base (X.env :: X.outer) := by rw [<- hst]; exact I3.stack
 have hF : s'.heap.FunFrames X.base (X.env :: X.outer) := by rw [<- hst]; exact J.stack
 have kH : ∀ b o, H b = some o -> ∃ o', s'.heap.get? b = some o' := fun b o e => (J.hok b o e).get
 have un : Un (frs X.stack) fp H3 H h1 s'.heap := J.base
 have hCn : H h1.objs.size = none := J.free
 refine note_exc (h₀ := lessH h1 fun b => decide (b ∈ fp)) (H := H) hf hF hfr fl (old pins' τ H s' J) kH fun h2 nt => ?_
 obtain ⟨m, ⟨oC, es, ep, hC1, hC2, hC3⟩, _⟩ := J.loc
 have hC1' : s'.heap.get? h1.objs.size = some oC := hC1
 have nC : h1.objs.size ∉ frs (X.env :: X.outer) := fun hb => Nat.lt_irrefl _ (frs_old hF3 hb)
 have hC2' : h2.get? h1.objs.size = some oC := nt.keep _ oC hC1' (.inl fun vs z => by rw [hC2] at z; cases z) nC
 refine ⟨m, ⟨oC, es, ep, hC2', hC2, hC3⟩, fun h' sb cenv _ => ?_⟩
 obtain ⟨oe, vs, a0, f1, f2, f3, f4, f5⟩ := nt.fl.obj
 have aC : a ≠ h1.objs.size := fun z => by rw [z, hC2'] at f1; cases f1; rw [hC2] at f3; cases f3
 obtain ⟨oe', vs', T, g1, g2, g3⟩ := nt.tr
 rw [f1] at g1
 cases g1
 rw [f3] at g2
 cases g2
 rcases f5 with f5 | ⟨T', oT, ts, fl', t1, t2, t3, t4, t5, t6, t7⟩
 ·rw [f5] at g3; cases g3
 rw [t1] at g3
 cases g3
 have TC : T ≠ h1.objs.size := fun z => by rw [z, hC2'] at t5; cases t5; rw [hC2] at t6; cases t6
 have f1' : h'.get? a = some oe := (sb.2 a aC).trans f1
 have t5' : h'.get? T = some oT := (sb.2 T TC).trans t5
 have hsz : 3 < ts.size := by
  rcases Nat.lt_or_ge 3 ts.size with h | h
  ·exact h
  ·rw [Array.getElem?_eq_none h] at t7; cases t7
 unfold PySem.passOn
 refine wpAny_bind (wpAny_field f1' f3 t1 ?_)
 rw [if_neg (by intro z; cases z)]
 unfold setFlight
 refine wpAny_bind (wpAny_bind (wpAny_field f1' f3 t1 ?_))
 rw [if_pos (by rfl)]
 refine wpAny_setField t5' t6 hsz ?_
 refine wpAny_throw ?_
 have sb3 := Heap.SameBut.update h' T (Obj.mapFields fun x => x.setIfInBounds 3 (cenv.frame.elim Value.none fun f => rawInt ↑f))
 generalize hh3 : h'.update T (Obj.mapFields fun x => x.setIfInBounds 3 (cenv.frame.elim Value.none fun f => rawInt ↑f)) = h3 at sb3 ⊢
 have hT3 : h3.get? T = some (Obj.mapFields (fun x => x.setIfInBounds 3 (cenv.frame.elim Value.none fun f => rawInt ↑f)) oT) := by
  rw [<- hh3]
  exact Heap.get?_update_self _ t5' (Obj.isFreed_of_fields (Obj.data_mapFields t6 _))
 have go : ∀ b o, b ≠ h1.objs.size -> b ≠ T -> h2.get? b = some o -> h3.get? b = some o := fun b o n1 n2 e => (sb3.2 b n2).trans ((sb.2 b n1).trans e)
 have frT : ∀ b ∈ frs (X.env :: X.outer), b ≠ T := fun b hb z => by
  obtain ⟨_, o', ho', hd'⟩ := hF.mem hb
  obtain ⟨sl, e2⟩ := nt.slot b o' hb ho'
  rw [z, t5] at e2
  cases e2
  exact hd' _ t6
 have stay : ∀ b o, s'.heap.get? b = some o -> H b ≠ none -> h3.get? b = some o := fun b o e hb => by
  have nf : b ∉ frs (X.env :: X.outer) := fun z => by
   have := J.stkFree b (by show b ∈ frs X.stack; rw [hst]; exact z)
   exact hb this
  refine go b o (fun z => hb (by rw [z]; exact hCn)) (fun z => hb (by rw [z]; exact t4)) (nt.keep b o e (.inr (.inl hb)) nf)
 have un3 : Un (frs X.stack) fp H3 H h1 h3 := by
  refine ⟨fun b o e n nf nx => ?_, fun b o e n hf' nx => ?_, un.free, fun b o e nx => ?_, un.tups, un.frzs, un.tbls⟩
  ·have hl : (lessH h1 fun b => decide (b ∈ fp)).get? b = some o := by rw [lessH_out (by simpa using nx)]; exact e
   refine go b o (Nat.ne_of_lt (Heap.lt_size e)) (fun z => by rw [z, t3] at hl; cases hl) (nt.keep b o (un.keep b o e n nf nx) (.inr (.inr (by rw [hl]; exact fun z => nomatch z))) (by rw [<- hst]; exact nf))
  ·obtain ⟨sl, e1⟩ := un.slot b o e n hf' nx
   have hb : b ∈ frs (X.env :: X.outer) := by rw [<- hst]; exact hf'
   obtain ⟨sl', e2⟩ := nt.slot b _ hb e1
   exact ⟨sl', go b _ (Nat.ne_of_lt (Heap.lt_size e)) (frT b hb) e2⟩
  ·obtain ⟨o', e1⟩ := un.there b o e nx
   have hl : (lessH h1 fun b => decide (b ∈ fp)).get? b = some o := by rw [lessH_out (by simpa using nx)]; exact e
   have nb : b ≠ T := fun z => by rw [z, t3] at hl; cases hl
   by_cases hb : b ∈ frs (X.env :: X.outer)
   ·obtain ⟨sl', e2⟩ := nt.slot b _ hb e1
    exact ⟨_, go b _ (Nat.ne_of_lt (Heap.lt_size e)) nb e2⟩
   ·exact ⟨_, go b _ (Nat.ne_of_lt (Heap.lt_size e)) nb (nt.keep b o' e1 (.inr (.inr (by rw [hl]; exact fun z => nomatch z))) hb)⟩
 have hok3 : HOk X.prog X.w H h3 := fun b u e => by
  refine (J.hok b u e).stay (fun c v hcc q => stay c v q ?_) (fun _ q => q) fun _ _ q => q
  rcases hcc with rfl | hcc
  ·rw [e]; exact fun z => nomatch z
  ·rw [hcc]; exact fun z => nomatch z
 have IX : Inv X pins σ H { s' with heap := h3 } := by
  refine I3.call' (s' := { s' with heap := h3 }) (ch := fp) (show s'.os = _ from J.os) un3 hok3 J.bare fun b hb => ?_
  obtain ⟨⟨_, f1, f2, f3, f4, f5⟩, _⟩ := hfp b hb
  exact ⟨f3, f1, f4, f5⟩
 have newer : ∀ b, (lessH h1 fun b => decide (b ∈ fp)).get? b = none -> X.s₀.heap.get? b = none := fun b hb => by
  cases e0 : X.s₀.heap.get? b with
  | none => rfl
  | some o =>
   by_cases hbf : b ∈ fp
   ·obtain ⟨⟨_, _, _, f3, _⟩, _⟩ := hfp b hbf
    rcases f3 with z | z
    ·rw [hex] at z; cases z
    ·exact absurd (Heap.lt_size e0) (Nat.not_lt.mpr z)
   ·rw [lessH_out (by simpa using hbf)] at hb
    obtain ⟨o', e1⟩ := hc.old pins σ H3 _ I3 b o e0
    have e1' : h1.get? b = some o' := e1
    rw [hb] at e1'
    cases e1'
 refine hc.go pins σ H _ a IX ⟨newer a fl.new, fl.off, oe, vs, a0, ?_, f2, f3, f4, .inr ⟨T, _, _, cenv.frame.elim Value.none fun f => rawInt ↑f, t1, t2, newer T t3, t4, hT3, Obj.data_mapFields t6 _, ?_⟩⟩ q
 ·exact go a oe aC (fun z => t2 z.symm) f1
 ·rw [Array.getElem?_setIfInBounds, if_pos rfl, if_pos hsz]
theorem pe_compX (S : CScope X scope own caps cns) (hcalm : X.calm = true) (hcat : Catches X X.s₀.heap C fun _ => E) (hex : X.ex = []) (hst : X.stack = X.env :: X.outer) (hfr : X.env.frame = some X.env.locals) (hi : PI X tg iter wi)
  (hg : ∀ (k : CA) xe', PG ((cxC X scope (own ++ cns) k).wish xe') tg (g k))
  (he : ∀ (k : CA) xe', Catches ((cxC X scope (own ++ cns) k).wish xe') (lessH k.s₀.heap fun b => decide (b ∈ k.ex)) C (fun _ => E) -> PE ((cxC X scope (own ++ cns) k).wish xe') elt (te k))
  (hs : ∀ x, foldedSetIterable iter X.env x = pure x := by intro _; rfl) : PE X (.ListComp elt [⟨tg, iter, [], 0⟩] scope pos) (tComp wi g (fun _ _ H Q => Q true H) te own caps) := by
 intro pins s σ H Q I h
 rw [eval_ListComp]
 obtain ⟨cl, ecl, hcl, _, hall⟩ := closure_of (env := X.env) scope.names [] (fun y hy hf => I.ok.has y.1 (.inl (S.free y hy hf))) (fun x c z => by simp at z)
 refine wpAny_comprehension_free (cl := cl) rfl hs (by unfold closureFor; simpa using ecl) S.kind S.names ?_
 refine thn (hi pins s σ H _ I h) fun v s1 q1 => thn q1 fun itv s2 q2 => ?_
 obtain ⟨it, fp, tn, J, H1, rfl, I2, T, st0, hfp, q⟩ := q2
 have hD : H1 s2.heap.objs.size = none := I2.hok.fresh (Nat.le_refl _)
 refine wpAny_newObj_type ?_
 have I3 : Inv X pins σ (upd H1 s2.heap.objs.size (.lst [])) { s2 with heap := s2.heap.push { cls := .type "list", data := .seq ([] : List Value).toArray } } :=
  I2.laid (t' := s2.toks) (fun _ _ q => Heap.get?_push_of_some _ q) (Nat.le_refl _) ⟨Nat.zero_le _, [], 0, .nil, Heap.get?_push_size _ rfl⟩
 have hfp3 : ∀ b ∈ fp, FpOk X pins (upd H1 s2.heap.objs.size (.lst [])) b /\ b < (s2.heap.push { cls := .type "list", data := .seq ([] : List Value).toArray }).objs.size := fun b hb => by
  obtain ⟨o, ho, _⟩ := T.obj 0 _ st0 b hb
  have hlt := Heap.lt_size ho
  obtain ⟨f0, f⟩ := hfp b hb
  refine ⟨⟨by rw [upd_ne (Nat.ne_of_lt hlt)]; exact f0, f⟩, ?_⟩
  rw [Heap.size_push]
  exact Nat.lt_succ_of_lt hlt
 refine wpAny_newFunctionEnv_of (fun x c e => by obtain ⟨v, o, ho, _⟩ := I3.cell x c (hcl x c e); exact Heap.lt_size ho) (fun h4 bc hns keep4 hbc => ?_)
 dsimp only at hns keep4 hbc ⊢
 generalize hH : s2.heap.push { cls := .type "list", data := .seq ([] : List Value).toArray } = h1 at *
 obtain ⟨W, ⟨m0, w0⟩, step⟩ := q s2.heap.objs.size hD ⟨bc, h1.objs.size, { s2 with heap := h1 }, upd H1 s2.heap.objs.size (.lst []), fp, X.pn ++ pins⟩
 have J0 := inv_comp (tk := s2.toks) S I3 hfp3 hcl hall rfl (by simpa using hns) keep4 hbc
 have fpx : ∀ (H' : Hp), (∀ b ∈ fp, H' b = none) -> ∀ b ∈ fp, FpOk (cxC X scope (own ++ cns) ⟨bc, h1.objs.size, { s2 with heap := h1 }, (upd H1 s2.heap.objs.size (.lst [])), fp, X.pn ++ pins⟩) [] H' b := fun H' hn b hb => by
  obtain ⟨⟨_, f1, f2, f3, f4, f5⟩, hlt⟩ := hfp3 b hb
  refine ⟨hn b hb, Nat.ne_of_lt hlt, fun z => ?_, .inl hb, fun x c e => ?_, fun p hp => f5 p (by simpa [cxC] using hp)⟩
  ·rcases List.mem_cons.mp (I3.stkSub b z) with q | q
   ·exact f1 q
   ·exact f2 q
  ·rcases hbc.frm x c e with e' | ⟨_, z, _⟩
   ·exact f4 x c (hcl x c e')
   ·exact Nat.ne_of_gt (Nat.lt_trans hlt z)
 have st1 : tn 0 h4 := T.keep 0 _ _ st0 fun b hb o e => keep4 b o (by rw [<- hH]; exact Heap.get?_push_of_some _ e)
 have cat := catches_block (xe' := notedBy (model X.prog X.w) X.A (compEnvC scope bc h1.objs.size X.env) fun e s' => compPost (model X.prog X.w) X.A X.xe none (EP X pins σ Q) (.ref s2.heap.objs.size) h1.objs.size (.error e) s') (scope := scope) (N' := own ++ cns) (bc := bc) (P := EP X pins σ Q) (acc := .ref s2.heap.objs.size) hcat hex hst hfr I3 hfp3 (fun a s' z => z)
 have loop : codeAny (model X.prog X.w) X.A (.compLoop (.ListComp elt [⟨tg, iter, [], 0⟩] scope pos) 0 (.ref it) (.ref s2.heap.objs.size) (compEnvC scope bc h1.objs.size X.env))
   (compPost (model X.prog X.w) X.A X.xe none (EP X pins σ Q) (.ref s2.heap.objs.size) h1.objs.size) { s2 with heap := h4 } := by
  refine compLoop_genX (fun n s' => ∃ i ys τ H', W i n ys τ H' /\ Inv (cxC X scope (own ++ cns) ⟨bc, h1.objs.size, { s2 with heap := h1 }, (upd H1 s2.heap.objs.size (.lst [])), fp, X.pn ++ pins⟩) [] τ H' s' /\ tn i s'.heap /\ ∀ b ∈ fp, H' b = none) ?_ m0
   ⟨0, [], _, _, w0, J0, st1, fun b hb => (hfp3 b hb).1.1⟩
  rintro n s' ⟨i, ys, τ, H', w1, J1, st, hn⟩
  obtain ⟨hDl, hlen, alt⟩ := step i n ys τ H' w1
  rcases alt with ⟨hstop, hq⟩ | ⟨hgo, N, hN, hbody⟩
  ·refine thn (T.done (cxC X scope (own ++ cns) ⟨bc, h1.objs.size, { s2 with heap := h1 }, (upd H1 s2.heap.objs.size (.lst [])), fp, X.pn ++ pins⟩) rfl rfl rfl hcalm i [] s' τ H' _ J1 (fpx H' hn) st hstop) fun r s'' ⟨er, J2⟩ => ?_
   subst er
   obtain ⟨m, hm, _⟩ := J2.loc
   have IX := inv_back (h' := s''.heap) I3 hfp3 J2 rfl (Heap.SameBut.refl ..)
   obtain ⟨f0, f1, f2, f3, f4, f5⟩ := I3.fpOk (Nat.le_refl _) J2.free
   exact ⟨m, hm, fun h' hs' => ⟨.ref s2.heap.objs.size, H', IX.turned (t' := s''.toks) (fun b o hb e => (hs'.2 b hb).trans e) f0 f1 f3 f4 f5, rfl, hq⟩⟩
  ·refine thn (T.item (cxC X scope (own ++ cns) ⟨bc, h1.objs.size, { s2 with heap := h1 }, (upd H1 s2.heap.objs.size (.lst [])), fp, X.pn ++ pins⟩) rfl rfl rfl hcalm i [] s' τ H' _ J1 (fpx H' hn) st hgo) fun r s'' ⟨u, er, hw⟩ => ?_
   subst er
   refine thn hw fun _ s3 ⟨x, H2, J2, rx, hy, st2, hn2⟩ => ?_
   have pinned := J2.pinned (fpx H2 hn2) (T.obj (i + 1) _ st2)
   have back : ∀ {τ' : St} {H'' : Hp} {s4 : Shared}, Inv (cxC X scope (own ++ cns) ⟨bc, h1.objs.size, { s2 with heap := h1 }, (upd H1 s2.heap.objs.size (.lst [])), fp, X.pn ++ pins⟩) ([] ++ pinsAt fp s3.heap) τ' H'' s4 ->
     tn (i + 1) s4.heap /\ ∀ b ∈ fp, H'' b = none := fun {τ' H'' s4} K => by
    refine ⟨T.keep (i + 1) _ _ st2 fun b hb o e => (K.pin (b, o) (List.mem_append_right _ (by simpa using mem_pinsAt hb e))).1, fun b hb => ?_⟩
    obtain ⟨o, e, _⟩ := T.obj (i + 1) _ st2 b hb
    exact (K.pin (b, o) (List.mem_append_right _ (by simpa using mem_pinsAt hb e))).2.1
   refine thn (hg _ _ ([] ++ pinsAt fp s3.heap) s3 τ H2 x u _ (pinned.wish _) rx (hbody x H2 hy)) fun _ s4 ⟨τ2, H3, J3, q3⟩ => ?_
   dsimp only at q3
   rw [if_pos rfl] at q3
   refine thn (he _ _ cat ([] ++ pinsAt fp s3.heap) s4 τ2 H3 _ J3 q3) fun yv s6 ⟨y, H5, J5', ry, hD5, q5⟩ => ?_
   have J5 := J5'.unwish
   obtain ⟨m', hm', w2⟩ := hN _ _ _ q5
   obtain ⟨hz, its, c, rv, hlen2, eo⟩ := J5.lstM hD5
   refine PySem.wpAny_call_entry slot_list_append ⟨_, eo, rfl⟩ entry_list_append ?_ (args_list_append _ _)
   show wpAny _ _ (updateSeq s2.heap.objs.size (·.push yv) >>= fun _ => ret .none) _ _ s6
   refine wpAny_bind (wpAny_updateSeq eo rfl (wpAny_pure ⟨.none, rfl, ?_⟩) (by simp; omega) (by simp; omega))
   have J6 := J5.lset (ys := ys ++ [y]) (its' := its ++ [yv]) (f := (·.push yv)) (t' := s6.toks) hD5 eo (by simp) (rv.append (.cons ry .nil)) (by simp; omega)
   obtain ⟨b1, b2⟩ := back J6
   exact ⟨m', hm', i + 1, _, τ2, _, w2, J6.unpinned, b1, b2⟩
 exact codeAny_compStart_list loop (T.self X.A 0 _ _ _ st1 loop)
end
end L2
set_option Elab.async false
set_option linter.all false
set_option maxRecDepth 100000
set_option maxHeartbeats 4000000
namespace L2
open PySem PySem.Spec PyProof.Rows
structure ExcK (K : PySem.W.Frag) (C : Addr) : Prop where
 ga : PySem.W.findIn K (.ref C) "__getattribute__" = some (some (.builtin "BaseException.__getattribute__"))
 hk : PySem.W.findIn K (.ref C) "__getattr__" = some none
 c1 : PySem.W.findIn K (.ref C) "__class__" = some (some (.builtin "object.__class__"))
 c2 : PySem.W.specialIn K (.builtin "object.__class__") "__get__" = some (some (.builtin "getset_descriptor.__get__"))
 c3 : PySem.W.takesIn K (.builtin "object.__class__") = some true
 sb : PySem.W.subIn K (.ref C) (.type "BaseException") = some true
 so : PySem.W.subIn K (.ref C) (.type "object") = some true
section
variable {prog : Program} {w : World} {A : Around} {E : Value -> Shared -> Prop} {s : Shared} {K : PySem.W.Frag} {a C : Addr} {ox : Obj}
theorem same_h {h : Heap} : ∀ (b : Addr) (o : Obj), h.get? b = some o -> h.get? b = some o := fun _ _ e => e
theorem exc_ty {M : Model} {h : Heap} {oe : Obj} (e : h.get? a = some oe) (c : oe.cls = .ref C) : PySem.W.Looks M h (typeOf (.ref a)) (.ref C) := fun A Q E s hk q => by
 unfold typeOf
 refine wpAny_bind (wpAny_loadPart (hk a oe e) ?_)
 rw [c]
 exact wpAny_pure q
theorem exc_getter {Q : Value -> Shared -> Prop} (kc : ExcK K C) (KX : K.In s.heap) (ty : ∀ M, PySem.W.Looks M s.heap (typeOf (.ref a)) (.ref C)) (q : Q (.ref C) s) :
  wpAny (model prog w) A (call (.builtin "getset_descriptor.__get__") [.builtin "object.__class__", .ref a, .ref C]) Q E s := by
 refine wpAny_call ?_
 refine codeAny_call_builtin (by decide +kernel) F.entry_gs_get ?_
 refine wpAny_of_eq (a := ()) ?_ ?_
 ·unfold checkBuiltinCall
  rw [show builtinKind "getset_descriptor.__get__" = some Manifest.AttrKind.slot from rfl, show splitId "getset_descriptor.__get__" = some ("getset_descriptor", "__get__") by decide +kernel]
  dsimp only
  rw [show isInstance (Value.builtin "object.__class__") (Value.type "getset_descriptor") = pure true from rfl]
  exact F.args_gs_get (.builtin "object.__class__") (.ref a) (.ref C)
 ·unfold Builtin.«getset_descriptor.__get__» Builtin.Getset_descriptor.descrGet
  refine wpAny_bind (wpAny_of_eq (a := (Value.builtin "object.__class__", some (Value.ref a), some (Value.ref C))) (by rfl) ?_)
  dsimp only
  unfold Builtin.Getset_descriptor.descrGetter
  dsimp only
  unfold Builtin.Getset_descriptor.descrCheckInstance
  refine wpAny_bind (wpAny_bind (wpAny_of_eq (a := (("__class__" : Str), Value.type "object")) (by rfl) ?_))
  dsimp only
  unfold isInstance
  refine wpAny_bind (wpAny_bind (ty _ _ _ _ _ same_h (PySem.W.looks_subIn KX kc.so _ _ _ _ same_h ?_)))
  rw [if_neg (by decide)]
  refine wpAny_pure ?_
  refine wpAny_pure ⟨by with_unfolding_all rfl, ?_⟩
  refine codeAny_builtin F.entry_object_class ?_
  unfold Builtin.«object.__class__»
  dsimp only
  unfold shownTypeOf
  refine wpAny_bind (wpAny_bind (ty _ _ _ _ _ same_h ?_))
  rw [if_neg (by simp)]
  exact wpAny_pure (wpAny_pure q)
theorem exc_class {Q : Option Value -> Shared -> Prop} (kc : ExcK K C) (KX : K.In s.heap) (ty : ∀ M, PySem.W.Looks M s.heap (typeOf (.ref a)) (.ref C)) (q : Q (some (.ref C)) { s with toks := s.toks + 1 }) :
  wpAny (model prog w) A (getAttr? (.ref a) "__class__") Q E s := by
 unfold getAttr?
 refine wpAny_bind (wpAny_mkText ?_)
 unfold getAttrBy?
 refine wpAny_bind (wpAny_attempt ?_)
 unfold getAttrBy
 refine wpAny_holding (wpAny_bind (ty _ A _ _ _ same_h (wpAny_bind (PySem.W.looks_findIn KX kc.ga A _ _ _ same_h ?_))))
 dsimp only
 rw [if_neg (by rw [show (Value.builtin "BaseException.__getattribute__" == Value.builtin "object.__getattribute__") = false by decide, Bool.and_false]; exact Bool.false_ne_true)]
 unfold getAttrByItsOwn
 refine wpAny_bind (PySem.W.looks_hook (mc := .ref C) (r := none) KX (by rw [if_pos (by rfl)]; exact kc.hk) A _ _ _ same_h ?_)
 refine wpAny_bind (wpAny_attempt (wpAny_holding ?_))
 unfold callGetattribute
 rw [if_neg (by decide)]
 unfold boundAndCalled
 refine wpAny_bind ?_
 unfold bindSpecial
 rw [show typeOf (Value.builtin "BaseException.__getattribute__") = pure (Value.type "wrapper_descriptor") from rfl]
 refine wpAny_bind (wpAny_pure ?_)
 rw [if_pos (by decide)]
 refine wpAny_pure ?_
 dsimp only
 refine wpAny_call ?_
 refine codeAny_call_builtin (by decide +kernel) F.entry_bexc_ga ?_
 unfold checkBuiltinCall
 rw [show builtinKind "BaseException.__getattribute__" = some Manifest.AttrKind.slot from rfl, show splitId "BaseException.__getattribute__" = some ("BaseException", "__getattribute__") by decide +kernel]
 dsimp only
 show wpAny _ _ (do
   let r <- isInstance (Value.ref a) (Value.type "BaseException")
   if (!r) = true then _ else _) _ _ _
 unfold isInstance
 refine wpAny_bind (wpAny_bind (ty _ _ _ _ _ same_h (PySem.W.looks_subIn KX kc.sb _ _ _ _ same_h ?_)))
 rw [if_neg (by decide)]
 refine wpAny_of_eq (a := ()) (F.args_bexc_ga _ _) ?_
 unfold Builtin.«object.__getattribute__»
 refine wpAny_bind (wpAny_of_eq (a := (Value.ref a, [Value.str ("__class__" : Str) s.toks])) (by rfl) ?_)
 dsimp only
 refine wpAny_bind (wpAny_of_eq (a := ("__class__" : Str)) (by rfl) ?_)
 refine wpAny_bind (ty _ _ _ _ _ same_h (wpAny_bind ?_))
 unfold Builtin.ObjectAttr.find
 refine wpAny_bind (PySem.W.looks_findIn KX kc.c1 _ _ _ _ same_h ?_)
 unfold Builtin.ObjectAttr.getOf
 refine wpAny_bind (PySem.W.looks_specialIn KX kc.c2 _ _ _ _ same_h ?_)
 unfold Builtin.ObjectAttr.dataDescriptor?
 refine wpAny_bind (wpAny_bind (PySem.W.looks_takesIn KX kc.c3 _ _ _ _ same_h ?_))
 rw [if_pos rfl]
 refine wpAny_pure ?_
 dsimp only
 refine wpAny_bind (wpAny_rule (wpAny_pure ?_))
 dsimp only
 unfold Builtin.ObjectAttr.bindTo
 dsimp only
 refine wpAny_bind (wpAny_holding (exc_getter kc KX ty ?_))
 refine wpAny_pure ?_
 dsimp only
 exact wpAny_pure (wpAny_pure q)
end
end L2
set_option Elab.async false
set_option linter.all false
set_option maxRecDepth 100000
set_option maxHeartbeats 4000000
namespace L2
open PySem PySem.Spec PyProof.Rows
theorem cls_of_dict {K : PySem.W.Frag} {C : Addr} (h : PySem.W.hasDictIn K C = true) : ∃ c d cd sl, K.lookup C = some ⟨c, d, .cls cd, sl⟩ := by
 unfold PySem.W.hasDictIn PySem.W.clsIn at h
 split at h
 ·rename_i c d cd sl e
  exact ⟨c, d, cd, sl, e⟩
 ·cases h
theorem kitx_exc {K : PySem.W.Frag} {a C : Addr} (kc : ExcK K C) (hd : PySem.W.hasDictIn K C = true) : PySem.W.KitX K (.ref a) (.ref C) (fun h => ∃ oe, h.get? a = some oe /\ oe.cls = .ref C) := by
 refine ⟨fun M h KX ⟨oe, e, c⟩ => exc_ty e c, fun M h KX _ => ?_, fun h tp dd its n sl KX e => ?_, fun {prog w A E Q s} KX ⟨oe, e, c⟩ q => exc_class kc KX (fun _ => exc_ty e c) q⟩
 ·exact fun A Q E s hk q => PySem.W.mc_isType (s := s) (KX.keeps hk) hd A Q E s same_h q
 ·obtain ⟨c, d, cd, sl', hl⟩ := cls_of_dict hd
  have := KX _ _ hl
  cases hb : (Value.ref C == Value.ref tp) with
  | false => rfl
  | true =>
   have e2 := eq_of_beq hb
   injection e2 with e2
   subst e2
   rw [e] at this
   cases this
section
variable {X : Cx}
theorem call_isExc {C a : Addr} {oe : Obj} {K0 : PySem.W.Frag} (hK : X.K = K0) (kc : ExcK K0 C) (hd : PySem.W.hasDictIn K0 C = true) (hp : (a, oe) ∈ X.pn) : CallR X (.builtin "isinstance") (fun xs H Q => ∃ v u b, xs = [.ref a, v] /\ oe.cls = .ref C /\ RelV v u /\ (∀ u', RelV v u' -> u' = u) /\ PySem.W.kitOne K0 (.ref C) u = some b /\ Q (.bl b) H) := by
 subst hK
 intro pins s σ H xs us Q I r h
 obtain ⟨v, u, b, rfl, h1, h5, h6, h4, q⟩ := h
 obtain ⟨u1, u2, rfl, e1, e2⟩ := vals2 r
 cases (show u1 = Value.ref a from e1)
 cases h6 u2 e2
 have pin := I.pin (a, oe) (List.mem_append_left _ hp)
 exact PySem.W.kia_one (kitx_exc kc hd) I.kIn ⟨oe, pin.1, h1⟩ h4 (fun z => nomatch z) fun tk => ⟨.bl b, H, I.kept (t' := tk) fun _ _ e => e, rfl, q⟩
end
end L2
set_option Elab.async false
set_option linter.all false
set_option maxRecDepth 100000
set_option maxHeartbeats 4000000
namespace L2
open PySem PySem.Spec PyProof.Rows
section
variable {X : Cx} {pins : List (Addr × Obj)} {σ : St} {H : Hp} {s : Shared}
theorem Inv.keepH {h₀ h' : Heap} {tk : Nat} (I : Inv X pins σ H s) (hex : X.ex = []) (hst : X.stack = X.env :: X.outer) (hfr : X.env.frame = some X.env.locals) (hfn : ∀ x, X.fn x = true) (hh : ∀ b, X.s₀.heap.get? b ≠ none \/ b ∈ (X.pn ++ pins).map (·.1) -> s.heap.get? b ≠ none -> h₀.get? b ≠ none)
  (keep : ∀ b o, s.heap.get? b = some o -> (∀ vs, o.data ≠ .fields vs) \/ H b ≠ none \/ h₀.get? b ≠ none -> b ∉ frs (X.env :: X.outer) -> h'.get? b = some o)
  (slot : ∀ b o, b ∈ frs (X.env :: X.outer) -> s.heap.get? b = some o -> ∃ sl, h'.get? b = some { cls := o.cls, dict := o.dict, data := o.data, slots := sl }) : Inv X pins σ H { s with heap := h', toks := tk } := by
 have nx : ∀ b, b ∉ X.ex := fun b z => by rw [hex] at z; cases z
 have frL : X.env.locals ∈ frs (X.env :: X.outer) := by
  unfold frs
  rw [List.filterMap_cons, hfr]
  exact List.mem_cons_self
 have frO : ∀ b ∈ X.fs, b ∈ frs (X.env :: X.outer) := fun b hb => by
  have hb' : b ∈ frs X.outer := hb
  unfold frs at hb' ⊢
  rw [List.filterMap_cons, hfr]
  exact List.mem_cons_of_mem _ hb'
 have frN : ∀ b ∈ frs (X.env :: X.outer), b = X.env.locals \/ b ∈ X.fs := fun b hb => by
  unfold frs at hb
  rw [List.filterMap_cons, hfr] at hb
  exact List.mem_cons.mp hb
 have some_ne : ∀ {h : Heap} {b : Addr} {o : Obj}, h.get? b = some o -> h.get? b ≠ none := fun e => by rw [e]; exact fun z => nomatch z
 have old : ∀ b o o', X.s₀.heap.get? b = some o -> s.heap.get? b = some o' -> b ∉ X.fs -> h'.get? b = some o' := fun b o o' e e' nf => by
  refine keep b o' e' (.inr (.inr (hh b (.inl (some_ne e)) (some_ne e')))) fun hb => ?_
  rcases frN b hb with z | z
  ·exact absurd (Heap.lt_size e) (Nat.not_lt.mpr (by rw [z]; exact I.ok.above))
  ·exact nf z
 have cellK : ∀ x c v, X.env.cells.lookup x = some c -> s.heap.IsCell c v -> h'.IsCell c v := fun x c v hc ⟨oc, hoc, hcd⟩ => by
  refine ⟨oc, keep c oc hoc (.inl fun vs z => by rw [hcd] at z; cases z) fun hb => ?_, hcd⟩
  rcases frN c hb with z | z
  ·exact I.cne x c hc z
  ·obtain ⟨_, o', ho', _⟩ := I.ok.funs.mem z
   exact absurd (Heap.lt_size ho') (Nat.not_lt.mpr (I.ok.cab x c (hfn x) hc))
 have un := I.base
 refine ⟨I.ok, I.os, I.bare, ⟨fun b o e n nf _ => ?_, fun b o e n hf _ => ?_, un.free, fun b o e _ => ?_, un.tups, un.frzs, un.tbls⟩, ?_, ?_, I.free, I.freeC, fun p hp => ?_, fun b u e => ?_, I.len⟩
 ·exact old b o o e (un.keep b o e n nf (nx b)) nf
 ·obtain ⟨sl, e1⟩ := un.slot b o e n hf (nx b)
  obtain ⟨sl', e2⟩ := slot b _ (frO b hf) e1
  exact ⟨sl', e2⟩
 ·obtain ⟨o', e1⟩ := un.there b o e (nx b)
  by_cases hf : b ∈ X.fs
  ·obtain ⟨sl', e2⟩ := slot b _ (frO b hf) e1
   exact ⟨_, e2⟩
  ·exact ⟨_, old b o o' e e1 hf⟩
 ·obtain ⟨m, ⟨o, es, ep, ho, hd, hk⟩, hl⟩ := I.loc
  obtain ⟨sl, e2⟩ := slot _ o frL ho
  refine ⟨m, ⟨_, es, ep, e2, hd, hk⟩, fun i x v h1 h2 h3 => ?_⟩
  obtain ⟨u, r, l⟩ := hl i x v h1 h2 h3
  refine ⟨u, r, l.imp id ?_⟩
  rintro ⟨k, c, hc, hic⟩
  exact ⟨k, c, hc, cellK x c _ hc hic⟩
 ·intro x c hc
  obtain ⟨v, hv⟩ := I.cell x c hc
  exact ⟨v, cellK x c v hc hv⟩
 ·obtain ⟨e, n, ne, nf, d⟩ := I.pin p hp
  refine ⟨keep p.1 p.2 e (.inr (.inr (hh p.1 (.inr (List.mem_map.mpr ⟨p, hp, rfl⟩)) (some_ne e)))) fun hb => ?_, n, ne, nf, d⟩
  rcases frN p.1 hb with z | z
  ·exact ne z
  ·exact nf z
 ·refine (I.hok b u e).stay (fun c v hc q => ?_) (fun _ q => q) fun _ _ q => q
  have tr : H c ≠ none := by
   rcases hc with rfl | hc
   ·rw [e]; exact fun z => nomatch z
   ·rw [hc]; exact fun z => nomatch z
  exact keep c v q (.inr (.inl tr)) fun hf => tr (I.stkFree c (by rw [hst]; exact hf))
theorem Inv.unset {i : Nat} {n : Str} {h' : Heap} {m m' : Str -> Option Value} (I : Inv X pins σ H s) (hex : X.ex = []) (hN : X.N.Nodup) (hi : X.N[i]? = some n) (hm : s.heap.Ns X.env.locals m) (hn : h'.Ns X.env.locals m') (sb : Heap.SameBut X.env.locals s.heap h') (hk : ∀ x, x ≠ n -> m' x = m x) :
  Inv X pins (σ.set i none) H { s with heap := h' } := by
 have nx : ∀ b, b ∉ X.ex := fun b z => by rw [hex] at z; cases z
 have keep : ∀ b o, b ≠ X.env.locals -> s.heap.get? b = some o -> h'.get? b = some o := fun b o hb e => (sb.2 b hb).trans e
 have nl : ∀ b o, X.s₀.heap.get? b = some o -> b ≠ X.env.locals := fun b o e z => absurd (Heap.lt_size e) (Nat.not_lt.mpr (by rw [z]; exact I.ok.above))
 have un := I.base
 refine ⟨I.ok, I.os, I.bare, ⟨fun b o e n nf _ => keep b o (nl b o e) (un.keep b o e n nf (nx b)), fun b o e n hf _ => ?_, un.free, fun b o e _ => ?_, un.tups, un.frzs, un.tbls⟩, ⟨m', hn, fun j x v h1 h2 h3 => ?_⟩, fun x c hc => ?_, I.free, I.freeC, fun p hp => ?_, fun b u e => ?_, ?_⟩
 ·obtain ⟨sl, e1⟩ := un.slot b o e n hf (nx b)
  exact ⟨sl, keep b _ (nl b o e) e1⟩
 ·obtain ⟨o', e1⟩ := un.there b o e (nx b)
  exact ⟨o', keep b o' (nl b o e) e1⟩
 ·have ij : j ≠ i := fun z => by
   rw [z, List.getElem?_set] at h2
   by_cases hl : i < σ.length
   ·simp [hl] at h2
   ·rw [if_pos rfl, if_neg hl] at h2; cases h2
  have h2' : σ[j]? = some (some v) := by
   rw [List.getElem?_set, if_neg (fun z => ij z.symm)] at h2
   exact h2
  have xn : x ≠ n := fun z => by
   subst z
   exact ij ((List.getElem?_inj (List.getElem?_eq_some_iff.mp h1).1 hN).mp (h1.trans hi.symm))
  obtain ⟨m0, hm0, hl⟩ := I.loc
  obtain ⟨u, r, l⟩ := hl j x v h1 h2' h3
  have em : m0 = m := funext (hm0.agree hm)
  refine ⟨u, r, ?_⟩
  rcases l with ⟨k, e⟩ | ⟨k, c, hc, oc, hoc, hcd⟩
  ·exact .inl ⟨k, by rw [hk x xn, <- em]; exact e⟩
  ·exact .inr ⟨k, c, hc, oc, keep c oc (I.cne x c hc) hoc, hcd⟩
 ·obtain ⟨v, oc, hoc, hcd⟩ := I.cell x c hc
  exact ⟨v, oc, keep c oc (I.cne x c hc) hoc, hcd⟩
 ·obtain ⟨e, n, ne, nf, d⟩ := I.pin p hp
  exact ⟨keep _ _ ne e, n, ne, nf, d⟩
 ·refine (I.hok b u e).stay (fun c v hc q => keep c v (fun z => ?_) q) (fun _ q => q) fun _ _ q => q
  rcases hc with rfl | hc
  ·rw [z, I.free] at e; cases e
  ·rw [z, I.free] at hc; cases hc
 ·rw [List.length_set]
  exact I.len
theorem unbind_ok {M : Model} {A : Around} {E : Value -> Shared -> Prop} {i : Nat} {n : Str} {pos : Pos} {v : V} {Q : Unit -> Shared -> Prop} (I : Inv X pins σ H s) (hex : X.ex = []) (hN : X.N.Nodup) (hi : X.N[i]? = some n) (hl : X.env.scope.names.lookup n = some .local) (hv : σ[i]? = some (some v))
  (q : ∀ s', Inv X pins (σ.set i none) H s' -> Q () s') : wpAny M A (unbindBehindTheSuite X.env n pos) Q E s := by
 unfold unbindBehindTheSuite
 refine wpAny_onRaise ?_
 unfold unbindName
 refine wpAny_bind (wpAny_point ?_)
 refine wpAny_bind ?_
 obtain ⟨m, hm, hlk⟩ := I.loc
 obtain ⟨u, r, l⟩ := hlk i n v hi hv (.inl hl)
 have hk : X.env.kindOf n = some .local := hl
 have hmn : m n = some u := by
  rcases l with ⟨_, e⟩ | ⟨z | z, _⟩
  ·exact e
  ·rw [hk] at z; cases z
  ·rw [hk] at z; cases z
 unfold deleteName
 rw [hk]
 dsimp only
 rw [if_neg (by rw [I.ok.kind]; exact Bool.false_ne_true)]
 refine wpAny_bind (wpAny_nsDel_keeps hm fun h' v' hn sb => ?_)
 rw [hmn]
 rw [if_neg (by exact Bool.false_ne_true)]
 refine wpAny_pure (wpAny_point (q _ ?_))
 exact I.unset hex hN hi hm hn sb fun x hx => if_neg hx
end
end L2
set_option Elab.async false
set_option linter.all false
set_option maxRecDepth 100000
set_option maxHeartbeats 4000000
namespace L2
open PySem PySem.Spec PyProof.Rows
def Cx.pins (X : Cx) (pn' : List (Addr × Obj)) (xe' : Value -> Shared -> Prop) : Cx := { X with pn := pn', xe := xe' }
def Cx.caught (X : Cx) (a : Addr) (pn' : List (Addr × Obj)) (xe' : Value -> Shared -> Prop) : Cx := { X with A := X.A.mark (some (.ref a)), calm := false, pn := pn', xe := xe' }
section
variable {X : Cx} {pins : List (Addr × Obj)} {σ : St} {H : Hp} {s : Shared} {pn' : List (Addr × Obj)} {xe' : Value -> Shared -> Prop} {a : Addr}
abbrev PinOk (X : Cx) (H : Hp) (s : Shared) (p : Addr × Obj) : Prop := s.heap.get? p.1 = some p.2 /\ H p.1 = none /\ p.1 ≠ X.env.locals /\ p.1 ∉ X.fs /\ ∀ v, p.2.data ≠ .cell v
theorem Cx.Ok.toPins (o : X.Ok) : (X.pins pn' xe').Ok := ⟨o.mod, o.kind, o.glob, o.blt, o.above, o.inj, o.has, o.cab, o.hd, o.frames, o.stk, o.exf, o.bs, o.bsz, o.noex, o.exfs, o.funs, o.frf⟩
theorem Cx.Ok.toCaught (o : X.Ok) : (X.caught a pn' xe').Ok := ⟨o.mod, o.kind, o.glob, o.blt, o.above, o.inj, o.has, o.cab, fun z => (nomatch z), o.frames, o.stk, o.exf, o.bs, o.bsz, o.noex, o.exfs, o.funs, o.frf⟩
theorem Inv.toPins {pins' : List (Addr × Obj)} (I : Inv X pins σ H s) (hp : ∀ p ∈ pn' ++ pins', PinOk X H s p) : Inv (X.pins pn' xe') pins' σ H s := ⟨I.ok.toPins, I.os, I.bare, I.base, I.loc, I.cell, I.free, I.freeC, hp, I.hok, I.len⟩
theorem Inv.toCaught {pins' : List (Addr × Obj)} (I : Inv X pins σ H s) (hp : ∀ p ∈ pn' ++ pins', PinOk X H s p) : Inv (X.caught a pn' xe') pins' σ H s := ⟨I.ok.toCaught, I.os, I.bare, I.base, I.loc, I.cell, I.free, I.freeC, hp, I.hok, I.len⟩
theorem Inv.ofPins {pins' : List (Addr × Obj)} (o : X.Ok) (I : Inv (X.pins pn' xe') pins' σ H s) (hp : ∀ p ∈ X.pn ++ pins, PinOk X H s p) : Inv X pins σ H s := ⟨o, I.os, I.bare, I.base, I.loc, I.cell, I.free, I.freeC, hp, I.hok, I.len⟩
theorem Inv.ofCaught {pins' : List (Addr × Obj)} (o : X.Ok) (I : Inv (X.caught a pn' xe') pins' σ H s) (hp : ∀ p ∈ X.pn ++ pins, PinOk X H s p) : Inv X pins σ H s := ⟨o, I.os, I.bare, I.base, I.loc, I.cell, I.free, I.freeC, hp, I.hok, I.len⟩
end
def tTry (tb : (St -> XK) -> TS) (ts : Addr -> Obj -> TS) (i : Nat) (C : Addr) : TS := fun D σ H => tb (fun σ' _ _ H' => ∀ a oe, H' a = none -> oe.cls = .ref C ->
 ts a oe { nx := fun σ2 H2 => D.nx (σ2.set i none) H2, rt := fun _ _ => False, bk := fun _ _ => False, ct := fun _ _ => False } (σ'.set i (some (.ref a))) H') D σ H
theorem flight_none {M : Model} {A : Around} {E' : Value -> Shared -> Prop} {s : Shared} {base h₀ : Heap} {env : Env} {outer : List Env} {a C : Addr} {H : Hp} {Q : Unit -> Shared -> Prop} (hF : s.heap.FunFrames base (env :: outer)) (fl : Fl h₀ s.heap H a C) (tr : ∃ oe vs T, s.heap.get? a = some oe /\ oe.data = .fields vs /\ vs[1]? = some (.ref T))
  (q : ∀ h', Noted h₀ s.heap h' H a C (env :: outer) -> Q () { s with heap := h' }) : wpAny M A (setFlight (.ref a) none) Q E' s := by
 obtain ⟨oe, vs, a0, f1, f2, f3, f4, f5⟩ := fl.obj
 obtain ⟨oe', vs', T, g1, g2, g3⟩ := tr
 rw [f1] at g1
 cases g1
 rw [f3] at g2
 cases g2
 rcases f5 with f5 | ⟨T', oT, ts, fl', t1, t2, t3, t4, t5, t6, t7⟩
 ·rw [f5] at g3; cases g3
 rw [t1] at g3
 cases g3
 have hsz : 3 < ts.size := by
  rcases Nat.lt_or_ge 3 ts.size with h | h
  ·exact h
  ·rw [Array.getElem?_eq_none h] at t7; cases t7
 refine wpAny_setFlight_none f1 f3 t1 t5 t6 hsz (q _ ?_)
 have sb := Heap.SameBut.update s.heap T (Obj.mapFields fun x => x.setIfInBounds 3 Value.none)
 have hT : (s.heap.update T (Obj.mapFields fun x => x.setIfInBounds 3 Value.none)).get? T = some (Obj.mapFields (fun x => x.setIfInBounds 3 Value.none) oT) := Heap.get?_update_self _ t5 (Obj.isFreed_of_fields (Obj.data_mapFields t6 _))
 have go : ∀ b o, b ≠ T -> s.heap.get? b = some o -> (s.heap.update T (Obj.mapFields fun x => x.setIfInBounds 3 Value.none)).get? b = some o := fun b o hb e => (sb.2 b hb).trans e
 refine ⟨fun b o e hb _ => go b o (fun z => ?_) e, fun b o hb e => ⟨o.slots, go b o (fun z => ?_) e⟩, ⟨fl.new, fl.off, oe, vs, a0, go a oe (fun z => t2 z.symm) f1, f2, f3, f4, .inr ⟨T, _, _, Value.none, t1, t2, t3, t4, hT, Obj.data_mapFields t6 _, by rw [Array.getElem?_setIfInBounds, if_pos rfl, if_pos hsz]⟩⟩, ⟨oe, vs, T, go a oe (fun z => t2 z.symm) f1, f3, t1⟩⟩
 ·rw [z] at e hb
  rw [t5] at e
  cases e
  rcases hb with hb | hb | hb
  ·exact hb _ t6
  ·exact hb t4
  ·exact hb t3
 ·obtain ⟨_, o', ho', hd'⟩ := hF.mem hb
  rw [z, t5] at ho'
  cases ho'
  exact hd' _ t6
theorem ps_try {X : Cx} {C : Addr} {x n : Str} {i : Nat} {np hpos pos : Pos} {b₀ : Stmt} {suite body : List Stmt} {tb : (St -> XK) -> TS} {ts : Addr -> Obj -> TS} {newId : String}
  (hcalm : X.calm = true) (hex : X.ex = []) (hst : X.stack = X.env :: X.outer) (hfr : X.env.frame = some X.env.locals) (hfn : ∀ x, X.fn x = true) (hg : Gl X x) (hm : X.mg x = some (.ref C)) (hq : ∀ h : Heap, X.K.In h -> OwnClsQ x C bmV newId X.mg h)
  (hN : X.N.Nodup) (hi : X.N[i]? = some n) (hl : X.env.scope.names.lookup n = some .local)
  (hb : ∀ pn' xe' h₀ E, Catches (X.pins pn' xe') h₀ C E -> PSs (X.pins pn' xe') body (tb E))
  (hs : ∀ a oe pn' xe', (a, oe) ∈ pn' -> PSs (X.caught a pn' xe') (b₀ :: suite) (ts a oe)) (hd : (x == ("__debug__" : Str)) = false := by decide) :
  PS X (.Try body [.ExceptHandler (some (.Name x np)) (some n) (b₀ :: suite) hpos] [] [] pos) (tTry tb ts i C) := by
 intro pins s σ H D I h
 have o := I.ok
 have nx : ∀ b, b ∉ X.ex := fun b z => by rw [hex] at z; cases z
 have hf : X.A.frames = some (X.env :: X.outer) := by rw [<- hst]; exact o.frames
 obtain ⟨h₀, hA, hB⟩ : ∃ h₀ : Heap, (∀ b o, h₀.get? b = some o -> X.s₀.heap.get? b ≠ none \/ ∃ p ∈ X.pn ++ pins, p.1 = b) /\ (∀ b, X.s₀.heap.get? b ≠ none \/ b ∈ (X.pn ++ pins).map (·.1) -> h₀.get? b ≠ none) := by
  refine ⟨lessH s.heap fun b => (X.s₀.heap.get? b).isNone && !decide (b ∈ (X.pn ++ pins).map (·.1)), fun b o e => ?_, fun b hb => ?_⟩
  ·cases hS : ((X.s₀.heap.get? b).isNone && !decide (b ∈ (X.pn ++ pins).map (·.1))) with
   | true => rw [lessH_in hS] at e; cases e
   | false =>
    rcases Bool.and_eq_false_iff.mp hS with z | z
    ·exact .inl fun y => by rw [y] at z; cases z
    ·have z' : b ∈ (X.pn ++ pins).map (·.1) := by simpa using z
     obtain ⟨p, hp, e'⟩ := List.mem_map.mp z'
     exact .inr ⟨p, hp, e'⟩
  ·have hS : ((X.s₀.heap.get? b).isNone && !decide (b ∈ (X.pn ++ pins).map (·.1))) = false := by
    rcases hb with hb | hb
    ·cases e : X.s₀.heap.get? b with
     | none => exact absurd e hb
     | some o' => rfl
    ·rw [decide_eq_true hb]
     exact Bool.and_false _
   rw [lessH_out hS]
   rcases hb with hb | hb
   ·cases e : X.s₀.heap.get? b with
    | none => exact absurd e hb
    | some o' =>
     obtain ⟨o2, e2⟩ := I.base.there b o' e (nx b)
     rw [e2]
     exact fun z => nomatch z
   ·obtain ⟨p, hp, rfl⟩ := List.mem_map.mp hb
    rw [(I.pin p hp).1]
    exact fun z => nomatch z
 refine wpAny_Try_except ?_
 have cat : Catches (X.pins (X.pn ++ pins) fun e s₁ => wpAny (model X.prog X.w) X.A (noteFrame e X.env) (fun _ s₂ => wpAny (model X.prog X.w) X.A (setFlight e none) (fun _ s₃ => wpAny (model X.prog X.w) X.A (handleBy e X.env [.ExceptHandler (some (.Name x np)) (some n) (b₀ :: suite) hpos]) (SP X pins D) X.xe s₃) X.xe s₂) X.xe s₁) h₀ C
   (fun σ' _ _ H' => ∀ a oe, H' a = none -> oe.cls = .ref C -> ts a oe { nx := fun σ2 H2 => D.nx (σ2.set i none) H2, rt := fun _ _ => False, bk := fun _ _ => False, ct := fun _ _ => False } (σ'.set i (some (.ref a))) H') := by
  have pinsOf : ∀ {xe' : Value -> Shared -> Prop} {pins' : List (Addr × Obj)} {σ' : St} {H' : Hp} {s' : Shared}, Inv (X.pins (X.pn ++ pins) xe') pins' σ' H' s' -> ∀ p ∈ X.pn ++ pins, PinOk X H' s' p := fun J p hp => J.pin p (List.mem_append_left _ hp)
  have old : ∀ {xe' : Value -> Shared -> Prop} {pins' : List (Addr × Obj)} {σ' : St} {H' : Hp} {s' : Shared}, Inv (X.pins (X.pn ++ pins) xe') pins' σ' H' s' -> ∀ b o, h₀.get? b = some o -> ∃ o', s'.heap.get? b = some o' := fun {xe' pins' σ' H' s'} J b o' e => by
   rcases hA b o' e with z | ⟨p, hp, rfl⟩
   ·cases e0 : X.s₀.heap.get? b with
    | none => exact absurd e0 z
    | some o2 => exact J.base.there b o2 e0 (nx b)
   ·exact ⟨_, (pinsOf J p hp).1⟩
  refine ⟨fun pins' σ' H' s' J => old J, fun pins' σ' H' s' a J fl q => ?_⟩
  have IX : Inv X pins σ' H' s' := J.ofPins o (pinsOf J)
  have frames : ∀ {h : Heap} {σ' : St} {H' : Hp} {s' : Shared}, Inv X pins σ' H' s' -> s'.heap.FunFrames X.base (X.env :: X.outer) := fun K => by rw [<- hst]; exact K.stack
  have kH : ∀ {σ' : St} {H' : Hp} {s' : Shared}, Inv X pins σ' H' s' -> ∀ b o, H' b = some o -> ∃ o', s'.heap.get? b = some o' := fun K b o e => (K.hok b o e).get
  refine note_exc (h₀ := h₀) (H := H') hf (frames (h := h₀) IX) hfr fl (old J) (kH IX) fun h2 nt => ?_
  have I2 : Inv X pins σ' H' { s' with heap := h2 } := IX.keepH (h₀ := h₀) (tk := s'.toks) hex hst hfr hfn (fun b hb _ => hB b hb) nt.keep nt.slot
  refine flight_none (h₀ := h₀) (H := H') (frames (h := h₀) I2) nt.fl nt.tr fun h3 nt3 => ?_
  have I3 : Inv X pins σ' H' { s' with heap := h3 } := I2.keepH (h₀ := h₀) (tk := s'.toks) hex hst hfr hfn (fun b hb _ => hB b hb) nt3.keep nt3.slot
  refine handleBy_own_as (bmB := bmV) (newId := newId) (mg := X.mg) (x := x) (C := C) (by decide) ?_
  have I3c : Inv (X.caught a (X.pn ++ pins) X.xe) [] σ' H' { s' with heap := h3 } := I3.toCaught fun p hp => I3.pin p (by simpa using hp)
  refine ld_glob (X := X.caught a (X.pn ++ pins) X.xe) I3c hg hm ⟨rfl, hq _ I3.kIn, ?_, ?_⟩ hd
  ·obtain ⟨oe, vs, a0, f1, f2, _⟩ := nt3.fl.obj
   exact ⟨oe, f1, f2⟩
  refine flight_none (h₀ := h₀) (H := H') (frames (h := h₀) I3) nt3.fl nt3.tr fun h4 nt4 => ?_
  have I4 : Inv X pins σ' H' { s' with heap := h4 } := I3.keepH (h₀ := h₀) (tk := s'.toks) hex hst hfr hfn (fun b hb _ => hB b hb) nt4.keep nt4.slot
  obtain ⟨oe, vs, a0, f1, f2, f3, _⟩ := nt4.fl.obj
  refine store_ok2 I4 hN hi (.inl hl) (v := .ref a) (u := .ref a) rfl (fun s5 I5 ⟨b, sb, hb'⟩ => ?_) (.inr hl)
  have f1' : h4.get? a = some oe := f1
  have ab : a ≠ b := fun z => by
   rcases hb' with y | y
   ·obtain ⟨m, ⟨oL, es, ep, hL, hLd, _⟩, _⟩ := I4.loc
    have hL' : h4.get? X.env.locals = some oL := hL
    rw [z, y, hL'] at f1'
    cases f1'
    rw [hLd] at f3
    cases f3
   ·obtain ⟨v, oc, hoc, hcd⟩ := I4.cell n b y
    have hoc' : h4.get? b = some oc := hoc
    rw [z, hoc'] at f1'
    cases f1'
    rw [hcd] at f3
    cases f3
  have f5 : s5.heap.get? a = some oe := (sb.2 a ab).trans f1'
  have pk : PinOk X H' s5 (a, oe) := by
   refine ⟨f5, nt4.fl.off, fun z => ?_, fun z => ?_, fun v z => by rw [f3] at z; cases z⟩
   ·obtain ⟨m, ⟨oL, es, ep, hL, hLd, _⟩, _⟩ := I5.loc
    rw [<- (show a = X.env.locals from z), f5] at hL
    cases hL
    rw [hLd] at f3
    cases f3
   ·obtain ⟨_, o', ho', hd'⟩ := (frames (h := h₀) I5).mem (b := a) (by
     have z' : a ∈ frs X.outer := z
     show a ∈ frs (X.env :: X.outer)
     unfold frs at z' ⊢
     rw [List.filterMap_cons, hfr]
     exact List.mem_cons_of_mem _ z')
    rw [f5] at ho'
    cases ho'
    exact hd' _ f3
  have I5c : ∀ xe', Inv (X.caught a (X.pn ++ pins ++ [(a, oe)]) xe') [] (σ'.set i (some (.ref a))) H' s5 := fun xe' => I5.toCaught fun p hp => by
   rw [List.append_nil] at hp
   rcases List.mem_append.mp hp with hp | hp
   ·exact I5.pin p hp
   ·rw [List.mem_singleton.mp hp]
    exact pk
  refine thn (hs a oe (X.pn ++ pins ++ [(a, oe)]) _ (List.mem_append_right _ List.mem_cons_self) [] s5 _ H' _ (I5c _) (q a oe nt4.fl.off f2)) fun f s6 r => ?_
  cases f with
  | ret u => obtain ⟨_, _, _, _, _, z⟩ := r; exact z.elim
  | brk => obtain ⟨_, _, _, z⟩ := r; exact z.elim
  | cont => obtain ⟨_, _, _, z⟩ := r; exact z.elim
  | next =>
   obtain ⟨σ2, H2, J6, d⟩ := r
   have I6 : Inv X pins σ2 H2 s6 := J6.ofCaught o fun p hp => J6.pin p (List.mem_append_left _ (List.mem_append_left _ hp))
   refine wpAny_bind (wpAny_bindName (store_ok2 I6 hN hi (.inl hl) (v := .non) (u := .none) rfl (fun s7 I7 _ => ?_) (.inr hl)))
   have li : i < σ2.length := by rw [I6.len]; exact (List.getElem?_eq_some_iff.mp hi).1
   refine unbind_ok I7 hex hN hi hl (v := .non) (by rw [List.getElem?_set, if_pos rfl, if_pos li]) fun s8 I8 => ?_
   rw [List.set_set] at I8
   exact ⟨_, _, I8, d⟩
 have I1 : ∀ xe', Inv (X.pins (X.pn ++ pins) xe') [] σ H s := fun xe' => I.toPins fun p hp => I.pin p (by simpa using hp)
 refine thn (hb _ _ _ _ cat [] s σ H D (I1 _) h) fun f s1 q => ?_
 cases f with
 | next =>
  obtain ⟨σ', H', J, d⟩ := q
  exact pss_nil pins s1 σ' H' D (J.ofPins o fun p hp => J.pin p (List.mem_append_left _ hp)) d
 | brk =>
  obtain ⟨σ', H', J, d⟩ := q
  exact ⟨σ', H', J.ofPins o fun p hp => J.pin p (List.mem_append_left _ hp), d⟩
 | cont =>
  obtain ⟨σ', H', J, d⟩ := q
  exact ⟨σ', H', J.ofPins o fun p hp => J.pin p (List.mem_append_left _ hp), d⟩
 | ret u =>
  obtain ⟨v, σ', H', J, r, d⟩ := q
  exact ⟨v, σ', H', J.ofPins o fun p hp => J.pin p (List.mem_append_left _ hp), r, d⟩
end L2
set_option Elab.async false
set_option linter.all false
set_option maxRecDepth 100000
set_option maxHeartbeats 4000000
namespace L2
open PySem PySem.Spec PyProof.Rows
def quietIn (K : PySem.W.Frag) (N : Addr) : Bool := PySem.W.nsOkIn K N && quietNames.all fun n => PySem.W.nsIn K N n == some none
theorem bt_ValueError : bootBuiltins "ValueError" = some (.type "ValueError") := by decide +kernel
structure Xc (K : PySem.W.Frag) (mg : Str -> Option Value) (C : Addr) : Prop where
 nm : mg "NoText" = some (.ref C)
 own : ∀ h : Heap, K.In h -> OwnClsQ "NoText" C bmV "ValueError.__new__" mg h
 kc : ExcK K C
 hd : PySem.W.hasDictIn K C = true
theorem quiet_of {K : PySem.W.Frag} {h : Heap} {N : Addr} (KX : K.In h) (q : quietIn K N = true) : h.Ns N (h.nsMap N) /\ ∀ n ∈ quietNames, h.nsMap N n = none := by
 unfold quietIn at q
 rw [Bool.and_eq_true] at q
 refine ⟨Heap.Ns.of_isNs (PySem.W.isNs_of_in KX q.1), fun n hn => PySem.W.nsMap_none_of_in KX q.1 (eq_of_beq (List.all_eq_true.mp q.2 n hn))⟩
theorem nsOk_of {K : PySem.W.Frag} {N : Addr} {c : Value} {d : Option Addr} {es : Array DictEntry} {ep : Nat} {sl : Array (Option Value)} (l : K.lookup N = some ⟨c, d, .dict es ep, sl⟩) (h : (es.toList.all fun e => match e.key with | .str _ _ => true | _ => false) = true) : PySem.W.nsOkIn K N = true := by
 unfold PySem.W.nsOkIn
 rw [l]
 rw [Array.all_toList] at h
 exact h
theorem quietIn_of {K : PySem.W.Frag} {N : Addr} (h : PySem.W.nsOkIn K N = true) (h1 : PySem.W.nsIn K N "__init__" = some none) (h2 : PySem.W.nsIn K N "__getattribute__" = some none) (h3 : PySem.W.nsIn K N "__getattr__" = some none) (h4 : PySem.W.nsIn K N "args" = some none) : quietIn K N = true := by
 unfold quietIn quietNames
 rw [h]
 simp only [List.all_cons, List.all_nil, h1, h2, h3, h4]
 decide
theorem ownQ_parts {K : PySem.W.Frag} {h : Heap} {C S : Addr} {x : Str} {mg : Str -> Option Value} {od dS : Option Addr} {cd cdS : ClassData} {sl slS : Array (Option Value)} {cS : Value} {k0 k1 k2 k3 k5 : Option Value} {newId : String} (l : K.lookup C = some ⟨.type "type", od, .cls cd, sl⟩) (hm : cd.mro = .ref C :: .ref S :: bmV) (hsl : sl.toList = [k0, k1, k2, k3, some (.builtin newId), k5]) (hdel : cd.hasDel = false) (q1 : quietIn K cd.ns = true)
  (lS : K.lookup S = some ⟨cS, dS, .cls cdS, slS⟩) (q2 : quietIn K cdS.ns = true) (nm : mg x = some (.ref C)) (KX : K.In h) : OwnClsQ x C bmV newId mg h := by
 have hsl' : sl = #[k0, k1, k2, k3, some (.builtin newId), k5] := Array.toList_inj.mp hsl
 subst hsl'
 obtain ⟨n1, n2⟩ := quiet_of KX q1
 obtain ⟨n3, n4⟩ := quiet_of KX q2
 refine ⟨nm, .ref S :: bmV, cd.ns, cd.name, cd.qualname, cd.bases, cd.hasDict, cd.slotNames, cd.subclasses, cd.abstract, cd.collection, od, k0, k1, k2, k3, k5, h.nsMap cd.ns, ?_, n1, n2, .own (KX _ _ lS) n3 n4 .base⟩
 rw [KX _ _ l]
 cases cd
 simp_all [excClassObj]
theorem kit_parts {K : PySem.W.Frag} {C D : Addr} {b : Bool} (ne : (Value.ref C == Value.ref D) = false) (hd : PySem.W.hasDictIn K D = true) (ty : PySem.W.typeIn K (.ref D) = some (.type "type")) (sb : PySem.W.subIn K (.ref C) (.ref D) = some b) : PySem.W.kitOne K (.ref C) (.ref D) = some b := by
 unfold PySem.W.kitOne
 rw [ne, if_neg Bool.false_ne_true]
 unfold PySem.W.kitCls
 have hc : (PySem.W.clsIn K D).isSome = true := by
  unfold PySem.W.hasDictIn at hd
  cases e : PySem.W.clsIn K D with
  | none => rw [e] at hd; cases hd
  | some c => rfl
 dsimp only
 rw [hc, ty, if_pos (by decide)]
 exact sb
theorem kit_partsT {K : PySem.W.Frag} {C : Addr} {T : String} {b : Bool} (km : PySem.W.kitMeta T = true) (sb : PySem.W.subIn K (.ref C) (.type T) = some b) : PySem.W.kitOne K (.ref C) (.type T) = some b := by
 unfold PySem.W.kitOne
 rw [show (Value.ref C == Value.type T) = false from rfl, if_neg Bool.false_ne_true]
 unfold PySem.W.kitCls
 dsimp only
 rw [if_pos km]
 exact sb
end L2
set_option Elab.async false
set_option linter.all false
set_option maxRecDepth 100000
set_option maxHeartbeats 4000000
namespace L2
open PySem PySem.Spec PyProof.Rows
def Plain (l : List Nat) : Prop := NumText.AllDigits l /\ l ≠ [] /\ (l[0]? = some 48 -> l = [48])
theorem digit_char {c : Nat} (h : 48 <= c /\ c <= 57) : (Nat.digitChar (c - 48)).toNat = c := by
 have : ∀ d : Fin 10, (Nat.digitChar d.1).toNat = d.1 + 48 := by decide
 have e := this ⟨c - 48, by omega⟩
 rw [e]
 show c - 48 + 48 = c
 omega
theorem val_snoc (l : List Nat) (c : Nat) : NumText.digitsVal (l ++ [c]) = 10 * NumText.digitsVal l + (c - 48) := by
 unfold NumText.digitsVal
 rw [List.foldl_append, List.foldl_cons, List.foldl_nil, Nat.mul_comm]
theorem plain_pos : ∀ (n : Nat) (l : List Nat), l.length = n -> NumText.AllDigits l -> l ≠ [] -> l[0]? ≠ some 48 -> 0 < NumText.digitsVal l /\ (Nat.toDigits 10 (NumText.digitsVal l)).map Char.toNat = l := by
 intro n
 induction n with
 | zero => intro l h _ hn; exact absurd (List.length_eq_zero_iff.mp h) hn
 | succ n ih =>
  intro l h hd hn h0
  obtain ⟨l', c, rfl⟩ : ∃ l' c, l = l' ++ [c] := ⟨l.dropLast, l.getLast hn, (List.dropLast_concat_getLast hn).symm⟩
  have hc := hd c (by simp)
  have hl : l'.length = n := by simpa using h
  rw [val_snoc]
  by_cases he : l' = []
  ·subst he
   have c48 : c ≠ 48 := fun z => h0 (by rw [z]; rfl)
   show 0 < 10 * 0 + (c - 48) /\ _
   refine ⟨by omega, ?_⟩
   show (Nat.toDigits 10 (10 * 0 + (c - 48))).map Char.toNat = [c]
   rw [Nat.mul_zero, Nat.zero_add, Nat.toDigits_of_lt_base (by omega), List.map_cons, List.map_nil, digit_char hc]
  ·have h0' : l'[0]? ≠ some 48 := by
    intro z
    refine h0 ?_
    rw [List.getElem?_append_left (List.length_pos_iff.mpr he)]
    exact z
   obtain ⟨p, e⟩ := ih l' hl (fun x hx => hd x (List.mem_append_left _ hx)) he h0'
   refine ⟨by omega, ?_⟩
   rw [<- Nat.toDigits_append_toDigits (by decide) p (by omega : c - 48 < 10), List.map_append, e, Nat.toDigits_of_lt_base (by omega), List.map_cons, List.map_nil, digit_char hc]
theorem plain_num {z : Str} (h : Plain z.cps.toList) : z = num (NumText.digitsVal z.cps.toList : Nat) := by
 obtain ⟨hd, hn, h0⟩ := h
 apply str_ext
 rw [num_cps (Int.natCast_nonneg _), Int.toNat_natCast]
 by_cases e : z.cps.toList[0]? = some 48
 ·rw [h0 e]
  decide
 ·exact (plain_pos _ _ rfl hd hn e).2.symm
theorem num_plain {n : Int} (h : 0 <= n) : Plain (num n).cps.toList := by
 refine ⟨num_digits h, num_ne h, fun e => ?_⟩
 rw [num_head h e]
 decide
theorem val_lt {l : List Nat} (hd : NumText.AllDigits l) : NumText.digitsVal l < 10 ^ l.length := by
 have key : ∀ (n : Nat) (l : List Nat), l.length = n -> NumText.AllDigits l -> NumText.digitsVal l < 10 ^ n := by
  intro n
  induction n with
  | zero => intro l h _; rw [List.length_eq_zero_iff.mp h]; decide
  | succ n ih =>
   intro l h hd
   have hn : l ≠ [] := fun z => by rw [z] at h; cases h
   obtain ⟨l', c, rfl⟩ : ∃ l' c, l = l' ++ [c] := ⟨l.dropLast, l.getLast hn, (List.dropLast_concat_getLast hn).symm⟩
   have hc := hd c (by simp)
   have hl : l'.length = n := by simpa using h
   have := ih l' hl fun x hx => hd x (List.mem_append_left _ hx)
   rw [val_snoc, Nat.pow_succ]
   omega
 exact key _ l rfl hd
theorem plain_iff {z : Str} : (Plain z.cps.toList /\ z.length <= 40) ↔ ∃ n : Int, 0 <= n /\ n < 10 ^ 40 /\ z = num n := by
 constructor
 ·rintro ⟨h, hl⟩
  refine ⟨_, Int.natCast_nonneg _, ?_, plain_num h⟩
  have h1 := val_lt h.1
  have h2 : z.cps.toList.length = z.length := Array.length_toList
  rw [h2] at h1
  have h3 : 10 ^ z.length <= 10 ^ 40 := Nat.pow_le_pow_right (by decide) hl
  omega
 ·rintro ⟨n, h0, h1, rfl⟩
  exact ⟨num_plain h0, num_len h0 h1⟩
end L2
set_option linter.all false
set_option maxRecDepth 100000
namespace L2
open PySem PySem.Spec PyProof.Rows Hex
theorem split_back (z : Str) (c : Nat) : Txt.join ⟨#[c]⟩ (Txt.split z ⟨#[c]⟩) = z := by
 apply str_ext
 rw [tjoin_jn, <- join_jn, StrLaws.join_split]
theorem split_count (z : Str) (c : Nat) : (Txt.split z ⟨#[c]⟩).length <= z.length + 1 := by
 have h := tjoin_len c (Txt.split z ⟨#[c]⟩)
 rw [split_back] at h
 omega
theorem le_sum : ∀ {l : List Nat} {n : Nat}, n ∈ l -> n <= l.sum
 | x :: l, n, h => by
  rw [List.sum_cons]
  rcases List.mem_cons.mp h with rfl | h
  ·omega
  ·have := le_sum h
   omega
theorem split_piece {z p : Str} {c : Nat} (h : p ∈ Txt.split z ⟨#[c]⟩) : p.length <= z.length := by
 have e := tjoin_len c (Txt.split z ⟨#[c]⟩)
 rw [split_back] at e
 have := le_sum (List.mem_map.mpr ⟨p, h, rfl⟩ : p.length ∈ (Txt.split z ⟨#[c]⟩).map fun z => z.length)
 omega
theorem split_ne (z : Str) (c : Nat) : Txt.split z ⟨#[c]⟩ ≠ [] := fun e => by
 have := split_pos z ⟨#[c]⟩
 rw [e] at this
 exact absurd this (by decide)
theorem wd_split {m : Nat} {c : C} (h1 : m ∉ (num c.1).cps.toList) (h2 : m ∉ (num c.2).cps.toList) : Txt.split (wd m c) ⟨#[m]⟩ = [num c.1, num c.2] :=
 split_join (by simp) (by simp only [List.mem_cons, List.not_mem_nil, or_false]; rintro w (rfl | rfl) <;> assumption)
theorem wd_of {m : Nat} {z : Str} {a b : Int} (e : Txt.split z ⟨#[m]⟩ = [num a, num b]) : z = wd m (a, b) := by
 rw [<- split_back z m, e]
 rfl
theorem words_good {m : Nat} {t : Str} {cs : List C} (e : Txt.split t ⟨#[32]⟩ = cs.map (wd m)) : t = shown m cs := by
 unfold shown
 rw [if_neg (fun z => split_ne t 32 (by rw [e, z]; rfl)), <- e, split_back]
theorem shown_split {m : Nat} {ts : List C} (hm : 32 ≠ m) (h : ts ≠ []) : Txt.split (shown m ts) ⟨#[32]⟩ = ts.map (wd m) := by
 unfold shown
 rw [if_neg h]
 refine split_join (by simpa using h) fun w hw => ?_
 obtain ⟨c, _, rfl⟩ := List.mem_map.mp hw
 exact wd_free hm (by decide) (by decide)
theorem words_bad {m : Nat} {G : C -> Prop} {t p : Str} (hm : 32 ≠ m) (tn : t ≠ "none") (hp : p ∈ Txt.split t ⟨#[32]⟩) (h : ∀ c, G c -> p ≠ wd m c) (ts : List C) (ht : ∀ c ∈ ts, G c) : t ≠ shown m ts := by
 rintro rfl
 have hz : ts ≠ [] := fun e => tn (by subst e; rfl)
 rw [shown_split hm hz] at hp
 obtain ⟨c, hc, e⟩ := List.mem_map.mp hp
 exact h c (ht c hc) e.symm
theorem shown_count {m : Nat} {ts : List C} (hm : 32 ≠ m) : ts.length <= (shown m ts).length + 1 := by
 by_cases h : ts = []
 ·rw [h]; exact Nat.zero_le _
 ·have := split_count (shown m ts) 32
  rw [shown_split hm h, List.length_map] at this
  exact this
theorem words_all {m : Nat} {G : C -> Prop} : ∀ {zs : List Str}, (∀ p ∈ zs, ∃ c, G c /\ p = wd m c) -> ∃ cs : List C, (∀ c ∈ cs, G c) /\ zs = cs.map (wd m)
 | [], _ => ⟨[], fun _ h => absurd h List.not_mem_nil, rfl⟩
 | z :: zs, h => by
  obtain ⟨c, g, e⟩ := h z List.mem_cons_self
  obtain ⟨cs, gs, es⟩ := words_all fun p hp => h p (List.mem_cons_of_mem z hp)
  refine ⟨c :: cs, fun x hx => ?_, by rw [e, es]; rfl⟩
  rcases List.mem_cons.mp hx with rfl | hx
  ·exact g
  ·exact gs x hx
def WoH (m : Nat) (G : C -> Prop) (H : Hp) (v : V) (z : Str) : Prop := ∃ c, G c /\ z = wd m c /\ Ce H v c
theorem stays_Wo {m : Nat} {G : C -> Prop} : Stays (WoH m G) := fun _ _ _ _ t ⟨c, h1, h2, h3⟩ => ⟨c, h1, h2, stays_Ce _ _ _ _ t h3⟩
theorem Wo_all {m : Nat} {G : C -> Prop} {H : Hp} : ∀ {ys : List V} {zs : List Str}, Paired (WoH m G H) ys zs -> ∃ cs : List C, (∀ c ∈ cs, G c) /\ zs = cs.map (wd m) /\ Paired (Ce H) ys cs
 | _, _, .nil => ⟨[], fun _ h => absurd h List.not_mem_nil, rfl, .nil⟩
 | _, _, .cons ⟨c, h1, h2, h3⟩ r => by
  obtain ⟨cs, g, e, p⟩ := Wo_all r
  refine ⟨c :: cs, fun x hx => ?_, by rw [h2, e]; rfl, .cons h3 p⟩
  rcases List.mem_cons.mp hx with rfl | hx
  ·exact h1
  ·exact g x hx
theorem num_inj {n m : Int} (h : 0 <= n) (h' : 0 <= m) (e : num n = num m) : n = m := by
 have h1 := num_val h
 have h2 := num_val h'
 rw [e] at h1
 omega
theorem num_injZ {n m : Int} (e : num n = num m) : n = m := by
 by_cases hn : n < 0
 ·by_cases hm : m < 0
  ·have := congrArg (fun z : Str => z.cps.toList) e
   rw [num_neg hn, num_neg hm] at this
   injection this with _ h
   have := num_inj (by omega) (by omega) (str_ext h)
   omega
  ·have h1 : 45 ∈ (num m).cps.toList := by rw [<- e, num_neg hn]; exact List.mem_cons_self
   have := num_digits (by omega) 45 h1
   omega
 ·by_cases hm : m < 0
  ·have h1 : 45 ∈ (num n).cps.toList := by rw [e, num_neg hm]; exact List.mem_cons_self
   have := num_digits (by omega) 45 h1
   omega
  ·exact num_inj (by omega) (by omega) e
theorem num_nn {n : Int} (h : 45 ∉ (num n).cps.toList) : 0 <= n := by
 by_cases hn : n < 0
 ·exact absurd (by rw [num_neg hn]; exact List.mem_cons_self) h
 ·omega
def Fg (z y : Str) : Prop := z.cps.toList = 45 :: y.cps.toList \/ (y = z /\ z.cps.toList[0]? ≠ some 45)
theorem num_no45 {n : Int} (h0 : 0 <= n) : (num n).cps.toList[0]? ≠ some 45 := fun e => by
 have := num_digits h0 45 (List.mem_of_getElem? e)
 omega
theorem fg_bad {z y : Str} (f : Fg z y) (h : ¬ (Plain y.cps.toList /\ y.length <= 40 /\ z ≠ "-0")) (n : Int) (n0 : -10 ^ 40 < n) (n1 : n < 10 ^ 40) : z ≠ num n := by
 rintro rfl
 rcases f with f | ⟨rfl, f⟩
 ·by_cases hn : n < 0
  ·rw [num_neg hn] at f
   injection f with _ f
   have e : num (-n) = y := str_ext f
   obtain ⟨h1, h2⟩ := plain_iff.mpr ⟨-n, by omega, by omega, e.symm⟩
   refine h ⟨h1, h2, fun e0 => ?_⟩
   have e1 := congrArg (fun z : Str => z.cps.toList) e0
   rw [num_neg hn] at e1
   have e2 : num (-n) = num 0 := str_ext (by
    have : ("-0" : Str).cps.toList = 45 :: (num 0).cps.toList := by decide
    rw [this] at e1
    injection e1)
   have := num_inj (by omega) (by decide) e2
   omega
  ·exact num_no45 (n := n) (by omega) (by rw [f]; rfl)
 ·by_cases hn : n < 0
  ·exact f (by rw [num_neg hn]; rfl)
  ·obtain ⟨h1, h2⟩ := plain_iff.mpr ⟨n, by omega, n1, rfl⟩
   exact h ⟨h1, h2, fun e0 => f (by rw [e0]; decide)⟩
theorem fg_good {z y : Str} (f : Fg z y) (h1 : Plain y.cps.toList) (h2 : y.length <= 40) (h3 : z ≠ "-0") : ∃ n : Int, -10 ^ 40 < n /\ n < 10 ^ 40 /\ z = num n /\ PySem.intText? z = some n := by
 obtain ⟨k, k0, k1, rfl⟩ := plain_iff.mp ⟨h1, h2⟩
 rcases f with f | ⟨rfl, f⟩
 ·have hk : k ≠ 0 := fun e => h3 (str_ext (by rw [f, e]; decide))
  refine ⟨-k, by omega, by omega, str_ext (by rw [f, num_neg (by omega : -k < 0), Int.neg_neg]), ?_⟩
  rw [intText_neg f (num_digits k0) (num_ne k0) (by rw [len_cps, f, List.length_cons, <- len_cps]; omega), num_val k0]
 ·exact ⟨k, by omega, k1, rfl, num_read k0 k1⟩
theorem sl_one {z : Str} : Txt.slice z none (some 1) = ⟨#[45]⟩ ↔ z.cps.toList[0]? = some 45 := by
 by_cases h : 1 <= z.length
 ·have e : (Txt.slice z none (some 1)).cps.toList = z.cps.toList.take 1 := sl_to (k := 1) (by decide) (by omega)
  constructor
  ·intro h2
   rw [h2] at e
   cases hz : z.cps.toList with
   | nil => rw [hz] at e; cases e
   | cons x l => rw [hz] at e; injection e with e _; rw [<- e]; rfl
  ·intro h2
   apply str_ext
   rw [e]
   cases hz : z.cps.toList with
   | nil => rw [hz] at h2; cases h2
   | cons x l => rw [hz] at h2; cases h2; rfl
 ·have : z.cps.toList = [] := List.length_eq_zero_iff.mp (by rw [<- len_cps]; omega)
  have e : z = ⟨#[]⟩ := str_ext this
  subst e
  constructor
  ·intro h; exact absurd h (by decide)
  ·intro h; exact absurd h (by decide)
theorem cut_one {z : Str} (h : z.cps.toList[0]? = some 45) : z.cps.toList = 45 :: (Txt.slice z (some 1) none).cps.toList := by
 have hl : 0 < z.length := by
  have := (List.getElem?_eq_some_iff.mp h).1
  rw [Array.length_toList] at this
  exact this
 have cut : (Txt.slice z (some 1) none).cps.toList = z.cps.toList.drop 1 := sl_from (k := 1) (by decide) (by omega)
 rw [cut]
 cases e : z.cps.toList with
 | nil => rw [e] at h; cases h
 | cons x l => rw [e] at h; cases h; rfl
theorem gf_str {z : Str} {g : TG} {tb : TS} {D : Ends} {σ : St} {H : Hp} (Pv : Nat -> St -> Hp -> Prop) (h0 : Pv 0 σ H)
  (hs : ∀ i c σ H, z.cps.toList[i]? = some c -> Pv i σ H -> g (.str ⟨#[c]⟩) σ H fun σ2 H2 => tb { D with nx := Pv (i + 1), ct := Pv (i + 1), bk := D.nx } σ2 H2) (hd : ∀ σ H, Pv z.length σ H -> D.nx σ H) : ForGo (Itx z) g tb D σ H := by
 refine ⟨fun i m σ H => m = z.length - i /\ i <= z.length /\ Pv i σ H, ⟨_, rfl, Nat.zero_le _, h0⟩, ?_⟩
 rintro i m σ H ⟨rfl, hi, p⟩
 by_cases hlt : i < z.length
 ·refine .inr ⟨hlt, Pv (i + 1), fun σ' H' p' => ⟨z.length - (i + 1), by omega, rfl, hlt, p'⟩, fun x H' y => ?_⟩
  obtain ⟨rfl, c, hc, rfl⟩ := y
  exact hs i c σ _ (by rw [Array.getElem?_toList]; exact hc) p
 ·have e : i = z.length := by omega
  subst e
  exact .inl ⟨rfl, hd σ H p⟩
theorem sl_from_le {z : Str} {k : Int} (h0 : 0 <= k) : (Txt.slice z (some k) none).length <= z.length - k.toNat := by
 by_cases h : k <= z.length
 ·rw [len_cps, sl_from h0 h, List.length_drop, <- len_cps]
  exact Nat.le_refl _
 ·rw [slice_beyond (by omega)]
  exact Nat.zero_le _
theorem sl_to_le {z : Str} {k : Int} (h0 : 0 <= k) (h : k <= z.length) : (Txt.slice z none (some k)).length <= k.toNat := by
 rw [len_cps, sl_to h0 h, List.length_take]
 exact Nat.min_le_left _ _
theorem app_lenS (x y : Str) : (x ++ y).length = x.length + y.length := by
 rw [len_cps, app_cps, List.length_append, <- len_cps, <- len_cps]
def Mv (H : Hp) (p : Addr) (H' : Hp) : Prop := (∀ b o, b ≠ p -> H b = some o -> H' b = some o) /\ ∃ x : Int, H' p = some (.lst [.int x])
theorem Mv.refl {H : Hp} {p : Addr} {x : Int} (h : H p = some (.lst [.int x])) : Mv H p H := ⟨fun _ _ _ h => h, x, h⟩
theorem Mv.put {H H1 : Hp} {p : Addr} (a : Mv H p H1) (x : Int) : Mv H p (upd H1 p (.lst [.int x])) := ⟨fun c o n h => by rw [upd_ne n]; exact a.1 c o n h, x, upd_same⟩
theorem Mv.same {H H1 H2 : Hp} {p : Addr} (a : Mv H p H1) (b : Same H1 H2) : Mv H p H2 := by
 obtain ⟨a, x, e⟩ := a
 exact ⟨fun c o n h => b _ _ (a c o n h), x, b _ _ e⟩
theorem Mv.at {H H1 : Hp} {p w : Addr} (a : Mv H p H1) (hw : H w = none) (hp : p ≠ w) (o : HO) : Mv H p (upd H1 w o) := by
 obtain ⟨a, x, e⟩ := a
 refine ⟨fun c u n h => ?_, x, by rw [upd_ne hp]; exact e⟩
 rw [upd_ne (ne_of_none h hw)]
 exact a c u n h
theorem Mv.under {H H1 H2 : Hp} {p : Addr} (s : Same H H1) (h : H p = none) (a : Mv H1 p H2) : Same H H2 := fun b o e => a.1 b o (ne_of_none e h) (s b o e)
theorem plain_call {f : Expr} {xs : List Expr} {ks : List Keyword} {pos : Pos} : PlainIx (.Call f xs ks pos) := fun _ _ => rfl
theorem plain_bin {a b : Expr} {o : Operator} {pos : Pos} : PlainIx (.BinOp a o b pos) := fun _ _ => rfl
theorem plain_name {n : Str} {pos : Pos} : PlainIx (.Name n pos) := fun _ _ => rfl
end L2
set_option linter.all false
set_option maxRecDepth 100000
namespace L2
open PySem PySem.Spec PyProof.Rows Hex
structure BE (X : Cx) (e : Expr) (t : TE) : Prop where h : PE X e t
structure BT (X : Cx) (e : Expr) (t : TT) : Prop where h : PT X e t
structure BW (X : Cx) (e : Expr) (t : TT) : Prop where h : PW X e t
structure BA (X : Cx) (es : List Expr) (t : TA) : Prop where h : PA X es t
structure BS (X : Cx) (st : Stmt) (t : TS) : Prop where h : PS X st t
structure BSs (X : Cx) (st : List Stmt) (t : TS) : Prop where h : PSs X st t
structure BG (X : Cx) (e : Expr) (t : TG) : Prop where h : PG X e t
structure BGs (X : Cx) (es : List Expr) (t : TGs) : Prop where h : PGs X es t
structure BI (X : Cx) (tg it : Expr) (w : TI) : Prop where h : PI X tg it w
namespace Bx
section
variable {X : Cx} {st : Stmt} {rest : List Stmt} {t u tb : TS} {pos p p' apos : Pos} {e a b c tg o : Expr} {es : List Expr} {te ta tc to : TE} {tA tE : TT} {ts : TA} {g : TG} {gs : TGs} {wi : TI} {x : Str}
theorem pss_cons (h1 : BS X st t) (h2 : BSs X rest u) : BSs X (st :: rest) (tSeq t u) := ⟨L2.pss_cons h1.h h2.h⟩
theorem pss_one (h1 : BS X st t) : BSs X [st] t := ⟨L2.pss_one h1.h⟩
theorem pss_nil : BSs X [] tNext := ⟨L2.pss_nil⟩
theorem ps_join (h : BS X st t) : BS X st (tJ t) := ⟨L2.ps_join h.h⟩
theorem ps_if {l k : List Stmt} (hc : BT X c tA) (ha : BSs X l t) (hb : BSs X k u) : BS X (.If c l k pos) (tIfS tA t u) := ⟨L2.ps_if hc.h ha.h hb.h⟩
theorem ps_for {l : List Stmt} (hp : PassesOwn (model X.prog X.w) X.A X.env X.xe) (hc : X.calm = true) (hi : BI X tg e wi) (hg : BG X tg g) (hb : BSs X l tb) (hs : ∀ x, foldedSetIterable e X.env x = pure x := by intro _; rfl) : BS X (.For tg e l [] pos) (tFor wi g tb) := ⟨L2.ps_for hp hc hi.h hg.h hb.h hs⟩
theorem ps_ret (he : BE X e te) : BS X (.Return (some e) pos) (tRet te) := ⟨L2.ps_ret he.h⟩
theorem ps_expr (he : BE X e te) (hs : swapsWith e none pos.line X.env = pure false := by rfl) : BS X (.Expr e pos) (tDrop te) := ⟨L2.ps_expr he.h hs⟩
theorem ps_set {i : Nat} (hN : X.N.Nodup) (hi : X.N[i]? = some x) (hx : Loc X.env.scope x) (he : BE X e te) (hs : swapsWith e (some (.Name x p)) pos.line X.env = pure false := by rfl) (hf : X.fn x = true \/ X.env.scope.names.lookup x = some .local := by first | exact .inl rfl | exact .inr rfl | assumption) : BS X (.Assign [.Name x p] e pos) (tAsg te (gName i)) := ⟨L2.ps_set hN hi hx he.h hs hf⟩
theorem ps_asg (he : BE X e te) (hg : BG X tg g) (hs : swapsWithSole [tg] e pos.line X.env = pure false := by rfl) (hw : swappedStores [tg] e X.env = pure none := by rfl) (h1 : (assignEach [tg] X.env).map (·.2) = [assign tg X.env] := by rfl) : BS X (.Assign [tg] e pos) (tAsg te g) := ⟨L2.ps_asg he.h hg.h hs hw h1⟩
theorem pe_callG {k : Nat} {ps : List Str} {sp : Sp} (F : Fn X.prog X.w X.K X.mg X.base k x ps sp) (hr : Room k X.A) (hg : Gl X x) (ha : BA X (e :: es) ts) (hdb : (x == ("__debug__" : Str)) = false := by decide) (he : starEach (e :: es) X.env = (false, eval e X.env) :: starEach es X.env := by rfl) (hpl : (backTo pos (starEach es X.env)).any (·.1) = false := by rfl) : BE X (.Call (.Name x p) (e :: es) [] pos) (tCall sp [] E0 ts) := ⟨L2.pe_callG F hr hg ha.h hdb he hpl⟩
theorem pe_callB {id : String} {r : List V -> Hp -> VK -> Prop} (hc : CallR X (.builtin id) r) (hg : Gl X x) (hm : X.mg x = none) (hv : bootBuiltins x = some (.builtin id)) (ha : BA X (e :: es) ts) (hn : x ≠ "__name__" := by decide) (hdb : (x == ("__debug__" : Str)) = false := by decide) (he : starEach (e :: es) X.env = (false, eval e X.env) :: starEach es X.env := by rfl) (hpl : (backTo pos (starEach es X.env)).any (·.1) = false := by rfl) : BE X (.Call (.Name x p) (e :: es) [] pos) (tCB r ts) := ⟨L2.pe_callB hc hg hm hv ha.h hn hdb he hpl⟩
theorem pe_callTy {T : String} {r : List V -> Hp -> VK -> Prop} (hc : CallR X (.type T) r) (hg : Gl X x) (hm : X.mg x = none) (hv : bootBuiltins x = some (.type T)) (ha : BA X (e :: es) ts) (hn : x ≠ "__name__" := by decide) (hdb : (x == ("__debug__" : Str)) = false := by decide) (he : starEach (e :: es) X.env = (false, eval e X.env) :: starEach es X.env := by rfl) (hpl : (backTo pos (starEach es X.env)).any (·.1) = false := by rfl) : BE X (.Call (.Name x p) (e :: es) [] pos) (tCB r ts) := ⟨L2.pe_callTy hc hg hm hv ha.h hn hdb he hpl⟩
theorem pa_cons (ha : BE X e te) (hr : BA X es ts) (hs : starEach (e :: es) X.env = (false, eval e X.env) :: starEach es X.env := by rfl) : BA X (e :: es) (tCons te ts) := ⟨L2.pa_cons ha.h hr.h hs⟩
theorem pa_nil : BA X [] tNil := ⟨L2.pa_nil⟩
theorem pe_int {i : Int} {j} : BE X (.Constant (.int i) j pos) (tC (.int i)) := ⟨L2.pe_int⟩
theorem pe_bl {b : Bool} {j} : BE X (.Constant (.bool b) j pos) (tC (.bl b)) := ⟨L2.pe_bl⟩
theorem pe_non {j} : BE X (.Constant .none j pos) (tC .non) := ⟨L2.pe_non⟩
theorem pe_str {j} : BE X (.Constant (.str x) j pos) (tC (.str x)) := ⟨L2.pe_str⟩
theorem pe_lst (h : BA X es ts) : BE X (.List es pos) (tLst ts) := ⟨L2.pe_lst h.h⟩
theorem pv (i : Nat) (hN : X.N[i]? = some x := by rfl) (hv : Vis X.env.scope x := by first | exact Or.inl rfl | exact Or.inr (Or.inl rfl) | exact Or.inr (Or.inr rfl)) (hd : (x == ("__debug__" : Str)) = false := by decide) (hcd : (x == ("__classdict__" : Str)) = false := by decide) : BE X (.Name x pos) (tVar i) := ⟨L2.pv i hN hv hd hcd⟩
theorem pt_cmpR {op : CmpOp} {r : R2} (ho : OpR X (compareOp op) r) (ha : BE X a ta) (hb : BE X b te) (hm : behindInMarks op b = false) : BT X (.Compare a [op] [b] pos) (tTest (tOp r ta te)) := ⟨L2.pt_cmpR ho ha.h hb.h hm⟩
theorem pe_cmpR {op : CmpOp} {r : R2} (ho : OpR X (compareOp op) r) (ha : BE X a ta) (hb : BE X b te) (hm : behindInMarks op b = false) : BE X (.Compare a [op] [b] pos) (tOp r ta te) := ⟨L2.pe_cmpR ho ha.h hb.h hm⟩
theorem pe_op {op : Operator} {r : R2} (ho : OpR X (binaryOp op) r) (ha : BE X a ta) (hb : BE X b te) : BE X (.BinOp a op b pos) (tOp r ta te) := ⟨L2.pe_op ho ha.h hb.h⟩
theorem pe_ix {r : R2} (hr : IxR X r) (ha : BE X a ta) (hb : BE X b te) (hs : PlainIx b) : BE X (.Subscript a b pos) (tOp r ta te) := ⟨L2.pe_ix hr ha.h hb.h hs⟩
theorem pe_bm {T id : String} {r : V -> List V -> Hp -> VK -> Prop} (pa : PlainAttrs T) (slot : Slot T x id) (hty : typeOf (.builtin id) = pure (.type "method_descriptor")) (hm : MtR X id r) (ho : BE X o to) (ha : BA X (e :: es) ts)
  (hbase : attributeBase o x X.env (eval o X.env) = eval o X.env := by rfl)
  (hfew : ((backTo pos (starEach (e :: es) X.env)).all (fun x => !x.1) && (backToKw pos (keywordEach [] X.env)).all (fun x => x.1.isSome) && decide ((e :: es).length + ([] : List Keyword).length + (if ([] : List Keyword).isEmpty then 0 else 1) < 30)) = true := by rfl)
  (hline : (apos.endLine == pos.line) = true := by rfl) (hs : starEach (e :: es) X.env = (false, eval e X.env) :: starEach es X.env := by rfl) (hplain : (backTo pos (starEach es X.env)).any (·.1) = false := by rfl) :
  BE X (.Call (.Attribute o x apos) (e :: es) [] pos) (tBM X.K T r to ts) := ⟨L2.pe_bm pa slot hty hm ho.h ha.h hbase hfew hline hs hplain⟩
theorem pi_range1 (hg : Gl X "range") (hm : X.mg "range" = none) (ha : BA X [a] ts) (hs : starEach [a] X.env = [(false, eval a X.env)] := by rfl) : BI X tg (.Call (.Name "range" p) [a] [] pos) (iRng1 ts) := ⟨L2.pi_range1 hg hm ha.h hs⟩
theorem pg_name {i : Nat} (hN : X.N.Nodup) (hi : X.N[i]? = some x) (hx : Loc X.env.scope x) (hf : X.fn x = true \/ X.env.scope.names.lookup x = some .local := by first | exact .inl rfl | exact .inr rfl | assumption) : BG X (.Name x pos) (gName i) := ⟨L2.pg_name hN hi hx hf⟩
theorem pg_tup {k n : Nat} (hc : X.calm = true) (h : BGs X es gs) (hn : (assignEach es X.env).length = n := by rfl) (hst : (assignEach es X.env).findIdx? (·.1) = none := by rfl) : BG X (.Tuple es k pos) (gTup X.K n gs) := ⟨L2.pg_tup hc h.h hn hst⟩
theorem pgs_cons (h1 : BG X e g) (h2 : BGs X es gs) (hs : (assignEach (e :: es) X.env).map (·.2) = assign e X.env :: (assignEach es X.env).map (·.2) := by rfl) : BGs X (e :: es) (gCons g gs) := ⟨L2.pgs_cons h1.h h2.h hs⟩
theorem pgs_nil : BGs X [] gNil := ⟨L2.pgs_nil⟩
theorem pt_not (ha : BT X a tA) : BT X (.UnaryOp .Not a pos) (tNot tA) := ⟨L2.pt_not ha.h⟩
theorem pt_val (h : BE X e te) (he : ∀ whole, isTrue e X.env whole = (do let v <- whole; standAt e.pos; holding [v] (truthy v)) := by intro _; rfl) : BT X e (tB te) := ⟨L2.pt_val h.h he⟩
theorem pw_and {rs : List Expr} (ha : BT X a tA) (hb : BW X (.BoolOp .And (b :: rs) pos) tE) : BW X (.BoolOp .And (a :: b :: rs) pos) (tAnd tA tE) := ⟨L2.pw_and ha.h hb.h⟩
theorem pw_and1 (ha : BT X a tA) : BW X (.BoolOp .And [a] pos) tA := ⟨L2.pw_and1 ha.h⟩
theorem pw_or {rs : List Expr} (ha : BT X a tA) (hb : BW X (.BoolOp .Or (b :: rs) pos) tE) : BW X (.BoolOp .Or (a :: b :: rs) pos) (tOr tA tE) := ⟨L2.pw_or ha.h hb.h⟩
theorem pw_or1 (ha : BT X a tA) : BW X (.BoolOp .Or [a] pos) tA := ⟨L2.pw_or1 ha.h⟩
theorem pw_pt (h : BW X e tA) : BT X e tA := ⟨h.h.pt⟩
end
end Bx
end L2
namespace My
open PySem L2 Hex
def top (i : Nat) : Stmt := PySem.Challenge.pw_sootring_k36_texts_refused.main.body.getD i (.Pass ⟨0, 0, 0, 0⟩)
abbrev s_show_list : Stmt := top 11
abbrev s_show_pair : Stmt := top 12
abbrev s_show_cells : Stmt := top 13
abbrev s_show_ties : Stmt := top 14
abbrev s_read_figures : Stmt := top 15
abbrev s_read_number : Stmt := top 16
abbrev s_read_halves : Stmt := top 17
abbrev s_read_cell : Stmt := top 18
abbrev s_read_tie : Stmt := top 19
abbrev s_read_cells : Stmt := top 20
abbrev s_read_ties : Stmt := top 21
abbrev s_law_take : Stmt := top 23
abbrev s_law_purse : Stmt := top 24
abbrev s_law_whole : Stmt := top 25
abbrev s_law_cells_of : Stmt := top 26
abbrev s_law_ties_of : Stmt := top 27
abbrev s_law_asked : Stmt := top 28
abbrev s_law_tried : Stmt := top 29
abbrev s_law_right : Stmt := top 30
abbrev s_law_changed : Stmt := top 31
abbrev s_law : Stmt := top 32
theorem sc_show_list : FnScope ["words"] ["words"] (defScope s_show_list) := ⟨rfl, rfl, rfl, by decide +kernel, rfl, by decide +kernel, by decide +kernel⟩
theorem sc_show_pair : FnScope ["pair", "between"] ["pair", "between"] (defScope s_show_pair) := ⟨rfl, rfl, rfl, by decide +kernel, rfl, by decide +kernel, by decide +kernel⟩
theorem sc_show_cells : FnScope ["cells"] ["cells"] (defScope s_show_cells) := ⟨rfl, rfl, rfl, by decide +kernel, rfl, by decide +kernel, by decide +kernel⟩
theorem sc_show_ties : FnScope ["ties"] ["ties"] (defScope s_show_ties) := ⟨rfl, rfl, rfl, by decide +kernel, rfl, by decide +kernel, by decide +kernel⟩
theorem sc_read_figures : FnScope ["text"] ["text"] (defScope s_read_figures) := ⟨rfl, rfl, rfl, by decide +kernel, rfl, by decide +kernel, by decide +kernel⟩
theorem sc_read_number : FnScope ["text", "number"] ["text"] (defScope s_read_number) := ⟨rfl, rfl, rfl, by decide +kernel, rfl, by decide +kernel, by decide +kernel⟩
theorem sc_read_halves : FnScope ["word", "between", "halves"] ["word", "between"] (defScope s_read_halves) := ⟨rfl, rfl, rfl, by decide +kernel, rfl, by decide +kernel, by decide +kernel⟩
theorem sc_read_cell : FnScope ["word", "halves"] ["word"] (defScope s_read_cell) := ⟨rfl, rfl, rfl, by decide +kernel, rfl, by decide +kernel, by decide +kernel⟩
theorem sc_read_tie : FnScope ["word", "halves", "tie"] ["word"] (defScope s_read_tie) := ⟨rfl, rfl, rfl, by decide +kernel, rfl, by decide +kernel, by decide +kernel⟩
theorem sc_read_cells : FnScope ["text"] ["text"] (defScope s_read_cells) := ⟨rfl, rfl, rfl, by decide +kernel, rfl, by decide +kernel, by decide +kernel⟩
theorem sc_read_ties : FnScope ["text"] ["text"] (defScope s_read_ties) := ⟨rfl, rfl, rfl, by decide +kernel, rfl, by decide +kernel, by decide +kernel⟩
theorem sc_law_take : FnScope ["_law_draw", "_law_many", "_law_digit"] ["_law_draw", "_law_many"] (defScope s_law_take) := ⟨rfl, rfl, rfl, by decide +kernel, rfl, by decide +kernel, by decide +kernel⟩
theorem sc_law_purse : FnScope ["_law_script", "_law_k", "_law_plain", "_law_cell", "_law_digits", "_law_mix", "_law_come", "_law_j"] ["_law_script", "_law_k", "_law_plain"] (defScope s_law_purse) := ⟨rfl, rfl, rfl, by decide +kernel, rfl, by decide +kernel, by decide +kernel⟩
theorem sc_law_whole : FnScope ["_law_text", "_law_figures", "_law_sign"] ["_law_text"] (defScope s_law_whole) := ⟨rfl, rfl, rfl, by decide +kernel, rfl, by decide +kernel, by decide +kernel⟩
theorem sc_law_cells_of : FnScope ["_law_text", "_law_cells", "_law_word", "_law_parts_of"] ["_law_text"] (defScope s_law_cells_of) := ⟨rfl, rfl, rfl, by decide +kernel, rfl, by decide +kernel, by decide +kernel⟩
theorem sc_law_ties_of : FnScope ["_law_text", "_law_ties", "_law_word", "_law_parts_of"] ["_law_text"] (defScope s_law_ties_of) := ⟨rfl, rfl, rfl, by decide +kernel, rfl, by decide +kernel, by decide +kernel⟩
theorem sc_law_asked : FnScope ["_law_text", "_law_way"] ["_law_text", "_law_way"] (defScope s_law_asked) := ⟨rfl, rfl, rfl, by decide +kernel, rfl, by decide +kernel, by decide +kernel⟩
theorem sc_law_tried : FnScope ["_law_text", "_law_way", "_law_refused", "_law_told", "e", "_law_others"] ["_law_text", "_law_way"] (defScope s_law_tried) := ⟨rfl, rfl, rfl, by decide +kernel, rfl, by decide +kernel, by decide +kernel⟩
theorem sc_law_right : FnScope ["_law_draw", "_law_way", "_law_words", "_law_k", "_law_one", "_law_other"] ["_law_draw", "_law_way"] (defScope s_law_right) := ⟨rfl, rfl, rfl, by decide +kernel, rfl, by decide +kernel, by decide +kernel⟩
theorem sc_law_changed : FnScope ["_law_draw", "_law_text", "_law_signs", "_law_at", "_law_kind", "_law_sign"] ["_law_draw", "_law_text"] (defScope s_law_changed) := ⟨rfl, rfl, rfl, by decide +kernel, rfl, by decide +kernel, by decide +kernel⟩
theorem sc_law : FnScope ["_law_script", "_law_draw", "_law_plain", "_law_odd", "_law_k", "_law_way", "_law_text", "_law_lap", "_law_due", "_law_refused", "_law_told"] ["_law_script"] (defScope s_law) := ⟨rfl, rfl, rfl, by decide +kernel, rfl, by decide +kernel, by decide +kernel⟩
theorem sml {n : Nat} (h : n <= 100000) : n < sizeLine := Nat.lt_of_le_of_lt h (by decide)
theorem mul120 : IntMulOk (10 ^ Int.toNat 60) (10 ^ Int.toNat 60) := by
 unfold IntMulOk
 decide
theorem t32 : (" " : Str) = ⟨#[32]⟩ := by decide
theorem t45 : ("-" : Str) = ⟨#[45]⟩ := by decide
theorem t58 : (":" : Str) = ⟨#[58]⟩ := by decide
theorem t48 : ("0" : Str) = ⟨#[48]⟩ := by decide
theorem fig_cps : ("0123456789" : Str).cps.toList = [48, 49, 50, 51, 52, 53, 54, 55, 56, 57] := by decide
theorem fig_in {c : Nat} (h : 48 <= c /\ c <= 57) : (!(Builtin.Str.occurrences ("0123456789" : Str) ⟨#[c]⟩ 0 ("0123456789" : Str).length 1).isEmpty) = true := by
 rw [StrLaws.found_one, fig_cps]
 have : c = 48 \/ c = 49 \/ c = 50 \/ c = 51 \/ c = 52 \/ c = 53 \/ c = 54 \/ c = 55 \/ c = 56 \/ c = 57 := by omega
 rcases this with rfl | rfl | rfl | rfl | rfl | rfl | rfl | rfl | rfl | rfl <;> rfl
theorem wd_le (m : Nat) (cs : List C) (h : ∀ c ∈ cs, small c) : ∀ z ∈ cs.map (wd m), z.length <= 100 := by
 intro z hz
 obtain ⟨c, hc, rfl⟩ := List.mem_map.mp hz
 exact Nat.le_trans (wd_len (h c hc)) (by decide)
def tie (c : C) : Prop := 0 <= c.1 /\ c.1 < c.2 /\ c.2 < 10 ^ 40
theorem tie.small {c : C} (h : tie c) : small c := by
 obtain ⟨h1, h2, h3⟩ := h
 refine ⟨⟨?_, ?_⟩, ?_, ?_⟩ <;> omega
theorem iteD' {c A B : Prop} [Decidable c] (hc : c) (h : A) : if decide c = true then A else B := by rw [decide_eq_true hc]; exact h
def Xi (K : PySem.W.Frag) (mg : Str -> Option Value) (C : Addr) : Prop := ∃ c_SootError, mg "SootError" = some (.ref c_SootError) /\ PySem.W.kitOne K (.ref C) (.ref c_SootError) = some true /\ ∃ c_NoCell, mg "NoCell" = some (.ref c_NoCell) /\ PySem.W.kitOne K (.ref C) (.ref c_NoCell) = some false /\ ∃ c_NoWord, mg "NoWord" = some (.ref c_NoWord) /\ PySem.W.kitOne K (.ref C) (.ref c_NoWord) = some false /\ ∃ c_NoPairing, mg "NoPairing" = some (.ref c_NoPairing) /\ PySem.W.kitOne K (.ref C) (.ref c_NoPairing) = some false /\ ∃ c_NoRow, mg "NoRow" = some (.ref c_NoRow) /\ PySem.W.kitOne K (.ref C) (.ref c_NoRow) = some false /\ PySem.W.kitOne K (.ref C) (.type "ValueError") = some true
def sp_show_list (K : PySem.W.Frag) : Sp := fun vs H Q _ => ∃ l zs, vs = [.ref l] /\ SqL K H l (zs.map V.str) /\ (∀ z ∈ zs, z.length <= 100) /\ zs.length <= 1000 /\ Q (.str (if zs = [] then "none" else Txt.join ⟨#[32]⟩ zs)) H
def sp_show_pair (K : PySem.W.Frag) : Sp := fun vs H Q _ => ∃ v c b m, vs = [v, .str b] /\ b = ⟨#[m]⟩ /\ Ce H v c /\ small c /\ Q (.str (wd m c)) H
def sp_show_cells (K : PySem.W.Frag) : Sp := fun vs H Q _ => ∃ l us cs, vs = [.ref l] /\ SqL K H l us /\ Cs H us cs /\ (∀ c ∈ cs, small c) /\ cs.length <= 1000 /\ ∀ H', Same H H' -> Q (.str (shown 58 cs)) H'
def sp_show_ties (K : PySem.W.Frag) : Sp := fun vs H Q _ => ∃ l us cs, vs = [.ref l] /\ SqL K H l us /\ Cs H us cs /\ (∀ c ∈ cs, small c) /\ cs.length <= 1000 /\ ∀ H', Same H H' -> Q (.str (shown 45 cs)) H'
def sp_read_figures (K : PySem.W.Frag) : Sp := fun vs H Q E => ∃ z : Str, vs = [.str z] /\ z.length <= 10000 /\ (∀ n, 0 <= n -> n < 10 ^ 40 -> z = num n -> ∀ H', Same H H' -> Q (.int n) H') /\ ((∀ n, 0 <= n -> n < 10 ^ 40 -> z ≠ num n) -> ∀ v H', Same H H' -> E v none H')
def sp_read_number (K : PySem.W.Frag) : Sp := fun vs H Q E => ∃ z : Str, vs = [.str z] /\ z.length <= 10000 /\ (∀ n, -10 ^ 40 < n -> n < 10 ^ 40 -> z = num n -> ∀ H', Same H H' -> Q (.int n) H') /\ ((∀ n, -10 ^ 40 < n -> n < 10 ^ 40 -> z ≠ num n) -> ∀ v H', Same H H' -> E v none H')
def sp_read_halves (K : PySem.W.Frag) : Sp := fun vs H Q E => ∃ z b m, vs = [.str z, .str b] /\ b = ⟨#[m]⟩ /\ z.length <= 1000 /\ (∀ x y, Txt.split z ⟨#[m]⟩ = [x, y] -> ∀ r H', Same H H' -> H' r = some (.lst [.str x, .str y]) -> Q (.ref r) H') /\ ((∀ x y, Txt.split z ⟨#[m]⟩ ≠ [x, y]) -> ∀ v H', Same H H' -> E v none H')
def sp_read_cell (K : PySem.W.Frag) : Sp := fun vs H Q E => ∃ z, vs = [.str z] /\ z.length <= 1000 /\ (∀ c, small c -> z = wd 58 c -> ∀ y H', Same H H' -> Ce H' y c -> Q y H') /\ ((∀ c, small c -> z ≠ wd 58 c) -> ∀ v H', Same H H' -> E v none H')
def sp_read_tie (K : PySem.W.Frag) : Sp := fun vs H Q E => ∃ z, vs = [.str z] /\ z.length <= 1000 /\ (∀ c, tie c -> z = wd 45 c -> ∀ y H', Same H H' -> Ce H' y c -> Q y H') /\ ((∀ c, tie c -> z ≠ wd 45 c) -> ∀ v H', Same H H' -> E v none H')
def sp_read_cells (K : PySem.W.Frag) : Sp := fun vs H Q E => ∃ z, vs = [.str z] /\ z.length <= 900 /\ (∀ ts, (∀ c ∈ ts, small c) -> z = shown 58 ts -> ∀ r ws H', Same H H' -> H' r = some (.lst ws) -> Cs H' ws ts -> Q (.ref r) H') /\ ((∀ ts, (∀ c ∈ ts, small c) -> z ≠ shown 58 ts) -> ∀ v H', Same H H' -> E v none H')
def sp_read_ties (K : PySem.W.Frag) : Sp := fun vs H Q E => ∃ z, vs = [.str z] /\ z.length <= 900 /\ (∀ ts, (∀ c ∈ ts, tie c) -> z = shown 45 ts -> ∀ r ws H', Same H H' -> H' r = some (.lst ws) -> Cs H' ws ts -> Q (.ref r) H') /\ ((∀ ts, (∀ c ∈ ts, tie c) -> z ≠ shown 45 ts) -> ∀ v H', Same H H' -> E v none H')
def sp_law_take (K : PySem.W.Frag) : Sp := fun vs H Q _ => ∃ p a m, vs = [.ref p, .int m] /\ H p = some (.lst [.int a]) /\ 0 < m /\ m < 2 ^ 200 /\ ∀ a' z : Int, 0 <= z -> z < m -> Q (.int z) (upd H p (.lst [.int a']))
def sp_law_purse (K : PySem.W.Frag) : Sp := fun vs H Q _ => ∃ (a : Addr) (ns : List Int) (k : Int) (b : Bool), vs = [.ref a, .int k, .bl b] /\ SqL K H a (ns.map V.int) /\ 0 <= k /\ k < 1000 /\ ∀ p a', H p = none -> Q (.ref p) (upd H p (.lst [.int a']))
def sp_law_whole (K : PySem.W.Frag) : Sp := fun vs H Q _ => ∃ z, vs = [.str z] /\ z.length <= 10000 /\ (∀ n, -10 ^ 40 < n -> n < 10 ^ 40 -> z = num n -> Q (.int n) H) /\ ((∀ n, -10 ^ 40 < n -> n < 10 ^ 40 -> z ≠ num n) -> Q .non H)
def sp_law_cells_of (K : PySem.W.Frag) : Sp := fun vs H Q _ => ∃ z, vs = [.str z] /\ z.length <= 900 /\ ((∃ ts, (∀ c ∈ ts, small c) /\ z = shown 58 ts) -> ∀ r H', Same H H' -> Q (.ref r) H') /\ ((∀ ts, (∀ c ∈ ts, small c) -> z ≠ shown 58 ts) -> ∀ H', Same H H' -> Q .non H')
def sp_law_ties_of (K : PySem.W.Frag) : Sp := fun vs H Q _ => ∃ z, vs = [.str z] /\ z.length <= 900 /\ ((∃ ts, (∀ c ∈ ts, tie c) /\ z = shown 45 ts) -> ∀ r H', Same H H' -> Q (.ref r) H') /\ ((∀ ts, (∀ c ∈ ts, tie c) -> z ≠ shown 45 ts) -> ∀ H', Same H H' -> Q .non H')
def Rdb (w : Int) (z : Str) : Prop := if w = 0 then ∃ ts : List C, (∀ c ∈ ts, small c) /\ z = shown 58 ts else ∃ ts : List C, (∀ c ∈ ts, tie c) /\ z = shown 45 ts
def sp_law_asked (K : PySem.W.Frag) : Sp := fun vs H Q E => ∃ z w, vs = [.str z, .int w] /\ z.length <= 900 /\ (Rdb w z -> ∀ H', Same H H' -> Q (.str z) H') /\ (¬ Rdb w z -> ∀ v H', Same H H' -> E v none H')
def sp_law_tried (K : PySem.W.Frag) : Sp := fun vs H Q _ => ∃ z w, vs = [.str z, .int w] /\ z.length <= 900 /\ (Rdb w z -> ∀ p H', Same H H' -> H' p = some (.tup [.bl false, .str z]) -> Q (.ref p) H') /\ (¬ Rdb w z -> ∀ p H', Same H H' -> H' p = some (.tup [.bl true, .non]) -> Q (.ref p) H')
def sp_law_changed (K : PySem.W.Frag) : Sp := fun vs H Q _ => ∃ p a z, vs = [.ref p, .str z] /\ H p = some (.lst [.int a]) /\ z.length <= 800 /\ ∀ y H', y.length <= z.length + 40 -> Mv H p H' -> Q (.str y) H'
def sp_law_right (K : PySem.W.Frag) : Sp := fun vs H Q _ => ∃ p a w, vs = [.ref p, .int w] /\ H p = some (.lst [.int a]) /\ ∀ y H', y.length <= 300 -> Mv H p H' -> Q (.str y) H'
def spLaw (K : PySem.W.Frag) : Sp := fun vs H Q _ => ∃ (a : Addr) (ns : List Int), vs = [.ref a] /\ SqL K H a (ns.map V.int) /\ ns.length <= 63 /\ ∀ H', Q (.bl true) H'
structure Blt (mg : Str -> Option Value) : Prop where
 ValueError_ : mg "ValueError" = none
 all_ : mg "all" = none
 int_ : mg "int" = none
 isinstance_ : mg "isinstance" = none
 len_ : mg "len" = none
 min_ : mg "min" = none
 range_ : mg "range" = none
 str_ : mg "str" = none
structure Cst (mg : Str -> Option Value) : Prop where
 FIGURES : ∃ t, mg "FIGURES" = some (.str "0123456789" t)
 MOST_FIGURES : ∃ t, mg "MOST_FIGURES" = some (.int 40 t)
 NOTHING : ∃ t, mg "NOTHING" = some (.str "none" t)
section
variable {P : Program} {w : World} {K : PySem.W.Frag} {mg : Str -> Option Value} {base : Heap}
theorem ok_show_list {f : Addr} {fd : FuncData} (F : Fun K "show_list" "show_list" s_show_list f fd) (bl : Blt mg) (cs : Cst mg)  : FnOk P w K mg base CX0 1 f fd ["words"] (sp_show_list K) := by
 refine F.ok sc_show_list (fun vs H Q E h => ?_) (fun cdv A outer s H vs Q E hr h => ?_)
 ·obtain ⟨x, _, rfl, _⟩ := h; rfl
 ·obtain ⟨l, zs, rfl, hq, hz, hn, q⟩ := h
  refine ⟨_, (pss_cons (ps_if (pt_cmpR op_eq (pe_callB call_len_seq rfl bl.len_ bt_len (pa_cons (pv 0) pa_nil)) pe_int (nomark _)) (pss_one (ps_ret (pe_globS rfl cs.NOTHING))) pss_nil)
  (pss_one (ps_ret (pe_bm PySem.F.plainAttrs_str PySem.F.slot_str_join PySem.F.type_str_join mt_join pe_str (pa_cons (pv 0) pa_nil))))), ?_⟩
  refine ⟨_, rfl, l, _, rfl, .inl hq, rfl, _, rfl, ?_⟩
  refine ite2 (fun h => ?_) (fun h => ?_)
  ·have : zs = [] := by
    have h2 := of_decide_eq_true h
    injection h2 with h2
    rw [List.length_map] at h2
    exact List.length_eq_zero_iff.mp (by omega)
   rw [if_pos this] at q
   exact q
  ·have : zs ≠ [] := fun e => h (by subst e; rfl)
   rw [if_neg this] at q
   exact ⟨rfl, _, rfl, ⟨#[32]⟩, l, zs, congrArg V.str t32, rfl, hq, joinOk hz (by omega), q⟩
theorem ok_show_pair {f : Addr} {fd : FuncData} (F : Fun K "show_pair" "show_pair" s_show_pair f fd) (bl : Blt mg) (cs : Cst mg)  : FnOk P w K mg base CX0 1 f fd ["pair", "between"] (sp_show_pair K) := by
 refine F.ok sc_show_pair (fun vs H Q E h => ?_) (fun cdv A outer s H vs Q E hr h => ?_)
 ·obtain ⟨x, _, _, _, rfl, _⟩ := h; rfl
 ·obtain ⟨v, c, b, m, rfl, rfl, ⟨p, rfl, hp⟩, sm, q⟩ := h
  refine ⟨_, (pss_one (ps_ret (pe_op op_add_str (pe_op op_add_str (pe_callTy call_str_int rfl bl.str_ bt_str (pa_cons (pe_ix ix_tup (pv 0) pe_int (fun _ _ => rfl)) pa_nil)) (pv 1)) (pe_callTy call_str_int rfl bl.str_ bt_str (pa_cons (pe_ix ix_tup (pv 0) pe_int (fun _ _ => rfl)) pa_nil))))), ?_⟩
  have l1 := num_lenB sm.1.1 sm.1.2
  have l2 := num_lenB sm.2.1 sm.2.2
  refine ⟨_, rfl, p, _, 0, _, rfl, rfl, SqT.of hp, rfl, _, rfl, num_log (by have := sm.1; omega) (by have := sm.1; omega), _, rfl, _, _, rfl, rfl, Nat.le_trans (Nat.add_le_add l1 (Nat.le_refl 1)) (by decide), ?_⟩
  refine ⟨_, rfl, p, _, 1, _, rfl, rfl, SqT.of hp, rfl, _, rfl, num_log (by have := sm.2; omega) (by have := sm.2; omega), _, _, rfl, rfl, ?_, q⟩
  show ((num c.1).cps ++ #[m]).size + (num c.2).length <= sizeLine
  rw [Array.size_append]
  exact Nat.le_trans (Nat.add_le_add (Nat.add_le_add l1 (Nat.le_refl 1)) l2) (by decide)
theorem ok_show_cells {f : Addr} {fd : FuncData} (F : Fun K "show_cells" "show_cells" s_show_cells f fd) (bl : Blt mg) (cs : Cst mg) (F_show_list : Fn P w K mg base 1 "show_list" ["words"] (sp_show_list K)) (F_show_pair : Fn P w K mg base 1 "show_pair" ["pair", "between"] (sp_show_pair K)) : FnOk P w K mg base CX0 2 f fd ["cells"] (sp_show_cells K) := by
 refine F.ok sc_show_cells (fun vs H Q E h => ?_) (fun cdv A outer s H vs Q E hr h => ?_)
 ·obtain ⟨x, _, _, rfl, _⟩ := h; rfl
 ·obtain ⟨l, us, cs, rfl, hq, hc, sm, hn, q⟩ := h
  refine ⟨_, (pss_one (ps_ret (pe_callG F_show_list (hr.mono (by decide)) rfl (pa_cons (pe_comp (own := ["cell"]) (caps := []) (cns := []) ⟨of_decide_eq_true rfl, rfl, of_decide_eq_true rfl, of_decide_eq_true rfl, of_decide_eq_true rfl, rfl, rfl, of_decide_eq_true rfl⟩ rfl (pi_list (pv 0)) (fun _ => (pg_name (i := 0) (of_decide_eq_true rfl) rfl (Or.inl rfl))) (fun _ => pcs_nil) (fun _ => (pe_callG F_show_pair (hr.mono (by decide)) rfl (pa_cons (pv 0) (pa_cons pe_str pa_nil))))) pa_nil)))), ?_⟩
  have lu := Cs.len hc
  refine tCall_i (tCons_i ?_)
  refine map_name (K := K) (j := 0) (xs := cs) rfl Ce isS (wd 58) stays_Ce stays_S hq (Cs.pair hc) (sml (by omega)) ?_ ?_
  ·rintro k i v c H2 _ hi s2 hv N hN
   exact ⟨_, rfl, v, c, _, 58, rfl, t58, hv, sm c (List.mem_of_getElem? hi), hN _ _ (fun _ _ z => z) rfl⟩
  rintro D ys H1 n1 s1 d1 p1
  rw [isS_map p1] at d1
  refine ⟨D, cs.map (wd 58), rfl, SqL.of d1, wd_le 58 cs sm, by rw [List.length_map]; exact hn, ?_⟩
  have := q H1 s1
  unfold shown at this
  simpa using this
theorem ok_show_ties {f : Addr} {fd : FuncData} (F : Fun K "show_ties" "show_ties" s_show_ties f fd) (bl : Blt mg) (cs : Cst mg) (F_show_list : Fn P w K mg base 1 "show_list" ["words"] (sp_show_list K)) (F_show_pair : Fn P w K mg base 1 "show_pair" ["pair", "between"] (sp_show_pair K)) : FnOk P w K mg base CX0 2 f fd ["ties"] (sp_show_ties K) := by
 refine F.ok sc_show_ties (fun vs H Q E h => ?_) (fun cdv A outer s H vs Q E hr h => ?_)
 ·obtain ⟨x, _, _, rfl, _⟩ := h; rfl
 ·obtain ⟨l, us, cs, rfl, hq, hc, sm, hn, q⟩ := h
  refine ⟨_, (pss_one (ps_ret (pe_callG F_show_list (hr.mono (by decide)) rfl (pa_cons (pe_comp (own := ["tie"]) (caps := []) (cns := []) ⟨of_decide_eq_true rfl, rfl, of_decide_eq_true rfl, of_decide_eq_true rfl, of_decide_eq_true rfl, rfl, rfl, of_decide_eq_true rfl⟩ rfl (pi_list (pv 0)) (fun _ => (pg_name (i := 0) (of_decide_eq_true rfl) rfl (Or.inl rfl))) (fun _ => pcs_nil) (fun _ => (pe_callG F_show_pair (hr.mono (by decide)) rfl (pa_cons (pv 0) (pa_cons pe_str pa_nil))))) pa_nil)))), ?_⟩
  have lu := Cs.len hc
  refine tCall_i (tCons_i ?_)
  refine map_name (K := K) (j := 0) (xs := cs) rfl Ce isS (wd 45) stays_Ce stays_S hq (Cs.pair hc) (sml (by omega)) ?_ ?_
  ·rintro k i v c H2 _ hi s2 hv N hN
   exact ⟨_, rfl, v, c, _, 45, rfl, t45, hv, sm c (List.mem_of_getElem? hi), hN _ _ (fun _ _ z => z) rfl⟩
  rintro D ys H1 n1 s1 d1 p1
  rw [isS_map p1] at d1
  refine ⟨D, cs.map (wd 45), rfl, SqL.of d1, wd_le 45 cs sm, by rw [List.length_map]; exact hn, ?_⟩
  have := q H1 s1
  unfold shown at this
  simpa using this
theorem fig_dec {c : Nat} : (!(Builtin.Str.occurrences ("0123456789" : Str) ⟨#[c]⟩ 0 ("0123456789" : Str).length 1).isEmpty) = decide (48 <= c /\ c <= 57) := by
 by_cases h : 48 <= c /\ c <= 57
 ·rw [fig_in h, decide_eq_true h]
 ·rw [decide_eq_false h, StrLaws.found_one, fig_cps]
  rw [<- Bool.not_eq_true]
  intro hh
  have : c ∈ [48, 49, 50, 51, 52, 53, 54, 55, 56, 57] := by simpa using hh
  simp only [List.mem_cons, List.not_mem_nil, or_false] at this
  omega
theorem ok_read_figures {f : Addr} {fd : FuncData} (F : Fun K "read_figures" "read_figures" s_read_figures f fd) (bl : Blt mg) (cs : Cst mg) {C : Addr} (xc : Xc K mg C)  : FnOk P w K mg base (CXr P w C) 1 f fd ["text"] (sp_read_figures K) := by
 refine F.okX (C := C) sc_read_figures (fun vs H Q E h => ?_) (fun cdv A outer s H vs Q E hr h => ?_)
 ·obtain ⟨x, rfl, _⟩ := h; rfl
 ·obtain ⟨z, rfl, zl, q, qe⟩ := h
  refine ⟨_, (pss_cons (ps_if (pt_not (pt_chain op_le op_le pe_int (pe_callB call_len_str rfl bl.len_ bt_len (pa_cons (pv 0) pa_nil)) (pe_globI rfl cs.MOST_FIGURES))) (pss_one (ps_raise catches_fn rfl rfl xc.nm xc.own pe_str)) pss_nil)
  (pss_cons (ps_if (pt_not (pt_val (pe_callB (call_allB rfl) rfl bl.all_ bt_all (pa_cons (pe_comp (own := ["sign"]) (caps := []) (cns := []) ⟨of_decide_eq_true rfl, rfl, of_decide_eq_true rfl, of_decide_eq_true rfl, of_decide_eq_true rfl, rfl, rfl, of_decide_eq_true rfl⟩ rfl (pi_str (pv 0)) (fun _ => (pg_name (i := 0) (of_decide_eq_true rfl) rfl (Or.inl rfl))) (fun _ => pcs_nil) (fun _ => (pe_cmpR op_in_str (pv 0) (pe_globS rfl cs.FIGURES) (by with_unfolding_all rfl)))) pa_nil)))) (pss_one (ps_raise catches_fn rfl rfl xc.nm xc.own pe_str)) pss_nil)
  (pss_cons (ps_if (PW.pt (pw_and (pt_cmpR op_eq (pe_ix ix_str (pv 0) pe_int (fun _ _ => rfl)) pe_str (nomark _)) (pw_and1 (pt_cmpR op_ne (pv 0) pe_str (nomark _))))) (pss_one (ps_raise catches_fn rfl rfl xc.nm xc.own pe_str)) pss_nil)
  (pss_one (ps_ret (pe_callTy call_intS rfl bl.int_ bt_int (pa_cons (pv 0) pa_nil))))))), ?_⟩
  have zs : z.length <= sizeLine := Nat.le_trans zl (by decide)
  have bad : ¬ (Plain z.cps.toList /\ z.length <= 40) -> ∀ v H', Same H H' -> E v none H' := fun h => qe fun n h0 h1 e => h (plain_iff.mpr ⟨n, h0, h1, e⟩)
  refine ⟨_, rfl, z, rfl, zs, _, _, rfl, rfl, _, rfl, ?_⟩
  refine ite2 (fun h1 => ?_) (fun h1 => ?_)
  rotate_left
  ·have l0 : ¬ (1 <= (z.length : Int)) := by simpa using h1
   refine ⟨_, rfl, iteT ?_⟩
   exact bad (fun h => by have := List.length_pos_iff.mpr h.1.2.1; rw [Array.length_toList] at this; exact l0 (by have h2 : 0 < z.length := this; omega)) _ _ (fun _ _ z => z)
  have l0 : 1 <= (z.length : Int) := by simpa using h1
  refine ⟨_, _, rfl, rfl, _, rfl, ?_⟩
  refine ite2 (fun h2 => ?_) (fun h2 => ?_)
  ·have l1 : ¬ ((z.length : Int) <= 40) := by simpa using h2
   exact bad (fun h => l1 (by omega)) _ _ (fun _ _ z => z)
  have l1 : (z.length : Int) <= 40 := by simpa using h2
  have zc : z.cps.size = z.length := rfl
  refine tNext_i ?_
  dsimp only
  refine tSeq_i (tIfS_i ?_)
  refine tNot_i (tB_i (tCB_i (tCons_i (tComp_i ?_))))
  refine ⟨_, rfl, _, rfl, ?_⟩
  refine go_strs isB (fun c => decide (48 <= c /\ c <= 57)) stays_B (Nat.lt_of_le_of_lt (m := 40) (by omega) (by decide)) ?_ ?_
  ·rintro k c H2 hc s2 N hN
   refine ⟨_, rfl, _, _, rfl, rfl, ?_⟩
   rw [fig_dec]
   exact hN _ _ (fun _ _ z => z) rfl
  rintro D ys H1 n1' s1 d1 p1
  rw [isB_map p1] at d1
  refine ⟨D, _, rfl, SqL.of d1, _, rfl, ?_⟩
  by_cases hd : NumText.AllDigits z.cps.toList
  rotate_left
  ·have e : ((z.cps.toList.map fun c => decide (48 <= c /\ c <= 57)).all id) = false := by
    rw [List.all_map]
    cases hh : z.cps.toList.all (id ∘ fun c => decide (48 <= c /\ c <= 57)) with
    | false => rfl
    | true => exact absurd (fun c hc => by simpa using List.all_eq_true.mp hh c hc) hd
   rw [e]
   refine iteT ?_
   exact bad (fun h => hd h.1.1) _ _ s1
  have e : ((z.cps.toList.map fun c => decide (48 <= c /\ c <= 57)).all id) = true := by
   rw [List.all_map, List.all_eq_true]
   intro c hc
   simpa using hd c hc
  rw [e]
  refine iteF ?_
  have hlen : 0 < z.cps.toList.length := by rw [Array.length_toList]; show 0 < z.length; omega
  obtain ⟨d, hd0⟩ : ∃ d, z.cps.toList[0]? = some d := ⟨_, List.getElem?_eq_getElem hlen⟩
  have nn : z.cps.toList ≠ [] := List.length_pos_iff.mp hlen
  have good : (z.cps.toList[0]? = some 48 -> z.cps.toList = [48]) -> ∃ n : Int, 0 <= n /\ n < 10 ^ 40 /\ z = num n := fun h => plain_iff.mp ⟨⟨hd, nn, h⟩, by omega⟩
  have fin : (z.cps.toList[0]? = some 48 -> z.cps.toList = [48]) -> ∃ n : Int, PySem.intText? z = some n /\ Q (.int n) H1 := fun h => by
   obtain ⟨n, n0, n1, e⟩ := good h
   exact ⟨n, by rw [e]; exact num_read n0 n1, q n n0 n1 e H1 s1⟩
  refine ⟨_, rfl, _, 0, d, rfl, rfl, zs, atI_nat hd0, rfl, _, rfl, ?_⟩
  refine ite2 (fun h => ?_) (fun h => ?_)
  ·have h2 := of_decide_eq_true h
   have e48 : d = 48 := by
    rw [t48] at h2
    injection h2 with h2
    injection h2 with h2
    simpa using h2
   subst e48
   by_cases e0 : z = "0"
   ·refine ⟨_, rfl, rfl, _, rfl, iteNS (congrArg V.str e0) ?_⟩
    obtain ⟨n, e1, e2⟩ := fin fun _ => by rw [e0]; decide
    exact ⟨_, rfl, z, n, rfl, e1, by omega, e2⟩
   ·refine ⟨_, rfl, rfl, _, rfl, ?_⟩
    rw [decide_eq_false (fun h => e0 (by injection h))]
    refine iteT ?_
    exact bad (fun h => e0 (by apply str_ext; rw [h.1.2.2 hd0]; decide)) _ _ s1
  ·refine iteF ?_
   have d48 : d ≠ 48 := fun z => h (by subst z; rw [t48]; exact decide_eq_true rfl)
   obtain ⟨n, e1, e2⟩ := fin fun z => absurd (Option.some.inj (hd0.symm.trans z)) d48
   exact ⟨_, rfl, z, n, rfl, e1, by omega, e2⟩
theorem ok_read_number {f : Addr} {fd : FuncData} (F : Fun K "read_number" "read_number" s_read_number f fd) (bl : Blt mg) (cs : Cst mg) {C : Addr} (xc : Xc K mg C) (F_read_figures : FnX P w K mg base C 1 "read_figures" ["text"] (sp_read_figures K)) : FnOk P w K mg base (CXr P w C) 2 f fd ["text"] (sp_read_number K) := by
 refine F.okX (C := C) sc_read_number (fun vs H Q E h => ?_) (fun cdv A outer s H vs Q E hr h => ?_)
 ·obtain ⟨x, rfl, _⟩ := h; rfl
 ·obtain ⟨z, rfl, zl, q, qe⟩ := h
  refine ⟨_, (pss_cons (ps_if (pt_not (pt_val (pe_bm PySem.F.plainAttrs_str PySem.F.slot_str_startswith PySem.F.type_str_startswith mt_startswith (pv 0) (pa_cons pe_str pa_nil)))) (pss_one (ps_ret (pe_callX catches_fn F_read_figures (hr.mono (by decide)) rfl (pa_cons (pv 0) pa_nil)))) pss_nil)
  (pss_cons (ps_set (i := 1) sc_read_number.nd rfl (Or.inl rfl) (pe_callX catches_fn F_read_figures (hr.mono (by decide)) rfl (pa_cons (pe_slice sl_str (pv 0) (po_some pe_int) po_none) pa_nil)))
  (pss_cons (ps_if (pt_cmpR op_eq (pv 1) pe_int (nomark _)) (pss_one (ps_raise catches_fn rfl rfl xc.nm xc.own pe_str)) pss_nil)
  (pss_one (ps_ret (pe_un un_neg (pv 1))))))), ?_⟩
  have zs : z.length <= sizeLine := Nat.le_trans zl (by decide)
  refine ⟨_, rfl, rfl, _, _, rfl, rfl, _, rfl, ?_⟩
  have sw : Txt.startswith z ⟨#[45]⟩ = decide (z.cps.toList[0]? = some 45) := sw_one 45 z.cps.toList
  rw [t45, sw]
  have hd0 : ∀ n : Int, 0 <= n -> (num n).cps.toList[0]? ≠ some 45 := fun n h0 e => by
   have := num_digits h0 45 (List.mem_of_getElem? e)
   omega
  by_cases h45 : z.cps.toList[0]? = some 45
  ·rw [decide_eq_true h45]
   refine iteF ?_
   have hl : 0 < z.length := by
    have := (List.getElem?_eq_some_iff.mp h45).1
    rw [Array.length_toList] at this
    exact this
   have cut : (Txt.slice z (some 1) none).cps.toList = z.cps.toList.drop 1 := sl_from (k := 1) (by decide) (by omega)
   have whole : z.cps.toList = 45 :: (Txt.slice z (some 1) none).cps.toList := by
    rw [cut]
    cases e : z.cps.toList with
    | nil => rw [e] at h45; cases h45
    | cons x l => rw [e] at h45; cases h45; rfl
   have cl : (Txt.slice z (some 1) none).length <= 10000 := by rw [len_cps, cut, List.length_drop, <- len_cps]; omega
   refine ⟨_, rfl, 1, rfl, z, rfl, zs, ?_⟩
   generalize Txt.slice z (some 1) none = y at *
   refine ⟨y, rfl, cl, fun m m0 m1 e H1 s1 => ?_, fun ne v H1 s1 => ?_⟩
   ·subst e
    refine ⟨_, rfl, rfl, _, rfl, ?_⟩
    refine ite2 (fun h => ?_) (fun h => ?_)
    ·have h2 := of_decide_eq_true h
     injection h2 with h2
     subst h2
     refine qe (fun n n0 n1 e => ?_) _ _ s1
     rw [e] at whole h45
     by_cases hn : n < 0
     ·rw [num_neg hn] at whole
      injection whole with _ w2
      have := num_inj (by omega) (by omega) (str_ext w2)
      omega
     ·exact hd0 n (by omega) h45
    ·have m2 : m ≠ 0 := fun z => h (by rw [z]; exact decide_eq_true rfl)
     refine ⟨_, rfl, _, rfl, ?_⟩
     refine q (-m) (by omega) (by omega) ?_ H1 s1
     apply str_ext
     rw [whole, num_neg (by omega : -m < 0), Int.neg_neg]
   ·refine qe (fun n n0 n1 e => ?_) _ _ s1
    rw [e] at whole h45
    by_cases hn : n < 0
    ·rw [num_neg hn] at whole
     injection whole with _ w2
     exact ne (-n) (by omega) (by omega) (str_ext w2.symm)
    ·exact hd0 n (by omega) h45
  ·rw [decide_eq_false h45]
   refine iteT ?_
   refine ⟨_, rfl, z, rfl, zl, fun n n0 n1 e => q n (by omega) n1 e, fun ne v H1 s1 => qe (fun n n0 n1 e => ?_) v H1 s1⟩
   by_cases hn : n < 0
   ·rw [e, num_neg hn] at h45
    exact h45 rfl
   ·exact ne n (by omega) n1 e
theorem two_of {α : Type} {l : List α} (h : l.length = 2) : ∃ x y, l = [x, y] := by
 match l, h with
 | [x, y], _ => exact ⟨x, y, rfl⟩
theorem ok_read_halves {f : Addr} {fd : FuncData} (F : Fun K "read_halves" "read_halves" s_read_halves f fd) (bl : Blt mg) (cs : Cst mg) {C : Addr} (xc : Xc K mg C)  : FnOk P w K mg base (CXr P w C) 1 f fd ["word", "between"] (sp_read_halves K) := by
 refine F.okX (C := C) sc_read_halves (fun vs H Q E h => ?_) (fun cdv A outer s H vs Q E hr h => ?_)
 ·obtain ⟨x, _, _, rfl, _⟩ := h; rfl
 ·obtain ⟨z, b, m, rfl, rfl, hz, q, qe⟩ := h
  refine ⟨_, (pss_cons (ps_set (i := 2) sc_read_halves.nd rfl (Or.inl rfl) (pe_bm PySem.F.plainAttrs_str PySem.F.slot_str_split PySem.F.type_str_split mt_split (pv 0) (pa_cons (pv 1) pa_nil)))
  (pss_cons (ps_if (pt_cmpR op_ne (pe_callB call_len_seq rfl bl.len_ bt_len (pa_cons (pv 2) pa_nil)) pe_int (nomark _)) (pss_one (ps_raise catches_fn rfl rfl xc.nm xc.own pe_str)) pss_nil)
  (pss_one (ps_ret (pv 2))))), ?_⟩
  refine ⟨_, rfl, rfl, _, rfl, _, _, rfl, rfl, Nat.one_ne_zero, Nat.le_trans hz (by decide), fun l hl => ?_⟩
  refine ⟨_, rfl, l, _, rfl, .inl (SqL.of upd_same), rfl, _, rfl, ?_⟩
  rw [List.length_map]
  by_cases h2 : (Txt.split z ⟨#[m]⟩).length = 2
  ·obtain ⟨x, y, e⟩ := two_of h2
   rw [h2]
   refine iteNS rfl ?_
   refine ⟨_, rfl, q x y e l _ (Same.new hl _) ?_⟩
   rw [upd_same, e]
   rfl
  ·rw [decide_eq_false (fun h => h2 (by injection h with h; omega))]
   refine iteT ?_
   exact qe (fun x y e => h2 (by rw [e]; rfl)) _ _ (Same.new hl _)
theorem ok_read_cell {f : Addr} {fd : FuncData} (F : Fun K "read_cell" "read_cell" s_read_cell f fd) (bl : Blt mg) (cs : Cst mg) {C : Addr} (xc : Xc K mg C) (F_read_halves : FnX P w K mg base C 1 "read_halves" ["word", "between"] (sp_read_halves K)) (F_read_number : FnX P w K mg base C 2 "read_number" ["text"] (sp_read_number K)) : FnOk P w K mg base (CXr P w C) 3 f fd ["word"] (sp_read_cell K) := by
 refine F.okX (C := C) sc_read_cell (fun vs H Q E h => ?_) (fun cdv A outer s H vs Q E hr h => ?_)
 ·obtain ⟨x, rfl, _⟩ := h; rfl
 ·obtain ⟨z, rfl, hz, q, qe⟩ := h
  refine ⟨_, (pss_cons (ps_set (i := 1) sc_read_cell.nd rfl (Or.inl rfl) (pe_callX catches_fn F_read_halves (hr.mono (by decide)) rfl (pa_cons (pv 0) (pa_cons pe_str pa_nil))))
  (pss_one (ps_ret (pe_tup (pa_cons (pe_callX catches_fn F_read_number (hr.mono (by decide)) rfl (pa_cons (pe_ix ix_list (pv 1) pe_int (fun _ _ => rfl)) pa_nil)) (pa_cons (pe_callX catches_fn F_read_number (hr.mono (by decide)) rfl (pa_cons (pe_ix ix_list (pv 1) pe_int (fun _ _ => rfl)) pa_nil)) pa_nil)))))), ?_⟩
  have sp : ∀ c, small c -> z = wd 58 c -> Txt.split z ⟨#[58]⟩ = [num c.1, num c.2] := fun c _ e => by rw [e]; exact wd_split (num_free (by decide) (by decide)) (num_free (by decide) (by decide))
  refine ⟨_, rfl, z, _, 58, rfl, t58, hz, fun x y e r H1 s1 l1 => ?_, fun ne v H1 s1 => qe (fun c hc e => ne _ _ (sp c hc e)) _ _ s1⟩
  have lx : x.length <= 10000 := Nat.le_trans (split_piece (by rw [e]; simp : x ∈ Txt.split z ⟨#[58]⟩)) (Nat.le_trans hz (by decide))
  have ly : y.length <= 10000 := Nat.le_trans (split_piece (by rw [e]; simp : y ∈ Txt.split z ⟨#[58]⟩)) (Nat.le_trans hz (by decide))
  refine ⟨_, rfl, r, _, 0, _, rfl, rfl, SqL.of l1, rfl, x, rfl, lx, fun n n0 n1 ex H2 s2 => ?_, fun ne v H2 s2 => qe (fun c hc ez => ?_) _ _ (s1.trans s2)⟩
  rotate_left
  ·have := sp c hc ez
   rw [e] at this
   injection this with this _
   exact ne _ hc.1.1 hc.1.2 this
  refine ⟨_, rfl, r, _, 1, _, rfl, rfl, SqL.of (s2 _ _ l1), rfl, y, rfl, ly, fun n' n0' n1' ey H3 s3 => ?_, fun ne v H3 s3 => qe (fun c hc ez => ?_) _ _ (s1.trans (s2.trans s3))⟩
  rotate_left
  ·have := sp c hc ez
   rw [e] at this
   injection this with _ this
   injection this with this _
   exact ne _ hc.2.1 hc.2.2 this
  refine ⟨(by show 2 <= sizeLine; decide), fun p hp => ?_⟩
  exact q (n, n') ⟨⟨n0, n1⟩, n0', n1'⟩ (wd_of (by rw [e, ex, ey])) _ _ ((s1.trans (s2.trans s3)).trans (Same.new hp _)) ⟨p, rfl, upd_same⟩
theorem ok_read_tie {f : Addr} {fd : FuncData} (F : Fun K "read_tie" "read_tie" s_read_tie f fd) (bl : Blt mg) (cs : Cst mg) {C : Addr} (xc : Xc K mg C) (F_read_halves : FnX P w K mg base C 1 "read_halves" ["word", "between"] (sp_read_halves K)) (F_read_figures : FnX P w K mg base C 1 "read_figures" ["text"] (sp_read_figures K)) : FnOk P w K mg base (CXr P w C) 2 f fd ["word"] (sp_read_tie K) := by
 refine F.okX (C := C) sc_read_tie (fun vs H Q E h => ?_) (fun cdv A outer s H vs Q E hr h => ?_)
 ·obtain ⟨x, rfl, _⟩ := h; rfl
 ·obtain ⟨z, rfl, hz, q, qe⟩ := h
  refine ⟨_, (pss_cons (ps_set (i := 1) sc_read_tie.nd rfl (Or.inl rfl) (pe_callX catches_fn F_read_halves (hr.mono (by decide)) rfl (pa_cons (pv 0) (pa_cons pe_str pa_nil))))
  (pss_cons (ps_set (i := 2) sc_read_tie.nd rfl (Or.inl rfl) (pe_tup (pa_cons (pe_callX catches_fn F_read_figures (hr.mono (by decide)) rfl (pa_cons (pe_ix ix_list (pv 1) pe_int (fun _ _ => rfl)) pa_nil)) (pa_cons (pe_callX catches_fn F_read_figures (hr.mono (by decide)) rfl (pa_cons (pe_ix ix_list (pv 1) pe_int (fun _ _ => rfl)) pa_nil)) pa_nil))))
  (pss_cons (ps_if (pt_cmpR op_ge (pe_ix ix_tup (pv 2) pe_int (fun _ _ => rfl)) (pe_ix ix_tup (pv 2) pe_int (fun _ _ => rfl)) (nomark _)) (pss_one (ps_raise catches_fn rfl rfl xc.nm xc.own pe_str)) pss_nil)
  (pss_one (ps_ret (pv 2)))))), ?_⟩
  have sp : ∀ c, tie c -> z = wd 45 c -> Txt.split z ⟨#[45]⟩ = [num c.1, num c.2] := fun c hc e => by rw [e]; exact wd_split (num_free45 hc.1) (num_free45 (by have := hc.1; have := hc.2.1; omega))
  refine ⟨_, rfl, z, _, 45, rfl, t45, hz, fun x y e r H1 s1 l1 => ?_, fun ne v H1 s1 => qe (fun c hc e => ne _ _ (sp c hc e)) _ _ s1⟩
  have lx : x.length <= 10000 := Nat.le_trans (split_piece (by rw [e]; simp : x ∈ Txt.split z ⟨#[45]⟩)) (Nat.le_trans hz (by decide))
  have ly : y.length <= 10000 := Nat.le_trans (split_piece (by rw [e]; simp : y ∈ Txt.split z ⟨#[45]⟩)) (Nat.le_trans hz (by decide))
  refine ⟨_, rfl, r, _, 0, _, rfl, rfl, SqL.of l1, rfl, x, rfl, lx, fun n n0 n1 ex H2 s2 => ?_, fun ne v H2 s2 => qe (fun c hc ez => ?_) _ _ (s1.trans s2)⟩
  rotate_left
  ·have := sp c hc ez
   rw [e] at this
   injection this with this _
   exact ne _ hc.1 (by have := hc.2.1; have := hc.2.2; omega) this
  refine ⟨_, rfl, r, _, 1, _, rfl, rfl, SqL.of (s2 _ _ l1), rfl, y, rfl, ly, fun n' n0' n1' ey H3 s3 => ?_, fun ne v H3 s3 => qe (fun c hc ez => ?_) _ _ (s1.trans (s2.trans s3))⟩
  rotate_left
  ·have := sp c hc ez
   rw [e] at this
   injection this with _ this
   injection this with this _
   exact ne _ (by have := hc.1; have := hc.2.1; omega) hc.2.2 this
  have ez : z = wd 45 (n, n') := wd_of (by rw [e, ex, ey])
  refine ⟨(by show 2 <= sizeLine; decide), fun p hp => ?_⟩
  have s4 := (s1.trans (s2.trans s3)).trans (Same.new hp (.tup [.int n, .int n']))
  refine ⟨_, rfl, p, _, 0, _, rfl, rfl, SqT.of upd_same, rfl, _, rfl, p, _, 1, _, rfl, rfl, SqT.of upd_same, rfl, _, _, rfl, rfl, _, rfl, ?_⟩
  refine ite2 (fun h => ?_) (fun h => ?_)
  ·have h2 := of_decide_eq_true h
   refine qe (fun c hc e2 => ?_) _ _ s4
   have := sp c hc e2
   rw [e, ex, ey] at this
   injection this with t1 this
   injection this with t2 _
   have h5 := num_inj n0 hc.1 t1
   have h6 := num_inj n0' (by have := hc.1; have := hc.2.1; omega) t2
   have := hc.2.1
   omega
  ·have h2 : n < n' := by have : ¬ (n' <= n) := fun z => h (decide_eq_true z); omega
   exact ⟨_, rfl, q (n, n') ⟨n0, h2, n1'⟩ ez _ _ s4 ⟨p, rfl, upd_same⟩⟩
theorem ok_read_cells {f : Addr} {fd : FuncData} (F : Fun K "read_cells" "read_cells" s_read_cells f fd) (bl : Blt mg) (cs : Cst mg) {C : Addr} (xc : Xc K mg C) (F_read_cell : FnX P w K mg base C 3 "read_cell" ["word"] (sp_read_cell K)) : FnOk P w K mg base (CXr P w C) 4 f fd ["text"] (sp_read_cells K) := by
 refine F.okX (C := C) sc_read_cells (fun vs H Q E h => ?_) (fun cdv A outer s H vs Q E hr h => ?_)
 ·obtain ⟨x, rfl, _⟩ := h; rfl
 ·obtain ⟨t, rfl, tl, q, qe⟩ := h
  refine ⟨_, (pss_cons (ps_if (pt_cmpR op_eq (pv 0) (pe_globS rfl cs.NOTHING) (nomark _)) (pss_one (ps_ret (pe_lst pa_nil))) pss_nil)
  (pss_one (ps_ret (pe_compX (own := ["word"]) (caps := []) (cns := []) ⟨of_decide_eq_true rfl, rfl, of_decide_eq_true rfl, of_decide_eq_true rfl, of_decide_eq_true rfl, rfl, rfl, of_decide_eq_true rfl⟩ rfl catches_fn rfl rfl rfl (pi_list (pe_bm PySem.F.plainAttrs_str PySem.F.slot_str_split PySem.F.type_str_split mt_split (pv 0) (pa_cons pe_str pa_nil))) (fun _ _ => (pg_name (i := 0) (of_decide_eq_true rfl) rfl (Or.inl rfl))) (fun _ _ hcat => (pe_callX hcat F_read_cell (hr.mono (by decide)) rfl (pa_cons (pv 0) pa_nil))))))), ?_⟩
  refine ⟨_, rfl, rfl, _, rfl, ?_⟩
  refine ite2 (fun h => ?_) (fun h => ?_)
  ·have h2 := of_decide_eq_true h
   injection h2 with h2
   exact ⟨Nat.zero_le _, fun r hr' => q [] (fun _ h => absurd h List.not_mem_nil) h2 r [] _ (Same.new hr' _) upd_same .nil⟩
  ·have tn : t ≠ "none" := fun e => h (by subst e; rfl)
   refine tNext_i ?_
   dsimp only
   show tComp _ _ _ _ _ _ _ _ _
   refine tComp_i ?_
   refine ⟨_, rfl, rfl, _, _, rfl, rfl, (by decide), Nat.le_trans tl (by decide), fun l hl => ?_⟩
   rw [t32]
   refine ⟨l, rfl, ⟨_, SqL.of upd_same⟩, ?_⟩
   have s1 := Same.new hl (.lst ((Txt.split t ⟨#[32]⟩).map V.str))
   refine go_map (K := K) (xs := Txt.split t ⟨#[32]⟩) isS (WoH 58 small) id stays_S stays_Wo (SqL.of upd_same) (map_isS _) (sml (by rw [List.length_map]; have := split_count t 32; omega)) ?_ ?_
   ·rintro k i v z H2 _ hi s2 rfl N hN
    have hz := List.mem_of_getElem? hi
    refine ⟨_, rfl, z, rfl, Nat.le_trans (split_piece hz) (Nat.le_trans tl (by decide)), fun c sc e y H' s' hy => hN _ _ s' ⟨c, sc, e, hy⟩, fun ne v H' s' => qe (words_bad (by decide) tn hz ne) _ _ (s1.trans (s2.trans s'))⟩
   rintro D ys H2 n2 s2 d2 p2
   rw [List.map_id] at p2
   obtain ⟨cs, sm, e, p⟩ := Wo_all p2
   exact q cs sm (words_good e) D ys H2 (s1.trans s2) d2 (Cs.ofPair p)
theorem ok_read_ties {f : Addr} {fd : FuncData} (F : Fun K "read_ties" "read_ties" s_read_ties f fd) (bl : Blt mg) (cs : Cst mg) {C : Addr} (xc : Xc K mg C) (F_read_tie : FnX P w K mg base C 2 "read_tie" ["word"] (sp_read_tie K)) : FnOk P w K mg base (CXr P w C) 3 f fd ["text"] (sp_read_ties K) := by
 refine F.okX (C := C) sc_read_ties (fun vs H Q E h => ?_) (fun cdv A outer s H vs Q E hr h => ?_)
 ·obtain ⟨x, rfl, _⟩ := h; rfl
 ·obtain ⟨t, rfl, tl, q, qe⟩ := h
  refine ⟨_, (pss_cons (ps_if (pt_cmpR op_eq (pv 0) (pe_globS rfl cs.NOTHING) (nomark _)) (pss_one (ps_ret (pe_lst pa_nil))) pss_nil)
  (pss_one (ps_ret (pe_compX (own := ["word"]) (caps := []) (cns := []) ⟨of_decide_eq_true rfl, rfl, of_decide_eq_true rfl, of_decide_eq_true rfl, of_decide_eq_true rfl, rfl, rfl, of_decide_eq_true rfl⟩ rfl catches_fn rfl rfl rfl (pi_list (pe_bm PySem.F.plainAttrs_str PySem.F.slot_str_split PySem.F.type_str_split mt_split (pv 0) (pa_cons pe_str pa_nil))) (fun _ _ => (pg_name (i := 0) (of_decide_eq_true rfl) rfl (Or.inl rfl))) (fun _ _ hcat => (pe_callX hcat F_read_tie (hr.mono (by decide)) rfl (pa_cons (pv 0) pa_nil))))))), ?_⟩
  refine ⟨_, rfl, rfl, _, rfl, ?_⟩
  refine ite2 (fun h => ?_) (fun h => ?_)
  ·have h2 := of_decide_eq_true h
   injection h2 with h2
   exact ⟨Nat.zero_le _, fun r hr' => q [] (fun _ h => absurd h List.not_mem_nil) h2 r [] _ (Same.new hr' _) upd_same .nil⟩
  ·have tn : t ≠ "none" := fun e => h (by subst e; rfl)
   refine tNext_i ?_
   dsimp only
   show tComp _ _ _ _ _ _ _ _ _
   refine tComp_i ?_
   refine ⟨_, rfl, rfl, _, _, rfl, rfl, (by decide), Nat.le_trans tl (by decide), fun l hl => ?_⟩
   rw [t32]
   refine ⟨l, rfl, ⟨_, SqL.of upd_same⟩, ?_⟩
   have s1 := Same.new hl (.lst ((Txt.split t ⟨#[32]⟩).map V.str))
   refine go_map (K := K) (xs := Txt.split t ⟨#[32]⟩) isS (WoH 45 tie) id stays_S stays_Wo (SqL.of upd_same) (map_isS _) (sml (by rw [List.length_map]; have := split_count t 32; omega)) ?_ ?_
   ·rintro k i v z H2 _ hi s2 rfl N hN
    have hz := List.mem_of_getElem? hi
    refine ⟨_, rfl, z, rfl, Nat.le_trans (split_piece hz) (Nat.le_trans tl (by decide)), fun c sc e y H' s' hy => hN _ _ s' ⟨c, sc, e, hy⟩, fun ne v H' s' => qe (words_bad (by decide) tn hz ne) _ _ (s1.trans (s2.trans s'))⟩
   rintro D ys H2 n2 s2 d2 p2
   rw [List.map_id] at p2
   obtain ⟨cs, sm, e, p⟩ := Wo_all p2
   exact q cs sm (words_good e) D ys H2 (s1.trans s2) d2 (Cs.ofPair p)
theorem ok_law_take {f : Addr} {fd : FuncData} (F : Fun K "_law_take" "_law_take" s_law_take f fd) (bl : Blt mg) (cs : Cst mg)  : FnOk P w K mg base CX0 1 f fd ["_law_draw", "_law_many"] (sp_law_take K) := by
 refine F.ok sc_law_take (fun vs H Q E h => ?_) (fun cdv A outer s H vs Q E hr h => ?_)
 ·obtain ⟨x, _, _, rfl, _⟩ := h; rfl
 ·obtain ⟨p, a, m, rfl, hp, m0, m1, q⟩ := h
  refine ⟨_, (pss_cons (ps_set (i := 2) sc_law_take.nd rfl (Or.inl rfl) (pe_op op_mod (pe_ix ix_list (pv 0) pe_int (fun _ _ => rfl)) (pv 1)))
  (pss_cons (ps_asg (pe_op op_fdivB (pe_ix ix_list (pv 0) pe_int (fun _ _ => rfl)) (pv 1)) (pg_sub (pv 0) pe_int set_list))
  (pss_one (ps_ret (pv 2))))), ?_⟩
  refine ⟨_, rfl, p, _, 0, .int a, rfl, rfl, SqL.of hp, rfl, _, rfl, _, _, rfl, rfl, m0, ?_⟩
  refine ⟨_, rfl, p, _, 0, .int a, rfl, rfl, SqL.of hp, rfl, _, rfl, _, _, rfl, rfl, ⟨m0, m1⟩, _, rfl, p, _, 0, 0, rfl, rfl, hp, rfl, ?_⟩
  exact ⟨_, rfl, q _ _ (Int.emod_nonneg _ (by omega)) (Int.emod_lt_of_pos _ m0)⟩
theorem mul150 : IntMulOk (10 ^ Int.toNat 60 * 10 ^ Int.toNat 60) (10 ^ Int.toNat 30) := by
 unfold IntMulOk
 decide
theorem ok_law_purse {f : Addr} {fd : FuncData} (F : Fun K "_law_purse" "_law_purse" s_law_purse f fd) (bl : Blt mg) (cs : Cst mg)  : FnOk P w K mg base CX0 1 f fd ["_law_script", "_law_k", "_law_plain"] (sp_law_purse K) := by
 refine F.ok sc_law_purse (fun vs H Q E h => ?_) (fun cdv A outer s H vs Q E hr h => ?_)
 ·obtain ⟨x, _, _, _, rfl, _⟩ := h; rfl
 ·obtain ⟨a, ns, k, b, rfl, hS, k0, k1, q⟩ := h
  refine ⟨_, (pss_cons (ps_set (i := 3) sc_law_purse.nd rfl (Or.inl rfl) pe_int)
  (pss_cons (ps_join (ps_if (pt_cmpR op_lt (pv 1) (pe_callB call_len_seq rfl bl.len_ bt_len (pa_cons (pv 0) pa_nil)) (nomark _)) (pss_one (ps_set (i := 3) sc_law_purse.nd rfl (Or.inl rfl) (pe_ix ix_list (pv 0) (pv 1) plain_name))) pss_nil))
  (pss_cons (ps_set (i := 4) sc_law_purse.nd rfl (Or.inl rfl) (pe_op op_mod (pv 3) (pe_op op_mulB (pe_op op_mulB (pe_op op_pow pe_int pe_int) (pe_op op_pow pe_int pe_int)) (pe_op op_pow pe_int pe_int))))
  (pss_cons (ps_join (ps_if (PW.pt (pw_and (pt_val (pv 2)) (pw_and1 (pt_cmpR op_ge (pv 4) (pe_op op_pow pe_int pe_int) (nomark _))))) (pss_one (ps_ret (pe_lst (pa_cons (pv 4) pa_nil)))) pss_nil))
  (pss_cons (ps_set (i := 5) sc_law_purse.nd rfl (Or.inl rfl) (pe_op op_mod (pe_op op_add (pv 3) (pe_callB call_len_seq rfl bl.len_ bt_len (pa_cons (pv 0) pa_nil))) pe_int))
  (pss_cons (ps_set (i := 6) sc_law_purse.nd rfl (Or.inl rfl) pe_int)
  (pss_cons (ps_for PassesOwn.never rfl (pi_range1 rfl bl.range_ (pa_cons pe_int pa_nil)) (pg_name (i := 7) sc_law_purse.nd rfl (Or.inl rfl))
   (pss_cons (ps_set (i := 5) sc_law_purse.nd rfl (Or.inl rfl) (pe_op op_mod (pe_op op_add (pe_op op_add (pe_op op_add (pe_op op_mul (pv 5) pe_int) (pe_op op_mul (pv 7) (pv 7))) (pe_op op_mul pe_int (pv 1))) pe_int) pe_int))
   (pss_one (ps_set (i := 6) sc_law_purse.nd rfl (Or.inl rfl) (pe_op op_add (pe_op op_mul (pv 6) pe_int) (pv 5))))))
  (pss_one (ps_ret (pe_lst (pa_cons (pv 6) pa_nil))))))))))), ?_⟩
  refine ⟨fun σ H2 => ∃ c : Int, H2 = H /\ σ = [some (.ref a), some (.int k), some (.bl b), some (.int c), none, none, none, none], ?_, ?_⟩
  ·refine ⟨_, rfl, _, rfl, a, _, rfl, .inl hS, _, _, rfl, rfl, _, rfl, ?_⟩
   refine ite2 (fun h => ?_) (fun h => ⟨0, rfl, rfl⟩)
   have h' : k < ns.length := by simpa using h
   have hk : (ns.map V.int)[k.toNat]? = some (.int ns[k.toNat]) := by
    rw [List.getElem?_map, List.getElem?_eq_getElem (by omega)]
    rfl
   have := atI_nat hk
   rw [show ((k.toNat : Nat) : Int) = k by omega] at this
   exact ⟨_, rfl, _, rfl, a, _, _, _, rfl, rfl, hS, this, _, rfl, rfl⟩
  ·rintro σ H1 ⟨c, rfl, rfl⟩
   refine ⟨_, rfl, _, _, rfl, rfl, ⟨by decide, by decide, by decide⟩, _, _, rfl, rfl, ⟨by decide, by decide, by decide⟩, _, _, rfl, rfl, mul120, _, _, rfl, rfl, ⟨by decide, by decide, by decide⟩, _, _, rfl, rfl, mul150, _, _, rfl, rfl, (by show (0 : Int) < 10 ^ Int.toNat 60 * 10 ^ Int.toNat 60 * 10 ^ Int.toNat 30; decide), ?_⟩
   refine ⟨fun σ H2 => ∃ dg : Int, H2 = H1 /\ σ = [some (.ref a), some (.int k), some (.bl b), some (.int c), some (.int dg), none, none, none], ?_, ?_⟩
   ·refine ⟨_, rfl, _, rfl, ?_⟩
    cases b with
    | false => exact iteF (iteF ⟨_, rfl, rfl⟩)
    | true =>
     refine iteT ⟨_, rfl, _, _, rfl, rfl, ⟨by decide, by decide, by decide⟩, _, _, rfl, rfl, _, rfl, ?_⟩
     refine ite2 (fun _ => ?_) (fun _ => ⟨_, rfl, rfl⟩)
     exact ⟨_, rfl, (by show 1 <= sizeLine; decide), fun p hp => q p _ hp⟩
   ·rintro σ H2 ⟨dg, rfl, rfl⟩
    refine ⟨_, rfl, _, rfl, a, _, rfl, .inl hS, _, _, rfl, rfl, _, _, rfl, rfl, (by show (0 : Int) < 2147483647; decide), ?_⟩
    refine ⟨16, rfl, by decide, by decide, for_range (n := 16) (fun i σ H3 => H3 = H2 /\ ∃ (mx cm : Int) (vj : Option V), σ = [some (.ref a), some (.int k), some (.bl b), some (.int c), some (.int dg), some (.int mx), some (.int cm), vj]) ⟨rfl, _, _, _, rfl⟩ ?_ ?_⟩
    ·rintro i σ H3 hi ⟨rfl, mx, cm, vj, rfl⟩
     refine ⟨_, rfl, _, _, rfl, rfl, .inr ⟨by decide, by decide⟩, _, rfl, _, rfl, _, _, rfl, rfl, .inl ⟨by omega, by omega⟩, _, _, rfl, rfl, _, rfl, _, _, rfl, rfl, .inl ⟨by decide, by decide⟩, _, _, rfl, rfl, _, _, rfl, rfl, _, _, rfl, rfl, (by show (0 : Int) < 2147483647; decide), ?_⟩
     exact ⟨_, rfl, _, _, rfl, rfl, .inr ⟨by decide, by decide⟩, _, rfl, _, _, rfl, rfl, rfl, _, _, _, rfl⟩
    ·rintro σ H3 ⟨rfl, mx, cm, vj, rfl⟩
     exact ⟨_, rfl, (by show 1 <= sizeLine; decide), fun p hp => q p _ hp⟩
theorem ok_law_whole {f : Addr} {fd : FuncData} (F : Fun K "_law_whole" "_law_whole" s_law_whole f fd) (bl : Blt mg) (cs : Cst mg)  : FnOk P w K mg base CX0 1 f fd ["_law_text"] (sp_law_whole K) := by
 refine F.ok sc_law_whole (fun vs H Q E h => ?_) (fun cdv A outer s H vs Q E hr h => ?_)
 ·obtain ⟨x, rfl, _⟩ := h; rfl
 ·obtain ⟨z, rfl, zl, q, qe⟩ := h
  refine ⟨_, (pss_cons (ps_set (i := 1) sc_law_whole.nd rfl (Or.inl rfl) (pv 0))
  (pss_cons (ps_join (ps_if (pt_cmpR op_eq (pe_slice sl_str (pv 0) po_none (po_some pe_int)) pe_str (nomark _)) (pss_one (ps_set (i := 1) sc_law_whole.nd rfl (Or.inl rfl) (pe_slice sl_str (pv 0) (po_some pe_int) po_none))) pss_nil))
  (pss_cons (ps_join (ps_if (PW.pt (pw_or (pt_cmpR op_eq (pv 1) pe_str (nomark _)) (pw_or (pt_cmpR op_gt (pe_callB call_len_str rfl bl.len_ bt_len (pa_cons (pv 1) pa_nil)) pe_int (nomark _)) (pw_or (pt_cmpR op_eq (pv 0) pe_str (nomark _)) (pw_or1 (PW.pt (pw_and (pt_cmpR op_gt (pe_callB call_len_str rfl bl.len_ bt_len (pa_cons (pv 1) pa_nil)) pe_int (nomark _)) (pw_and1 (pt_cmpR op_eq (pe_ix ix_str (pv 1) pe_int (fun _ _ => rfl)) pe_str (nomark _)))))))))) (pss_one (ps_ret pe_non)) pss_nil))
  (pss_cons (ps_for PassesOwn.never rfl (pi_str (pv 1)) (pg_name (i := 2) sc_law_whole.nd rfl (Or.inl rfl))
   (pss_one (ps_if (pt_cmpR op_notIn_str (pv 2) pe_str (by with_unfolding_all rfl)) (pss_one (ps_ret pe_non)) pss_nil)))
  (pss_one (ps_ret (pe_callTy call_intS rfl bl.int_ bt_int (pa_cons (pv 0) pa_nil)))))))), ?_⟩
  have zs : z.length <= sizeLine := Nat.le_trans zl (by decide)
  refine ⟨_, rfl, fun σ H2 => H2 = H /\ ∃ y, Fg z y /\ y.length <= 10000 /\ σ = [some (.str z), some (.str y), none], ?_, ?_⟩
  ·refine ⟨_, rfl, 1, rfl, z, rfl, zs, rfl, _, rfl, ?_⟩
   by_cases h45 : z.cps.toList[0]? = some 45
   ·rw [decide_eq_true (by rw [t45, sl_one.mpr h45])]
    refine iteT ?_
    have c := cut_one h45
    refine ⟨_, rfl, 1, rfl, z, rfl, zs, rfl, _, .inl c, ?_, rfl⟩
    have : z.length = (Txt.slice z (some 1) none).length + 1 := by rw [len_cps, c, List.length_cons, <- len_cps]
    omega
   ·rw [decide_eq_false (fun h => by rw [t45] at h; injection h with h; exact h45 (sl_one.mp h))]
    exact iteF ⟨rfl, _, .inr ⟨rfl, h45⟩, zl, rfl⟩
  ·rintro σ H1 ⟨rfl, y, f, yl, rfl⟩
   have bad : ¬ (Plain y.cps.toList /\ y.length <= 40 /\ z ≠ "-0") -> Q .non H1 := fun h => qe (fg_bad f h)
   have ys : y.length <= sizeLine := Nat.le_trans yl (by decide)
   refine ⟨fun σ H2 => H2 = H1 /\ (y.cps.toList ≠ [] /\ y.length <= 40 /\ z ≠ "-0" /\ (y.cps.toList[0]? = some 48 -> y.cps.toList = [48])) /\ σ = [some (.str z), some (.str y), none], ?_, ?_⟩
   ·refine ⟨_, rfl, rfl, _, rfl, ?_⟩
    refine ite2 (fun h => ?_) (fun h => ?_)
    ·have h2 := of_decide_eq_true h
     injection h2 with h2
     exact iteT (bad fun p => p.1.2.1 (by rw [h2]; decide))
    have y0 : y.cps.toList ≠ [] := fun e => h (decide_eq_true (congrArg V.str (str_ext (by rw [e]; decide))))
    refine ⟨_, rfl, y, rfl, ys, _, _, rfl, rfl, _, rfl, ?_⟩
    refine ite2 (fun h => ?_) (fun h => ?_)
    ·have h2 := of_decide_eq_true h
     exact iteT (bad fun p => by have := p.2.1; omega)
    have y1 : y.length <= 40 := by have : ¬ ((40 : Int) < y.length) := fun e => h (decide_eq_true e); omega
    refine ⟨_, rfl, rfl, _, rfl, ?_⟩
    refine ite2 (fun h => ?_) (fun h => ?_)
    ·have h2 := of_decide_eq_true h
     injection h2 with h2
     exact iteT (bad fun p => p.2.2 h2)
    have z0 : z ≠ "-0" := fun e => h (decide_eq_true (congrArg V.str e))
    have hlen : 0 < y.cps.toList.length := List.length_pos_iff.mpr y0
    obtain ⟨d, hd0⟩ : ∃ d, y.cps.toList[0]? = some d := ⟨_, List.getElem?_eq_getElem hlen⟩
    refine ⟨_, rfl, y, rfl, ys, _, _, rfl, rfl, _, rfl, ?_⟩
    refine ite2 (fun h => ?_) (fun h => ?_)
    ·have h1 := of_decide_eq_true h
     have h2 : 1 < y.cps.toList.length := by rw [<- len_cps]; omega
     refine ⟨_, rfl, _, 0, d, rfl, rfl, ys, atI_nat hd0, rfl, _, rfl, ?_⟩
     refine ite2 (fun h => ?_) (fun h => ?_)
     ·have h3 := of_decide_eq_true h
      rw [t48] at h3
      injection h3 with h3
      injection h3 with h3
      have e48 : d = 48 := by simpa using h3
      subst e48
      exact bad fun p => by rw [p.1.2.2 hd0] at h2; exact absurd h2 (by decide)
     ·refine ⟨rfl, ⟨y0, y1, z0, fun e => ?_⟩, rfl⟩
      have e48 : d = 48 := Option.some.inj (hd0.symm.trans e)
      subst e48
      exact absurd (by rw [t48]; exact decide_eq_true rfl) h
    ·refine iteF ⟨rfl, ⟨y0, y1, z0, fun e => ?_⟩, rfl⟩
     have : ¬ ((1 : Int) < y.length) := fun e => h (decide_eq_true e)
     cases hy : y.cps.toList with
     | nil => exact absurd hy y0
     | cons x l =>
      rw [hy] at e
      cases e
      have : l.length + 1 = y.length := by rw [len_cps, hy]; rfl
      rw [List.length_eq_zero_iff.mp (by omega : l.length = 0)]
   ·rintro σ H2 ⟨rfl, ⟨y0, y1, z0, hh⟩, rfl⟩
    dsimp only
    refine tSeq_i (tFor_i ?_)
    refine ⟨_, rfl, y, rfl, ?_⟩
    refine gf_str (fun i σ H3 => H3 = H2 /\ (∀ j c, j < i -> y.cps.toList[j]? = some c -> 48 <= c /\ c <= 57) /\ ∃ v, σ = [some (.str z), some (.str y), v]) ⟨rfl, fun _ _ h => absurd h (Nat.not_lt_zero _), _, rfl⟩ ?_ ?_
    ·rintro i c σ H3 hc ⟨rfl, hj, v, rfl⟩
     refine ⟨_, rfl, _, _, rfl, rfl, _, rfl, ?_⟩
     rw [fig_dec]
     by_cases hd : 48 <= c /\ c <= 57
     ·rw [decide_eq_true hd]
      refine iteF ⟨rfl, fun j c' hlt hc' => ?_, _, rfl⟩
      by_cases e : j = i
      ·subst e
       cases Option.some.inj (hc.symm.trans hc')
       exact hd
      ·exact hj j c' (by omega) hc'
     ·rw [decide_eq_false hd]
      exact iteT (bad fun p => hd (p.1.1 c (List.mem_of_getElem? hc)))
    ·rintro σ H3 ⟨rfl, hj, v, rfl⟩
     obtain ⟨n, n0, n1, e, e2⟩ := fg_good f ⟨fun c hc => by
      obtain ⟨j, hl, rfl⟩ := List.getElem_of_mem hc
      exact hj j _ (by rw [len_cps]; exact hl) (List.getElem?_eq_getElem hl), y0, hh⟩ y1 z0
     refine ⟨_, rfl, z, n, rfl, e2, ?_, q n n0 n1 e⟩
     rw [e]
     exact Nat.le_trans (num_lenB n0 n1) (by decide)
theorem ok_law_cells_of {f : Addr} {fd : FuncData} (F : Fun K "_law_cells_of" "_law_cells_of" s_law_cells_of f fd) (bl : Blt mg) (cs : Cst mg) (F_law_whole : Fn P w K mg base 1 "_law_whole" ["_law_text"] (sp_law_whole K)) : FnOk P w K mg base CX0 2 f fd ["_law_text"] (sp_law_cells_of K) := by
 refine F.ok sc_law_cells_of (fun vs H Q E h => ?_) (fun cdv A outer s H vs Q E hr h => ?_)
 ·obtain ⟨x, rfl, _⟩ := h; rfl
 ·obtain ⟨t, rfl, tl, q, qe⟩ := h
  refine ⟨_, (pss_cons (ps_if (pt_cmpR op_eq (pv 0) pe_str (nomark _)) (pss_one (ps_ret (pe_lst pa_nil))) pss_nil)
  (pss_cons (ps_set (i := 1) sc_law_cells_of.nd rfl (Or.inl rfl) (pe_lst pa_nil))
  (pss_cons (ps_for PassesOwn.never rfl (pi_list (pe_bm PySem.F.plainAttrs_str PySem.F.slot_str_split PySem.F.type_str_split mt_split (pv 0) (pa_cons pe_str pa_nil))) (pg_name (i := 2) sc_law_cells_of.nd rfl (Or.inl rfl))
   (pss_cons (ps_set (i := 3) sc_law_cells_of.nd rfl (Or.inl rfl) (pe_bm PySem.F.plainAttrs_str PySem.F.slot_str_split PySem.F.type_str_split mt_split (pv 2) (pa_cons pe_str pa_nil)))
   (pss_cons (ps_if (PW.pt (pw_or (pt_cmpR op_ne (pe_callB call_len_seq rfl bl.len_ bt_len (pa_cons (pv 3) pa_nil)) pe_int (nomark _)) (pw_or (pt_cmpR op_isN (pe_callG F_law_whole (hr.mono (by decide)) rfl (pa_cons (pe_ix ix_list (pv 3) pe_int (fun _ _ => rfl)) pa_nil)) pe_non (nomark _)) (pw_or1 (pt_cmpR op_isN (pe_callG F_law_whole (hr.mono (by decide)) rfl (pa_cons (pe_ix ix_list (pv 3) pe_int (fun _ _ => rfl)) pa_nil)) pe_non (nomark _)))))) (pss_one (ps_ret pe_non)) pss_nil)
   (pss_one (ps_expr (pe_bm PySem.F.plainAttrs_list PySem.F.slot_list_append PySem.F.type_list_append mt_append (pv 1) (pa_cons (pe_tup (pa_cons (pe_callG F_law_whole (hr.mono (by decide)) rfl (pa_cons (pe_ix ix_list (pv 3) pe_int (fun _ _ => rfl)) pa_nil)) (pa_cons (pe_callG F_law_whole (hr.mono (by decide)) rfl (pa_cons (pe_ix ix_list (pv 3) pe_int (fun _ _ => rfl)) pa_nil)) pa_nil))) pa_nil)))))))
  (pss_one (ps_ret (pv 1)))))), ?_⟩
  refine ⟨_, rfl, rfl, _, rfl, ?_⟩
  refine ite2 (fun h => ?_) (fun h => ?_)
  ·have h2 := of_decide_eq_true h
   injection h2 with h2
   exact ⟨Nat.zero_le _, fun r hr' => q ⟨[], fun _ h => absurd h List.not_mem_nil, h2⟩ r _ (Same.new hr' _)⟩
  ·have tn : t ≠ "none" := fun e => h (by subst e; rfl)
   refine tNext_i ?_
   dsimp only
   refine ⟨Nat.zero_le _, fun r hr' => ?_⟩
   have s0 := Same.new hr' (.lst [])
   dsimp only
   refine tSeq_i (tFor_i ?_)
   refine ⟨_, rfl, rfl, _, _, rfl, rfl, (by decide), Nat.le_trans tl (by decide), fun l hl => ?_⟩
   rw [t32]
   refine ⟨l, rfl, ⟨_, SqL.of upd_same⟩, ?_⟩
   have s1 := Same.new hl (.lst ((Txt.split t ⟨#[32]⟩).map V.str))
   have hlr : l ≠ r := (ne_of_none upd_same hl).symm
   have cnt := split_count t 32
   refine gf_list (K := K) (xs := (Txt.split t ⟨#[32]⟩).map V.str) (fun i σ H3 => ∃ ys v2 v3, Same H H3 /\ H3 r = some (.lst ys) /\ ys.length = i /\ i <= 1000 /\ H3 l = some (.lst ((Txt.split t ⟨#[32]⟩).map V.str)) /\ (∀ j p, j < i -> (Txt.split t ⟨#[32]⟩)[j]? = some p -> ∃ c, small c /\ p = wd 58 c) /\ σ = [some (.str t), some (.ref r), v2, v3]) ⟨[], _, _, s0.trans s1, s1 _ _ upd_same, rfl, by decide, upd_same, fun _ _ h => absurd h (Nat.not_lt_zero _), rfl⟩ (fun i σ H3 _ ⟨_, _, _, _, _, _, _, h, _⟩ => SqL.of h) ?_ ?_
   ·rintro i x σ H3 hi ⟨ys, v2, v3, s3, r3, yl, i9, l3, hj, rfl⟩
    rw [List.getElem?_map] at hi
    obtain ⟨p, hp, rfl⟩ := Option.map_eq_some_iff.mp hi
    have hpm := List.mem_of_getElem? hp
    have pl : p.length <= 900 := Nat.le_trans (split_piece hpm) tl
    have ii : i < (Txt.split t ⟨#[32]⟩).length := (List.getElem?_eq_some_iff.mp hp).1
    have bad : (∀ c, small c -> p ≠ wd 58 c) -> ∀ H', Same H3 H' -> Q .non H' := fun ne H' s' => qe (words_bad (by decide) tn hpm ne) H' (s3.trans s')
    have sp : ∀ c, small c -> p = wd 58 c -> Txt.split p ⟨#[58]⟩ = [num c.1, num c.2] := fun c _ e => by rw [e]; exact wd_split (num_free (by decide) (by decide)) (num_free (by decide) (by decide))
    refine ⟨_, rfl, rfl, _, _, rfl, rfl, (by decide), Nat.le_trans pl (by decide), fun l2 hl2 => ?_⟩
    rw [t58]
    have s4 := Same.new hl2 (.lst ((Txt.split p ⟨#[58]⟩).map V.str))
    refine ⟨_, rfl, l2, _, rfl, .inl (SqL.of upd_same), rfl, _, rfl, ?_⟩
    rw [List.length_map]
    by_cases h2 : (Txt.split p ⟨#[58]⟩).length = 2
    rotate_left
    ·rw [decide_eq_false (fun h => h2 (by injection h with h; omega))]
     refine iteT (iteT ?_)
     exact bad (fun c hc e => h2 (by rw [sp c hc e]; rfl)) _ s4
    rw [h2]
    refine iteNS rfl ?_
    obtain ⟨x, y, e⟩ := two_of h2
    have lx : x.length <= 10000 := Nat.le_trans (split_piece (by rw [e]; simp : x ∈ Txt.split p ⟨#[58]⟩)) (Nat.le_trans pl (by decide))
    have ly : y.length <= 10000 := Nat.le_trans (split_piece (by rw [e]; simp : y ∈ Txt.split p ⟨#[58]⟩)) (Nat.le_trans pl (by decide))
    have d2 : upd H3 l2 (.lst ((Txt.split p ⟨#[58]⟩).map V.str)) l2 = some (.lst [.str x, .str y]) := by rw [upd_same, e]; rfl
    have r4 := s4 _ _ r3
    have l4 := s4 _ _ l3
    generalize upd H3 l2 (.lst ((Txt.split p ⟨#[58]⟩).map V.str)) = H4 at *
    refine ⟨_, rfl, l2, _, 0, _, rfl, rfl, SqL.of d2, rfl, ?_⟩
    by_cases hx : ∃ n : Int, -10 ^ 40 < n /\ n < 10 ^ 40 /\ x = num n
    rotate_left
    ·refine ⟨x, rfl, lx, fun n' h0 h1 en => absurd ⟨n', h0, h1, en⟩ hx, fun _ => ?_⟩
     refine ⟨rfl, true, rfl, iteT (iteT ?_)⟩
     refine bad (fun c hc e2 => hx ⟨c.1, hc.1.1, hc.1.2, ?_⟩) _ s4
     have := sp c hc e2
     rw [e] at this
     injection this
    obtain ⟨n, n0, n1, ex⟩ := hx
    refine ⟨x, rfl, lx, fun n' _ _ en => ?_, fun h => absurd ex (h n n0 n1)⟩
    cases num_injZ (ex.symm.trans en)
    refine ⟨rfl, false, rfl, iteF ?_⟩
    refine ⟨_, rfl, l2, _, 1, _, rfl, rfl, SqL.of d2, rfl, ?_⟩
    by_cases hy : ∃ n : Int, -10 ^ 40 < n /\ n < 10 ^ 40 /\ y = num n
    rotate_left
    ·refine ⟨y, rfl, ly, fun n' h0 h1 en => absurd ⟨n', h0, h1, en⟩ hy, fun _ => ?_⟩
     refine ⟨rfl, true, rfl, iteT ?_⟩
     refine bad (fun c hc e2 => hy ⟨c.2, hc.2.1, hc.2.2, ?_⟩) _ s4
     have := sp c hc e2
     rw [e] at this
     injection this with _ this
     injection this
    obtain ⟨m, m0, m1, ey⟩ := hy
    refine ⟨y, rfl, ly, fun n' _ _ en => ?_, fun h => absurd ey (h m m0 m1)⟩
    cases num_injZ (ey.symm.trans en)
    refine ⟨rfl, false, rfl, iteF ?_⟩
    refine ⟨_, rfl, .inl ⟨rfl, _, SqL.of r4⟩, _, rfl, l2, _, 0, _, rfl, rfl, SqL.of d2, rfl, ?_⟩
    refine ⟨x, rfl, lx, fun n' _ _ en => ?_, fun h => absurd ex (h n n0 n1)⟩
    cases num_injZ (ex.symm.trans en)
    refine ⟨_, rfl, l2, _, 1, _, rfl, rfl, SqL.of d2, rfl, ?_⟩
    refine ⟨y, rfl, ly, fun n' _ _ en => ?_, fun h => absurd ey (h m m0 m1)⟩
    cases num_injZ (ey.symm.trans en)
    refine ⟨(by show 2 <= sizeLine; decide), fun p2 hp2 => ?_⟩
    have s5 := Same.new hp2 (.tup [.int n, .int m])
    refine ⟨r, ys, _, rfl, rfl, s5 _ _ r4, sml (by omega), ?_⟩
    refine ⟨ys ++ [.ref p2], _, _, (s3.trans (s4.trans s5)).at hr' _, upd_same, by rw [List.length_append, yl]; rfl, by omega, by rw [upd_ne hlr]; exact s5 _ _ l4, fun j p' hlt hp' => ?_, rfl⟩
    by_cases ej : j = i
    ·subst ej
     cases Option.some.inj (hp.symm.trans hp')
     exact ⟨(n, m), ⟨⟨n0, n1⟩, m0, m1⟩, wd_of (by rw [e, ex, ey])⟩
    ·exact hj j p' (by omega) hp'
   ·rintro σ H3 ⟨ys, v2, v3, s3, r3, yl, i9, l3, hj, rfl⟩
    rw [List.length_map] at hj
    refine ⟨_, rfl, q ?_ r H3 s3⟩
    obtain ⟨cs, g, e⟩ := words_all fun p hp => by
     obtain ⟨j, hl, rfl⟩ := List.getElem_of_mem hp
     exact hj j _ hl (List.getElem?_eq_getElem hl)
    exact ⟨cs, g, words_good e⟩
theorem ok_law_ties_of {f : Addr} {fd : FuncData} (F : Fun K "_law_ties_of" "_law_ties_of" s_law_ties_of f fd) (bl : Blt mg) (cs : Cst mg) (F_law_whole : Fn P w K mg base 1 "_law_whole" ["_law_text"] (sp_law_whole K)) : FnOk P w K mg base CX0 2 f fd ["_law_text"] (sp_law_ties_of K) := by
 refine F.ok sc_law_ties_of (fun vs H Q E h => ?_) (fun cdv A outer s H vs Q E hr h => ?_)
 ·obtain ⟨x, rfl, _⟩ := h; rfl
 ·obtain ⟨t, rfl, tl, q, qe⟩ := h
  refine ⟨_, (pss_cons (ps_if (pt_cmpR op_eq (pv 0) pe_str (nomark _)) (pss_one (ps_ret (pe_lst pa_nil))) pss_nil)
  (pss_cons (ps_set (i := 1) sc_law_ties_of.nd rfl (Or.inl rfl) (pe_lst pa_nil))
  (pss_cons (ps_for PassesOwn.never rfl (pi_list (pe_bm PySem.F.plainAttrs_str PySem.F.slot_str_split PySem.F.type_str_split mt_split (pv 0) (pa_cons pe_str pa_nil))) (pg_name (i := 2) sc_law_ties_of.nd rfl (Or.inl rfl))
   (pss_cons (ps_set (i := 3) sc_law_ties_of.nd rfl (Or.inl rfl) (pe_bm PySem.F.plainAttrs_str PySem.F.slot_str_split PySem.F.type_str_split mt_split (pv 2) (pa_cons pe_str pa_nil)))
   (pss_cons (ps_if (PW.pt (pw_or (pt_cmpR op_ne (pe_callB call_len_seq rfl bl.len_ bt_len (pa_cons (pv 3) pa_nil)) pe_int (nomark _)) (pw_or (pt_cmpR op_isN (pe_callG F_law_whole (hr.mono (by decide)) rfl (pa_cons (pe_ix ix_list (pv 3) pe_int (fun _ _ => rfl)) pa_nil)) pe_non (nomark _)) (pw_or1 (pt_cmpR op_isN (pe_callG F_law_whole (hr.mono (by decide)) rfl (pa_cons (pe_ix ix_list (pv 3) pe_int (fun _ _ => rfl)) pa_nil)) pe_non (nomark _)))))) (pss_one (ps_ret pe_non)) pss_nil)
   (pss_cons (ps_if (pt_cmpR op_ge (pe_callG F_law_whole (hr.mono (by decide)) rfl (pa_cons (pe_ix ix_list (pv 3) pe_int (fun _ _ => rfl)) pa_nil)) (pe_callG F_law_whole (hr.mono (by decide)) rfl (pa_cons (pe_ix ix_list (pv 3) pe_int (fun _ _ => rfl)) pa_nil)) (nomark _)) (pss_one (ps_ret pe_non)) pss_nil)
   (pss_one (ps_expr (pe_bm PySem.F.plainAttrs_list PySem.F.slot_list_append PySem.F.type_list_append mt_append (pv 1) (pa_cons (pe_tup (pa_cons (pe_callG F_law_whole (hr.mono (by decide)) rfl (pa_cons (pe_ix ix_list (pv 3) pe_int (fun _ _ => rfl)) pa_nil)) (pa_cons (pe_callG F_law_whole (hr.mono (by decide)) rfl (pa_cons (pe_ix ix_list (pv 3) pe_int (fun _ _ => rfl)) pa_nil)) pa_nil))) pa_nil))))))))
  (pss_one (ps_ret (pv 1)))))), ?_⟩
  refine ⟨_, rfl, rfl, _, rfl, ?_⟩
  refine ite2 (fun h => ?_) (fun h => ?_)
  ·have h2 := of_decide_eq_true h
   injection h2 with h2
   exact ⟨Nat.zero_le _, fun r hr' => q ⟨[], fun _ h => absurd h List.not_mem_nil, h2⟩ r _ (Same.new hr' _)⟩
  ·have tn : t ≠ "none" := fun e => h (by subst e; rfl)
   refine tNext_i ?_
   dsimp only
   refine ⟨Nat.zero_le _, fun r hr' => ?_⟩
   have s0 := Same.new hr' (.lst [])
   dsimp only
   refine tSeq_i (tFor_i ?_)
   refine ⟨_, rfl, rfl, _, _, rfl, rfl, (by decide), Nat.le_trans tl (by decide), fun l hl => ?_⟩
   rw [t32]
   refine ⟨l, rfl, ⟨_, SqL.of upd_same⟩, ?_⟩
   have s1 := Same.new hl (.lst ((Txt.split t ⟨#[32]⟩).map V.str))
   have hlr : l ≠ r := (ne_of_none upd_same hl).symm
   have cnt := split_count t 32
   refine gf_list (K := K) (xs := (Txt.split t ⟨#[32]⟩).map V.str) (fun i σ H3 => ∃ ys v2 v3, Same H H3 /\ H3 r = some (.lst ys) /\ ys.length = i /\ i <= 1000 /\ H3 l = some (.lst ((Txt.split t ⟨#[32]⟩).map V.str)) /\ (∀ j p, j < i -> (Txt.split t ⟨#[32]⟩)[j]? = some p -> ∃ c, tie c /\ p = wd 45 c) /\ σ = [some (.str t), some (.ref r), v2, v3]) ⟨[], _, _, s0.trans s1, s1 _ _ upd_same, rfl, by decide, upd_same, fun _ _ h => absurd h (Nat.not_lt_zero _), rfl⟩ (fun i σ H3 _ ⟨_, _, _, _, _, _, _, h, _⟩ => SqL.of h) ?_ ?_
   ·rintro i x σ H3 hi ⟨ys, v2, v3, s3, r3, yl, i9, l3, hj, rfl⟩
    rw [List.getElem?_map] at hi
    obtain ⟨p, hp, rfl⟩ := Option.map_eq_some_iff.mp hi
    have hpm := List.mem_of_getElem? hp
    have pl : p.length <= 900 := Nat.le_trans (split_piece hpm) tl
    have ii : i < (Txt.split t ⟨#[32]⟩).length := (List.getElem?_eq_some_iff.mp hp).1
    have bad : (∀ c, tie c -> p ≠ wd 45 c) -> ∀ H', Same H3 H' -> Q .non H' := fun ne H' s' => qe (words_bad (by decide) tn hpm ne) H' (s3.trans s')
    have sp : ∀ c, tie c -> p = wd 45 c -> Txt.split p ⟨#[45]⟩ = [num c.1, num c.2] := fun c hc e => by rw [e]; exact wd_split (num_free45 hc.1) (num_free45 (by have := hc.1; have := hc.2.1; omega))
    refine ⟨_, rfl, rfl, _, _, rfl, rfl, (by decide), Nat.le_trans pl (by decide), fun l2 hl2 => ?_⟩
    rw [t45]
    have s4 := Same.new hl2 (.lst ((Txt.split p ⟨#[45]⟩).map V.str))
    refine ⟨_, rfl, l2, _, rfl, .inl (SqL.of upd_same), rfl, _, rfl, ?_⟩
    rw [List.length_map]
    by_cases h2 : (Txt.split p ⟨#[45]⟩).length = 2
    rotate_left
    ·rw [decide_eq_false (fun h => h2 (by injection h with h; omega))]
     refine iteT (iteT ?_)
     exact bad (fun c hc e => h2 (by rw [sp c hc e]; rfl)) _ s4
    rw [h2]
    refine iteNS rfl ?_
    obtain ⟨x, y, e⟩ := two_of h2
    have lx : x.length <= 10000 := Nat.le_trans (split_piece (by rw [e]; simp : x ∈ Txt.split p ⟨#[45]⟩)) (Nat.le_trans pl (by decide))
    have ly : y.length <= 10000 := Nat.le_trans (split_piece (by rw [e]; simp : y ∈ Txt.split p ⟨#[45]⟩)) (Nat.le_trans pl (by decide))
    have d2 : upd H3 l2 (.lst ((Txt.split p ⟨#[45]⟩).map V.str)) l2 = some (.lst [.str x, .str y]) := by rw [upd_same, e]; rfl
    have r4 := s4 _ _ r3
    have l4 := s4 _ _ l3
    generalize upd H3 l2 (.lst ((Txt.split p ⟨#[45]⟩).map V.str)) = H4 at *
    refine ⟨_, rfl, l2, _, 0, _, rfl, rfl, SqL.of d2, rfl, ?_⟩
    by_cases hx : ∃ n : Int, -10 ^ 40 < n /\ n < 10 ^ 40 /\ x = num n
    rotate_left
    ·refine ⟨x, rfl, lx, fun n' h0 h1 en => absurd ⟨n', h0, h1, en⟩ hx, fun _ => ?_⟩
     refine ⟨rfl, true, rfl, iteT (iteT ?_)⟩
     refine bad (fun c hc e2 => hx ⟨c.1, hc.small.1.1, hc.small.1.2, ?_⟩) _ s4
     have := sp c hc e2
     rw [e] at this
     injection this
    obtain ⟨n, n0, n1, ex⟩ := hx
    refine ⟨x, rfl, lx, fun n' _ _ en => ?_, fun h => absurd ex (h n n0 n1)⟩
    cases num_injZ (ex.symm.trans en)
    refine ⟨rfl, false, rfl, iteF ?_⟩
    refine ⟨_, rfl, l2, _, 1, _, rfl, rfl, SqL.of d2, rfl, ?_⟩
    by_cases hy : ∃ n : Int, -10 ^ 40 < n /\ n < 10 ^ 40 /\ y = num n
    rotate_left
    ·refine ⟨y, rfl, ly, fun n' h0 h1 en => absurd ⟨n', h0, h1, en⟩ hy, fun _ => ?_⟩
     refine ⟨rfl, true, rfl, iteT ?_⟩
     refine bad (fun c hc e2 => hy ⟨c.2, hc.small.2.1, hc.small.2.2, ?_⟩) _ s4
     have := sp c hc e2
     rw [e] at this
     injection this with _ this
     injection this
    obtain ⟨m, m0, m1, ey⟩ := hy
    refine ⟨y, rfl, ly, fun n' _ _ en => ?_, fun h => absurd ey (h m m0 m1)⟩
    cases num_injZ (ey.symm.trans en)
    refine ⟨rfl, false, rfl, iteF ?_⟩
    have nn0 : 0 <= n := num_nn (by rw [<- ex]; exact StrLaws.split_free _ _ _ (by rw [e]; simp : x ∈ Txt.split p ⟨#[45]⟩))
    have mm0 : 0 <= m := num_nn (by rw [<- ey]; exact StrLaws.split_free _ _ _ (by rw [e]; simp : y ∈ Txt.split p ⟨#[45]⟩))
    refine ⟨_, rfl, l2, _, 0, _, rfl, rfl, SqL.of d2, rfl, ?_⟩
    refine ⟨x, rfl, lx, fun n' _ _ en => ?_, fun h => absurd ex (h n n0 n1)⟩
    cases num_injZ (ex.symm.trans en)
    refine ⟨_, rfl, l2, _, 1, _, rfl, rfl, SqL.of d2, rfl, ?_⟩
    refine ⟨y, rfl, ly, fun n' _ _ en => ?_, fun h => absurd ey (h m m0 m1)⟩
    cases num_injZ (ey.symm.trans en)
    refine ⟨_, _, rfl, rfl, _, rfl, ?_⟩
    refine ite2 (fun h => ?_) (fun h => ?_)
    ·have h2 := of_decide_eq_true h
     refine bad (fun c hc e2 => ?_) _ s4
     have := sp c hc e2
     rw [e, ex, ey] at this
     injection this with t1 this
     injection this with t2 _
     have h5 := num_injZ t1
     have h6 := num_injZ t2
     have := hc.2.1
     omega
    have hlt' : n < m := by have : ¬ (m <= n) := fun z => h (decide_eq_true z); omega
    refine ⟨_, rfl, .inl ⟨rfl, _, SqL.of r4⟩, _, rfl, l2, _, 0, _, rfl, rfl, SqL.of d2, rfl, ?_⟩
    refine ⟨x, rfl, lx, fun n' _ _ en => ?_, fun h => absurd ex (h n n0 n1)⟩
    cases num_injZ (ex.symm.trans en)
    refine ⟨_, rfl, l2, _, 1, _, rfl, rfl, SqL.of d2, rfl, ?_⟩
    refine ⟨y, rfl, ly, fun n' _ _ en => ?_, fun h => absurd ey (h m m0 m1)⟩
    cases num_injZ (ey.symm.trans en)
    refine ⟨(by show 2 <= sizeLine; decide), fun p2 hp2 => ?_⟩
    have s5 := Same.new hp2 (.tup [.int n, .int m])
    refine ⟨r, ys, _, rfl, rfl, s5 _ _ r4, sml (by omega), ?_⟩
    refine ⟨ys ++ [.ref p2], _, _, (s3.trans (s4.trans s5)).at hr' _, upd_same, by rw [List.length_append, yl]; rfl, by omega, by rw [upd_ne hlr]; exact s5 _ _ l4, fun j p' hlt hp' => ?_, rfl⟩
    by_cases ej : j = i
    ·subst ej
     cases Option.some.inj (hp.symm.trans hp')
     exact ⟨(n, m), ⟨nn0, hlt', m1⟩, wd_of (by rw [e, ex, ey])⟩
    ·exact hj j p' (by omega) hp'
   ·rintro σ H3 ⟨ys, v2, v3, s3, r3, yl, i9, l3, hj, rfl⟩
    rw [List.length_map] at hj
    refine ⟨_, rfl, q ?_ r H3 s3⟩
    obtain ⟨cs, g, e⟩ := words_all fun p hp => by
     obtain ⟨j, hl, rfl⟩ := List.getElem_of_mem hp
     exact hj j _ hl (List.getElem?_eq_getElem hl)
    exact ⟨cs, g, words_good e⟩
theorem ok_law_asked {f : Addr} {fd : FuncData} (F : Fun K "_law_asked" "_law_asked" s_law_asked f fd) (bl : Blt mg) (cs : Cst mg) {C : Addr} (xc : Xc K mg C) (F_show_cells : Fn P w K mg base 2 "show_cells" ["cells"] (sp_show_cells K)) (F_read_cells : FnX P w K mg base C 4 "read_cells" ["text"] (sp_read_cells K)) (F_show_ties : Fn P w K mg base 2 "show_ties" ["ties"] (sp_show_ties K)) (F_read_ties : FnX P w K mg base C 3 "read_ties" ["text"] (sp_read_ties K)) : FnOk P w K mg base (CXr P w C) 5 f fd ["_law_text", "_law_way"] (sp_law_asked K) := by
 refine F.okX (C := C) sc_law_asked (fun vs H Q E h => ?_) (fun cdv A outer s H vs Q E hr h => ?_)
 ·obtain ⟨x, _, rfl, _⟩ := h; rfl
 ·obtain ⟨z, w, rfl, zl, q, qe⟩ := h
  refine ⟨_, (pss_cons (ps_if (pt_cmpR op_eq (pv 1) pe_int (nomark _)) (pss_one (ps_ret (pe_callG F_show_cells (hr.mono (by decide)) rfl (pa_cons (pe_callX catches_fn F_read_cells (hr.mono (by decide)) rfl (pa_cons (pv 0) pa_nil)) pa_nil)))) pss_nil)
  (pss_one (ps_ret (pe_callG F_show_ties (hr.mono (by decide)) rfl (pa_cons (pe_callX catches_fn F_read_ties (hr.mono (by decide)) rfl (pa_cons (pv 0) pa_nil)) pa_nil))))), ?_⟩
  refine ⟨_, rfl, rfl, _, rfl, ?_⟩
  unfold Rdb at q qe
  refine ite2 (fun h => ?_) (fun h => ?_)
  ·have h2 := of_decide_eq_true h
   injection h2 with h2
   rw [if_pos h2] at q qe
   refine ⟨_, rfl, z, rfl, zl, fun ts g e r ws H1 s1 l1 c1 => ?_, fun ne v H1 s1 => qe (fun ⟨ts, g, e⟩ => ne ts g e) v H1 s1⟩
   have cnt := shown_count (m := 58) (ts := ts) (by decide)
   rw [<- e] at cnt
   refine ⟨r, ws, ts, rfl, SqL.of l1, c1, g, by omega, fun H2 s2 => ?_⟩
   rw [<- e]
   exact q ⟨ts, g, e⟩ H2 (s1.trans s2)
  ·have h2 : w ≠ 0 := fun e => h (by rw [e]; rfl)
   rw [if_neg h2] at q qe
   refine ⟨_, rfl, z, rfl, zl, fun ts g e r ws H1 s1 l1 c1 => ?_, fun ne v H1 s1 => qe (fun ⟨ts, g, e⟩ => ne ts g e) v H1 s1⟩
   have cnt := shown_count (m := 45) (ts := ts) (by decide)
   rw [<- e] at cnt
   refine ⟨r, ws, ts, rfl, SqL.of l1, c1, fun c hc => (g c hc).small, by omega, fun H2 s2 => ?_⟩
   rw [<- e]
   exact q ⟨ts, g, e⟩ H2 (s1.trans s2)
theorem ok_law_tried {f : Addr} {fd : FuncData} (F : Fun K "_law_tried" "_law_tried" s_law_tried f fd) (bl : Blt mg) (cs : Cst mg) {C : Addr} (xc : Xc K mg C) (xi : Xi K mg C) (F_law_asked : FnX P w K mg base C 5 "_law_asked" ["_law_text", "_law_way"] (sp_law_asked K)) : FnOk P w K mg base CX0 6 f fd ["_law_text", "_law_way"] (sp_law_tried K) := by
 refine F.ok sc_law_tried (fun vs H Q E h => ?_) (fun cdv A outer s H vs Q E hr h => ?_)
 ·obtain ⟨x, _, rfl, _⟩ := h; rfl
 ·obtain ⟨z, w, rfl, zl, q, qe⟩ := h
  obtain ⟨c_SootError, m_SootError, k_SootError, c_NoCell, m_NoCell, k_NoCell, c_NoWord, m_NoWord, k_NoWord, c_NoPairing, m_NoPairing, k_NoPairing, c_NoRow, m_NoRow, k_NoRow, k_ValueError⟩ := xi
  refine ⟨_, (pss_cons (ps_set (i := 2) sc_law_tried.nd rfl (Or.inl rfl) pe_bl)
  (pss_cons (ps_set (i := 3) sc_law_tried.nd rfl (Or.inl rfl) pe_non)
  (pss_cons (ps_try (i := 4) rfl rfl rfl rfl (fun _ => rfl) rfl xc.nm xc.own sc_law_tried.nd rfl rfl (fun _ _ _ _ hcat => (pss_one (ps_set (i := 3) sc_law_tried.nd rfl (Or.inl rfl) (pe_callX hcat F_law_asked (hr.mono (by decide)) rfl (pa_cons (pv 0) (pa_cons (pv 1) pa_nil)))))) (fun _ _ _ _ hmem => (pss_cons (ps_set (i := 5) sc_law_tried.nd rfl (Or.inl rfl) (pe_or (pe_callB (call_isExc rfl xc.kc xc.hd hmem) rfl bl.isinstance_ bt_isinstance (pa_cons (pv 4) (pa_cons (pe_glob (v := .ref c_NoCell) rfl m_NoCell rfl) pa_nil))) (pe_or (pe_callB (call_isExc rfl xc.kc xc.hd hmem) rfl bl.isinstance_ bt_isinstance (pa_cons (pv 4) (pa_cons (pe_glob (v := .ref c_NoPairing) rfl m_NoPairing rfl) pa_nil))) (pe_or (pe_callB (call_isExc rfl xc.kc xc.hd hmem) rfl bl.isinstance_ bt_isinstance (pa_cons (pv 4) (pa_cons (pe_glob (v := .ref c_NoRow) rfl m_NoRow rfl) pa_nil))) (pe_one (pe_callB (call_isExc rfl xc.kc xc.hd hmem) rfl bl.isinstance_ bt_isinstance (pa_cons (pv 4) (pa_cons (pe_glob (v := .ref c_NoWord) rfl m_NoWord rfl) pa_nil))))))))
   (pss_one (ps_set (i := 2) sc_law_tried.nd rfl (Or.inl rfl) (pe_and (pe_callB (call_isExc rfl xc.kc xc.hd hmem) rfl bl.isinstance_ bt_isinstance (pa_cons (pv 4) (pa_cons (pe_glob (v := .ref c_SootError) rfl m_SootError rfl) pa_nil))) (pe_and (pe_callB (call_isExc rfl xc.kc xc.hd hmem) rfl bl.isinstance_ bt_isinstance (pa_cons (pv 4) (pa_cons (pe_bltn (v := .ty "ValueError") rfl bl.ValueError_ bt_ValueError rfl) pa_nil))) (pe_one (pe_not (pv 5))))))))))
  (pss_one (ps_ret (pe_tup (pa_cons (pv 2) (pa_cons (pv 3) pa_nil)))))))), ?_⟩
  refine ⟨_, rfl, _, rfl, z, w, rfl, zl, fun rd H1 s1 => ?_, fun nr v H1 s1 a oe ha hoe => ?_⟩
  ·exact ⟨_, rfl, _, rfl, (by show 2 <= sizeLine; decide), fun p hp => q rd p _ (s1.trans (Same.new hp _)) upd_same⟩
  ·refine ⟨_, rfl, .ref c_NoCell, .ref c_NoCell, false, rfl, hoe, rfl, fun _ h => h, k_NoCell, false, rfl, iteF ?_⟩
   refine ⟨_, rfl, .ref c_NoPairing, .ref c_NoPairing, false, rfl, hoe, rfl, fun _ h => h, k_NoPairing, false, rfl, iteF ?_⟩
   refine ⟨_, rfl, .ref c_NoRow, .ref c_NoRow, false, rfl, hoe, rfl, fun _ h => h, k_NoRow, false, rfl, iteF ?_⟩
   refine ⟨_, rfl, .ref c_NoWord, .ref c_NoWord, false, rfl, hoe, rfl, fun _ h => h, k_NoWord, ?_⟩
   refine ⟨_, rfl, .ref c_SootError, .ref c_SootError, true, rfl, hoe, rfl, fun _ h => h, k_SootError, true, rfl, iteT ?_⟩
   refine ⟨_, rfl, .ty "ValueError", .type "ValueError", true, rfl, hoe, rfl, fun _ h => h, k_ValueError, true, rfl, iteT ?_⟩
   refine ⟨_, rfl, _, rfl, ?_⟩
   exact ⟨_, rfl, _, rfl, (by show 2 <= sizeLine; decide), fun p hp => qe nr p _ (s1.trans (Same.new hp _)) upd_same⟩
theorem ok_law_changed {f : Addr} {fd : FuncData} (F : Fun K "_law_changed" "_law_changed" s_law_changed f fd) (bl : Blt mg) (cs : Cst mg) (F_law_take : Fn P w K mg base 1 "_law_take" ["_law_draw", "_law_many"] (sp_law_take K)) : FnOk P w K mg base CX0 2 f fd ["_law_draw", "_law_text"] (sp_law_changed K) := by
 refine F.ok sc_law_changed (fun vs H Q E h => ?_) (fun cdv A outer s H vs Q E hr h => ?_)
 ·obtain ⟨x, _, _, rfl, _⟩ := h; rfl
 ·obtain ⟨p, a, z, rfl, hp, zl, q⟩ := h
  refine ⟨_, (pss_cons (ps_set (i := 2) sc_law_changed.nd rfl (Or.inl rfl) pe_str)
  (pss_cons (ps_set (i := 3) sc_law_changed.nd rfl (Or.inl rfl) (pe_callG F_law_take (hr.mono (by decide)) rfl (pa_cons (pv 0) (pa_cons (pe_op op_add (pe_callB call_len_str rfl bl.len_ bt_len (pa_cons (pv 1) pa_nil)) pe_int) pa_nil))))
  (pss_cons (ps_set (i := 4) sc_law_changed.nd rfl (Or.inl rfl) (pe_callG F_law_take (hr.mono (by decide)) rfl (pa_cons (pv 0) (pa_cons pe_int pa_nil))))
  (pss_cons (ps_set (i := 5) sc_law_changed.nd rfl (Or.inl rfl) (pe_ix ix_str (pv 2) (pe_callG F_law_take (hr.mono (by decide)) rfl (pa_cons (pv 0) (pa_cons (pe_callB call_len_str rfl bl.len_ bt_len (pa_cons (pv 2) pa_nil)) pa_nil))) plain_call))
  (pss_cons (ps_if (pt_cmpR op_eq (pv 4) pe_int (nomark _)) (pss_one (ps_ret (pe_op op_add_str (pe_op op_add_str (pe_slice sl_str (pv 1) po_none (po_some (pv 3))) (pv 5)) (pe_slice sl_str (pv 1) (po_some (pv 3)) po_none)))) pss_nil)
  (pss_cons (ps_if (pt_cmpR op_eq (pv 4) pe_int (nomark _)) (pss_one (ps_ret (pe_op op_add_str (pe_slice sl_str (pv 1) po_none (po_some (pv 3))) (pe_slice sl_str (pv 1) (po_some (pe_op op_add (pv 3) pe_int)) po_none)))) pss_nil)
  (pss_cons (ps_if (pt_cmpR op_eq (pv 4) pe_int (nomark _)) (pss_one (ps_ret (pe_op op_add_str (pe_op op_add_str (pe_slice sl_str (pv 1) po_none (po_some (pv 3))) (pv 5)) (pe_slice sl_str (pv 1) (po_some (pe_op op_add (pv 3) pe_int)) po_none)))) pss_nil)
  (pss_one (ps_ret (pe_op op_add_str (pe_op op_add_str (pe_slice sl_str (pv 1) po_none (po_some (pv 3))) (pe_op op_mul_str pe_str pe_int)) (pe_slice sl_str (pv 1) (po_some (pv 3)) po_none))))))))))), ?_⟩
  have zs : z.length <= sizeLine := Nat.le_trans zl (by decide)
  refine ⟨_, rfl, _, rfl, z, rfl, zs, _, _, rfl, rfl, p, a, _, rfl, hp, by omega, by omega, fun x1 k k0 k1 => ?_⟩
  refine ⟨_, rfl, p, x1, 4, rfl, upd_same, by decide, by decide, fun x2 kd _ _ => ?_⟩
  refine ⟨_, rfl, _, rfl, _, rfl, _, rfl, (by decide), p, x2, _, rfl, upd_same, (by decide), (by decide), fun x3 d d0 d1 => ?_⟩
  have mv : Mv H p (upd (upd (upd H p (.lst [.int x1])) p (.lst [.int x2])) p (.lst [.int x3])) := (((Mv.refl hp).put x1).put x2).put x3
  generalize upd (upd (upd H p (.lst [.int x1])) p (.lst [.int x2])) p (.lst [.int x3]) = H1 at *
  have d2 : d.toNat < (" -:0123456789/none+_,a." : Str).cps.toList.length := by
   have : d < 23 := d1
   have e : (" -:0123456789/none+_,a." : Str).cps.toList.length = 23 := by decide
   omega
  have hc := atI_nat (List.getElem?_eq_getElem d2)
  rw [show ((d.toNat : Nat) : Int) = d by omega] at hc
  generalize (" -:0123456789/none+_,a." : Str).cps.toList[d.toNat] = c at hc
  refine ⟨_, _, c, rfl, rfl, by decide, hc, ?_⟩
  have b1 : (Txt.slice z none (some k)).length <= k.toNat := sl_to_le k0 (by omega)
  have b2 : (Txt.slice z (some k) none).length <= z.length - k.toNat := sl_from_le k0
  have b3 : (Txt.slice z (some (k + 1)) none).length <= z.length - (k + 1).toNat := sl_from_le (by omega)
  have c1 : (⟨#[c]⟩ : Str).length = 1 := rfl
  have big : 2000 <= sizeLine := by decide
  refine ⟨_, rfl, rfl, _, rfl, ?_⟩
  refine ite2 (fun _ => ?_) (fun _ => ?_)
  ·refine ⟨_, rfl, _, rfl, k, rfl, z, rfl, zs, _, rfl, _, _, rfl, rfl, by omega, ?_⟩
   refine ⟨_, rfl, _, rfl, k, rfl, z, rfl, zs, _, _, rfl, rfl, by rw [app_lenS]; omega, ?_⟩
   exact q _ _ (by rw [app_lenS, app_lenS]; omega) mv
  refine tNext_i ?_
  dsimp only
  refine ⟨_, rfl, rfl, _, rfl, ?_⟩
  refine ite2 (fun _ => ?_) (fun _ => ?_)
  ·refine ⟨_, rfl, _, rfl, k, rfl, z, rfl, zs, ?_⟩
   refine ⟨_, rfl, _, rfl, _, _, rfl, rfl, k + 1, rfl, z, rfl, zs, _, _, rfl, rfl, by omega, ?_⟩
   exact q _ _ (by rw [app_lenS]; omega) mv
  refine tNext_i ?_
  dsimp only
  refine ⟨_, rfl, rfl, _, rfl, ?_⟩
  refine ite2 (fun _ => ?_) (fun _ => ?_)
  ·refine ⟨_, rfl, _, rfl, k, rfl, z, rfl, zs, _, rfl, _, _, rfl, rfl, by omega, ?_⟩
   refine ⟨_, rfl, _, rfl, _, _, rfl, rfl, k + 1, rfl, z, rfl, zs, _, _, rfl, rfl, by rw [app_lenS]; omega, ?_⟩
   exact q _ _ (by rw [app_lenS, app_lenS]; omega) mv
  refine tNext_i ?_
  dsimp only
  have b4 : (rpS (40 : Int).toNat "1").length = 40 := by rw [rp_len]; rfl
  refine ⟨_, rfl, _, rfl, k, rfl, z, rfl, zs, ?_⟩
  refine ⟨_, _, rfl, rfl, by decide, by decide, by decide, _, _, rfl, rfl, by omega, ?_⟩
  refine ⟨_, rfl, _, rfl, k, rfl, z, rfl, zs, _, _, rfl, rfl, by rw [app_lenS]; omega, ?_⟩
  exact q _ _ (by rw [app_lenS, app_lenS]; omega) mv
theorem pickA (k : Int) (h0 : 0 <= k) (h1 : k < 2) : ∃ m : Int, atI [V.int 10, .int (10 ^ Int.toNat 20)] k = some (.int m) /\ 0 < m /\ m <= 10 ^ 20 := by
 rcases (show k = 0 \/ k = 1 by omega) with e | e <;> rw [e]
 ·exact ⟨10, rfl, by decide, by decide⟩
 ·exact ⟨10 ^ 20, rfl, by decide, by decide⟩
theorem pickB (k : Int) (h0 : 0 <= k) (h1 : k < 2) : ∃ m : Int, atI [V.int 10, .int (10 ^ Int.toNat 39)] k = some (.int m) /\ 0 < m /\ m <= 10 ^ 39 := by
 rcases (show k = 0 \/ k = 1 by omega) with e | e <;> rw [e]
 ·exact ⟨10, rfl, by decide, by decide⟩
 ·exact ⟨10 ^ 39, rfl, by decide, by decide⟩
theorem pickS (k : Int) (h : k = 0 \/ k = 1) : ∃ z : Str, atI [V.str "", .str "-"] k = some (.str z) /\ z.length <= 1 := by
 rcases h with e | e <;> rw [e]
 ·exact ⟨"", rfl, by decide⟩
 ·exact ⟨"-", rfl, by decide⟩
theorem sgn01 {k n : Int} (h0 : 0 <= k) (h1 : k < 2) (n0 : 0 <= n) : k * (if 1 < n then 1 else n) = 0 \/ k * (if 1 < n then 1 else n) = 1 := by
 rcases (show k = 0 \/ k = 1 by omega) with e | e <;> rw [e]
 ·left; omega
 ·by_cases h : 1 < n
  ·rw [if_pos h]; right; rfl
  ·rw [if_neg h]; omega
def Wds (H : Hp) (p f : Addr) (zs : List Str) (H4 : Hp) : Prop := Mv H p H4 /\ H4 f = some (.lst (zs.map V.str)) /\ ∀ z ∈ zs, z.length <= 90
theorem Wds.new {H H4 : Hp} {p f r : Addr} {zs : List Str} (h : Wds H p f zs H4) (hr : H4 r = none) (o : HO) : Wds H p f zs (upd H4 r o) := ⟨h.1.same (Same.new hr o), Same.new hr o _ _ h.2.1, h.2.2⟩
theorem Wds.put {H H4 : Hp} {p f : Addr} {zs : List Str} (h : Wds H p f zs H4) (hf : f ≠ p) (x : Int) : Wds H p f zs (upd H4 p (.lst [.int x])) := ⟨h.1.put x, by rw [upd_ne hf]; exact h.2.1, h.2.2⟩
theorem Wds.app {H H4 : Hp} {p f : Addr} {zs : List Str} (h : Wds H p f zs H4) (hf : H f = none) (hfp : f ≠ p) {z : Str} (hz : z.length <= 90) : Wds H p f (zs ++ [z]) (upd H4 f (.lst (zs.map V.str ++ [.str z]))) := by
 refine ⟨h.1.at hf (Ne.symm hfp) _, by rw [upd_same, List.map_append]; rfl, fun y hy => ?_⟩
 rcases List.mem_append.mp hy with e | e
 ·exact h.2.2 y e
 ·cases List.mem_singleton.mp e
  exact hz
theorem ok_law_right {f : Addr} {fd : FuncData} (F : Fun K "_law_right" "_law_right" s_law_right f fd) (bl : Blt mg) (cs : Cst mg) (F_law_take : Fn P w K mg base 1 "_law_take" ["_law_draw", "_law_many"] (sp_law_take K)) : FnOk P w K mg base CX0 2 f fd ["_law_draw", "_law_way"] (sp_law_right K) := by
 refine F.ok sc_law_right (fun vs H Q E h => ?_) (fun cdv A outer s H vs Q E hr h => ?_)
 ·obtain ⟨x, _, _, rfl, _⟩ := h; rfl
 ·obtain ⟨p, a, w, rfl, hp, q⟩ := h
  refine ⟨_, (BSs.h (Bx.pss_cons (Bx.ps_set (i := 2) sc_law_right.nd rfl (Or.inl rfl) (Bx.pe_lst Bx.pa_nil))
  (Bx.pss_cons (Bx.ps_for PassesOwn.never rfl (Bx.pi_range1 rfl bl.range_ (Bx.pa_cons (Bx.pe_op op_add Bx.pe_int (Bx.pe_callG F_law_take (hr.mono (by decide)) rfl (Bx.pa_cons (Bx.pv 0) (Bx.pa_cons Bx.pe_int Bx.pa_nil)))) Bx.pa_nil)) (Bx.pg_name (i := 3) sc_law_right.nd rfl (Or.inl rfl))
   (Bx.pss_cons (Bx.ps_set (i := 4) sc_law_right.nd rfl (Or.inl rfl) (Bx.pe_callG F_law_take (hr.mono (by decide)) rfl (Bx.pa_cons (Bx.pv 0) (Bx.pa_cons (Bx.pe_ix ix_list (Bx.pe_lst (Bx.pa_cons Bx.pe_int (Bx.pa_cons (Bx.pe_op op_pow Bx.pe_int Bx.pe_int) Bx.pa_nil))) (Bx.pe_callG F_law_take (hr.mono (by decide)) rfl (Bx.pa_cons (Bx.pv 0) (Bx.pa_cons Bx.pe_int Bx.pa_nil))) plain_call) Bx.pa_nil))))
   (Bx.pss_cons (Bx.ps_set (i := 5) sc_law_right.nd rfl (Or.inl rfl) (Bx.pe_callG F_law_take (hr.mono (by decide)) rfl (Bx.pa_cons (Bx.pv 0) (Bx.pa_cons (Bx.pe_ix ix_list (Bx.pe_lst (Bx.pa_cons Bx.pe_int (Bx.pa_cons (Bx.pe_op op_pow Bx.pe_int Bx.pe_int) Bx.pa_nil))) (Bx.pe_callG F_law_take (hr.mono (by decide)) rfl (Bx.pa_cons (Bx.pv 0) (Bx.pa_cons Bx.pe_int Bx.pa_nil))) plain_call) Bx.pa_nil))))
   (Bx.pss_one (Bx.ps_if (Bx.pt_cmpR op_eq (Bx.pv 1) Bx.pe_int (nomark _)) (Bx.pss_one (Bx.ps_expr (Bx.pe_bm PySem.F.plainAttrs_list PySem.F.slot_list_append PySem.F.type_list_append mt_append (Bx.pv 2) (Bx.pa_cons (Bx.pe_op op_add_str (Bx.pe_op op_add_str (Bx.pe_op op_add_str (Bx.pe_ix ix_list (Bx.pe_lst (Bx.pa_cons Bx.pe_str (Bx.pa_cons Bx.pe_str Bx.pa_nil))) (Bx.pe_op op_mul (Bx.pe_callG F_law_take (hr.mono (by decide)) rfl (Bx.pa_cons (Bx.pv 0) (Bx.pa_cons Bx.pe_int Bx.pa_nil))) (Bx.pe_callB (call_min2 rfl) rfl bl.min_ bt_min (Bx.pa_cons (Bx.pv 4) (Bx.pa_cons Bx.pe_int Bx.pa_nil)))) plain_bin) (Bx.pe_callTy call_str_int rfl bl.str_ bt_str (Bx.pa_cons (Bx.pv 4) Bx.pa_nil))) Bx.pe_str) (Bx.pe_callTy call_str_int rfl bl.str_ bt_str (Bx.pa_cons (Bx.pv 5) Bx.pa_nil))) Bx.pa_nil)))) (Bx.pss_one (Bx.ps_expr (Bx.pe_bm PySem.F.plainAttrs_list PySem.F.slot_list_append PySem.F.type_list_append mt_append (Bx.pv 2) (Bx.pa_cons (Bx.pe_op op_add_str (Bx.pe_op op_add_str (Bx.pe_callTy call_str_int rfl bl.str_ bt_str (Bx.pa_cons (Bx.pv 4) Bx.pa_nil)) Bx.pe_str) (Bx.pe_callTy call_str_int rfl bl.str_ bt_str (Bx.pa_cons (Bx.pe_op op_add (Bx.pe_op op_add (Bx.pv 4) Bx.pe_int) (Bx.pv 5)) Bx.pa_nil))) Bx.pa_nil)))))))))
  (Bx.pss_one (Bx.ps_ret (Bx.pe_bm PySem.F.plainAttrs_str PySem.F.slot_str_join PySem.F.type_str_join mt_join Bx.pe_str (Bx.pa_cons (Bx.pv 2) Bx.pa_nil))))))), ?_⟩
  refine ⟨Nat.zero_le _, fun f hf => ?_⟩
  have fp : f ≠ p := (ne_of_none hp hf).symm
  have S1 : Wds H p f [] (upd H f (.lst [])) := ⟨(Mv.refl hp).same (Same.new hf _), upd_same, fun _ h => absurd h List.not_mem_nil⟩
  have p1 := Same.new hf (.lst []) _ _ hp
  generalize upd H f (.lst []) = H1 at *
  dsimp only
  refine tSeq_i (tFor_i ?_)
  refine ⟨_, rfl, p, a, 3, rfl, p1, by decide, by decide, fun x2 n2 n20 n21 => ?_⟩
  have S2 := S1.put fp x2
  have p2 : upd H1 p (.lst [.int x2]) p = _ := upd_same
  generalize upd H1 p (.lst [.int x2]) = H2 at *
  refine ⟨_, _, rfl, rfl, _, rfl, by omega, by omega, ?_⟩
  refine gf_range (n := (1 + n2).toNat) (fun i σ H4 => ∃ zs v3 v4 v5, Wds H p f zs H4 /\ zs.length <= i /\ i <= 3 /\ σ = [some (.ref p), some (.int w), some (.ref f), v3, v4, v5]) ⟨[], _, _, _, S2, Nat.le_refl _, by decide, rfl⟩ ?_ ?_
  ·rintro i σ H4 hi ⟨zs, v3, v4, v5, S4, zl, i3, rfl⟩
   refine gName_i ?_
   obtain ⟨x4, p4⟩ := S4.1.2
   refine ⟨_, rfl, _, _, rfl, rfl, ⟨by decide, by decide, by decide⟩, (by show 2 <= sizeLine; decide), fun r1 hr1 => ?_⟩
   have S5 := S4.new hr1 (.lst [.int 10, .int (10 ^ Int.toNat 20)])
   have l5 : upd H4 r1 (.lst [.int 10, .int (10 ^ Int.toNat 20)]) r1 = _ := upd_same
   have p5 := Same.new hr1 (.lst [.int 10, .int (10 ^ Int.toNat 20)]) _ _ p4
   have rp : r1 ≠ p := (ne_of_none p4 hr1).symm
   generalize upd H4 r1 (.lst [.int 10, .int (10 ^ Int.toNat 20)]) = H5 at *
   refine ⟨_, rfl, p, x4, 2, rfl, p5, by decide, by decide, fun x6 z6 z60 z61 => ?_⟩
   obtain ⟨m6, e6, m60, m61⟩ := pickA z6 z60 z61
   refine ⟨r1, _, _, _, rfl, rfl, SqL.of (by rw [upd_ne rp]; exact l5), e6, ?_⟩
   refine ⟨p, x6, m6, rfl, upd_same, m60, by omega, fun x7 one o0 o1 => ?_⟩
   have S7 := (S5.put fp x6).put fp x7
   have p7 : upd (upd H5 p (.lst [.int x6])) p (.lst [.int x7]) p = _ := upd_same
   generalize upd (upd H5 p (.lst [.int x6])) p (.lst [.int x7]) = H7 at *
   clear S5 l5 p5 rp p4 S4 S2 S1 p1 p2 hr1
   refine ⟨_, rfl, _, _, rfl, rfl, ⟨by decide, by decide, by decide⟩, (by show 2 <= sizeLine; decide), fun r2 hr2 => ?_⟩
   have S8 := S7.new hr2 (.lst [.int 10, .int (10 ^ Int.toNat 39)])
   have l8 : upd H7 r2 (.lst [.int 10, .int (10 ^ Int.toNat 39)]) r2 = _ := upd_same
   have p8 := Same.new hr2 (.lst [.int 10, .int (10 ^ Int.toNat 39)]) _ _ p7
   have rp : r2 ≠ p := (ne_of_none p7 hr2).symm
   generalize upd H7 r2 (.lst [.int 10, .int (10 ^ Int.toNat 39)]) = H8 at *
   refine ⟨_, rfl, p, x7, 2, rfl, p8, by decide, by decide, fun x9 z9 z90 z91 => ?_⟩
   obtain ⟨m9, e9, m90, m91⟩ := pickB z9 z90 z91
   refine ⟨r2, _, _, _, rfl, rfl, SqL.of (by rw [upd_ne rp]; exact l8), e9, ?_⟩
   refine ⟨p, x9, m9, rfl, upd_same, m90, by omega, fun x10 oth t0 t1 => ?_⟩
   have S10 := (S8.put fp x9).put fp x10
   have p10 : upd (upd H8 p (.lst [.int x9])) p (.lst [.int x10]) p = _ := upd_same
   generalize upd (upd H8 p (.lst [.int x9])) p (.lst [.int x10]) = H10 at *
   clear S8 l8 p8 rp p7 S7 hr2
   have big : 2000 <= sizeLine := by decide
   have n1 : (num one).length <= 41 := num_lenB (by omega) (by omega)
   have n2 : (num oth).length <= 41 := num_lenB (by omega) (by omega)
   have n3 : (num (one + 1 + oth)).length <= 41 := num_lenB (by omega) (by omega)
   have lc : (":" : Str).length = 1 := by decide
   have ld : ("-" : Str).length = 1 := by decide
   refine ⟨_, rfl, rfl, _, rfl, ?_⟩
   refine ite2 (fun _ => ?_) (fun _ => ?_)
   ·refine ⟨_, rfl, .inl ⟨rfl, _, SqL.of S10.2.1⟩, (by show 2 <= sizeLine; decide), fun r3 hr3 => ?_⟩
    have S11 := S10.new hr3 (.lst [.str "", .str "-"])
    have l11 : upd H10 r3 (.lst [.str "", .str "-"]) r3 = _ := upd_same
    have p11 := Same.new hr3 (.lst [.str "", .str "-"]) _ _ p10
    have rp : r3 ≠ p := (ne_of_none p10 hr3).symm
    generalize upd H10 r3 (.lst [.str "", .str "-"]) = H11 at *
    refine ⟨_, rfl, p, x10, 2, rfl, p11, by decide, by decide, fun x12 z12 z120 z121 => ?_⟩
    obtain ⟨sg, e12, sl⟩ := pickS _ (sgn01 z120 z121 o0)
    refine ⟨_, rfl, _, _, rfl, _, _, rfl, rfl, .inl ⟨by omega, by omega⟩, ?_⟩
    refine ⟨r3, _, _, _, rfl, rfl, SqL.of (by rw [upd_ne rp]; exact l11), e12, ?_⟩
    have S12 := S11.put fp x12
    generalize upd H11 p (.lst [.int x12]) = H12 at *
    refine ⟨_, rfl, _, rfl, num_log (by omega) (by omega), _, _, rfl, rfl, (by show sg.length + (num one).length <= _; omega), ?_⟩
    refine ⟨_, _, rfl, rfl, (by show (sg ++ num one).length + (":" : Str).length <= _; rw [app_lenS]; omega), ?_⟩
    refine ⟨_, rfl, _, rfl, num_log (by omega) (by omega), _, _, rfl, rfl, (by show (sg ++ num one ++ ":").length + (num oth).length <= _; rw [app_lenS, app_lenS]; omega), ?_⟩
    refine ⟨f, zs.map V.str, _, rfl, rfl, S12.2.1, sml (by rw [List.length_map]; omega), ?_⟩
    exact ⟨zs ++ [sg ++ num one ++ ":" ++ num oth], _, _, _, S12.app hf fp (by rw [app_lenS, app_lenS, app_lenS]; omega), by rw [List.length_append]; exact Nat.succ_le_succ zl, by omega, rfl⟩
   ·refine ⟨_, rfl, .inl ⟨rfl, _, SqL.of S10.2.1⟩, _, rfl, _, rfl, num_log (by omega) (by omega), _, _, rfl, rfl, (by show (num one).length + ("-" : Str).length <= _; omega), ?_⟩
    refine ⟨_, rfl, _, _, rfl, rfl, _, rfl, _, _, rfl, rfl, _, rfl, num_log (by omega) (by omega), _, _, rfl, rfl, (by show (num one ++ "-").length + (num (one + 1 + oth)).length <= _; rw [app_lenS]; omega), ?_⟩
    refine ⟨f, zs.map V.str, _, rfl, rfl, S10.2.1, sml (by rw [List.length_map]; omega), ?_⟩
    exact ⟨zs ++ [num one ++ "-" ++ num (one + 1 + oth)], _, _, _, S10.app hf fp (by rw [app_lenS, app_lenS]; omega), by rw [List.length_append]; exact Nat.succ_le_succ zl, by omega, rfl⟩
  ·rintro σ H4 ⟨zs, v3, v4, v5, S4, zl, i3, rfl⟩
   have tl := tjoin_le (c := 32) S4.2.2
   exact ⟨rfl, _, rfl, ⟨#[32]⟩, f, zs, congrArg V.str t32, rfl, SqL.of S4.2.1, joinOk S4.2.2 (by omega), q _ _ (by omega) S4.1⟩
def oddB : V -> Bool
 | .str z => decide (z.length <= 20)
 | _ => false
def Odd (H : Hp) (o : Addr) (n : Nat) : Prop := ∃ xs, H o = some (.lst xs) /\ xs.length = n /\ xs.all oddB = true
theorem Odd.same {H H' : Hp} {o : Addr} {n : Nat} (h : Odd H o n) (s : Same H H') : Odd H' o n := by
 obtain ⟨xs, a, b, c⟩ := h
 exact ⟨xs, s _ _ a, b, c⟩
theorem Odd.new {H : Hp} {o : Addr} {xs : List V} (h : xs.all oddB = true) : Odd (upd H o (.lst xs)) o xs.length := ⟨xs, upd_same, rfl, h⟩
theorem tLst_odd {t : TA} {σ : St} {H : Hp} {Q : VK} (h : t σ H fun xs H1 => xs.length <= sizeLine /\ xs.all oddB = true /\ ∀ o H2, H1 o = none -> Same H1 H2 -> Odd H2 o xs.length -> Q (.ref o) H2) (hm : ∀ (A B : List V -> Hp -> Prop), (∀ x H, A x H -> B x H) -> t σ H A -> t σ H B) : tLst t σ H Q :=
 hm _ _ (fun xs _ ⟨a, b, c⟩ => ⟨a, fun p hp => c p _ hp (Same.new hp _) (Odd.new b)⟩) h
theorem Odd.cat {H : Hp} {o1 o2 : Addr} {n m : Nat} (h1 : Odd H o1 n) (h2 : Odd H o2 m) : ∃ xs zs, H o1 = some (.lst xs) /\ H o2 = some (.lst zs) /\ xs.length = n /\ zs.length = m /\ ∀ o, H o = none -> Same H (upd H o (.lst (xs ++ zs))) /\ Odd (upd H o (.lst (xs ++ zs))) o (n + m) := by
 obtain ⟨xs, a, b, c⟩ := h1
 obtain ⟨zs, d, e, f⟩ := h2
 refine ⟨xs, zs, a, d, b, e, fun o ho => ⟨Same.new ho _, xs ++ zs, upd_same, ?_, ?_⟩⟩
 ·rw [List.length_append, b, e]
 ·rw [List.all_append, c, f]
  rfl
theorem odd_at {xs : List V} (h : xs.all oddB = true) {d : Int} (d0 : 0 <= d) (d1 : d < (xs.length : Int)) : ∃ z : Str, atI xs d = some (.str z) /\ z.length <= 20 := by
 have hl : d.toNat < xs.length := by omega
 have e := List.getElem?_eq_getElem hl
 have m := List.all_eq_true.mp h _ (List.getElem_mem hl)
 have e2 := atI_nat e
 rw [show ((d.toNat : Nat) : Int) = d by omega] at e2
 generalize xs[d.toNat] = v at *
 cases v with
 | str z => exact ⟨z, e2, of_decide_eq_true m⟩
 | _ => cases m
def Lw (H : Hp) (p o : Addr) (H1 : Hp) : Prop := Same H H1 /\ H p = none /\ H o = none /\ o ≠ p /\ (∃ x : Int, H1 p = some (.lst [.int x])) /\ Odd H1 o 27
theorem Lw.mv {H H1 H2 : Hp} {p o : Addr} (h : Lw H p o H1) (m : Mv H1 p H2) : Lw H p o H2 := by
 obtain ⟨a, b, c, d, _, xs, e, f, g⟩ := h
 exact ⟨m.under a b, b, c, d, m.2, xs, m.1 _ _ d e, f, g⟩
theorem Lw.same {H H1 H2 : Hp} {p o : Addr} (h : Lw H p o H1) (s : Same H1 H2) : Lw H p o H2 := by
 obtain ⟨a, b, c, d, ⟨x, e⟩, f⟩ := h
 exact ⟨a.trans s, b, c, d, ⟨x, s _ _ e⟩, f.same s⟩
theorem Lw.put {H H1 : Hp} {p o : Addr} (h : Lw H p o H1) (x : Int) : Lw H p o (upd H1 p (.lst [.int x])) := by
 obtain ⟨y, e⟩ := h.2.2.2.2.1
 exact h.mv ((Mv.refl e).put x)
theorem Lw.turn {H H1 : Hp} {p o p2 : Addr} (h : Lw H p o H1) (h2 : H1 p2 = none) (x : Int) : Lw H p2 o (upd H1 p2 (.lst [.int x])) := by
 obtain ⟨a, b, c, d, _, f⟩ := h
 have s := Same.new h2 (.lst [.int x])
 obtain ⟨xs, e, g1, g2⟩ := f
 exact ⟨a.trans s, a.free h2, c, ne_of_none e h2, ⟨x, upd_same⟩, xs, s _ _ e, g1, g2⟩
def Due (w : Int) (z : Str) (v : V) : Prop := (Rdb w z /\ ∃ r, v = .ref r) \/ (¬ Rdb w z /\ v = .non)
theorem cells_due {vs : List V} {H : Hp} {Q : VK} {E : XK} (h : ∃ z, vs = [.str z] /\ z.length <= 900 /\ ∀ v H', Same H H' -> Due 0 z v -> Q v H') : sp_law_cells_of K vs H Q E := by
 obtain ⟨z, rfl, zl, q⟩ := h
 refine ⟨z, rfl, zl, fun rd r H' s => q _ H' s (.inl ⟨?_, r, rfl⟩), fun nr H' s => q _ H' s (.inr ⟨?_, rfl⟩)⟩
 ·unfold Rdb; rw [if_pos rfl]; exact rd
 ·unfold Rdb; rw [if_pos rfl]; exact fun ⟨ts, g, e⟩ => nr ts g e
theorem ties_due {vs : List V} {H : Hp} {Q : VK} {E : XK} (h : ∃ z, vs = [.str z] /\ z.length <= 900 /\ ∀ v H', Same H H' -> Due 1 z v -> Q v H') : sp_law_ties_of K vs H Q E := by
 obtain ⟨z, rfl, zl, q⟩ := h
 refine ⟨z, rfl, zl, fun rd r H' s => q _ H' s (.inl ⟨?_, r, rfl⟩), fun nr H' s => q _ H' s (.inr ⟨?_, rfl⟩)⟩
 ·unfold Rdb; rw [if_neg (by decide)]; exact rd
 ·unfold Rdb; rw [if_neg (by decide)]; exact fun ⟨ts, g, e⟩ => nr ts g e
theorem due_at {v1 v2 : V} {t : Str} {w : Int} (h1 : Due 0 t v1) (h2 : Due 1 t v2) (w0 : 0 <= w) (w1 : w < 2) : ∃ v, atI [v1, v2] w = some v /\ Due w t v := by
 rcases (show w = 0 \/ w = 1 by omega) with rfl | rfl
 ·exact ⟨v1, rfl, h1⟩
 ·exact ⟨v2, rfl, h2⟩
theorem ok_law {f : Addr} {fd : FuncData} (F : Fun K "law" "law" s_law f fd) (bl : Blt mg) (cs : Cst mg) (F_law_purse : Fn P w K mg base 1 "_law_purse" ["_law_script", "_law_k", "_law_plain"] (sp_law_purse K)) (F_law_take : Fn P w K mg base 1 "_law_take" ["_law_draw", "_law_many"] (sp_law_take K)) (F_law_right : Fn P w K mg base 2 "_law_right" ["_law_draw", "_law_way"] (sp_law_right K)) (F_law_changed : Fn P w K mg base 2 "_law_changed" ["_law_draw", "_law_text"] (sp_law_changed K)) (F_law_cells_of : Fn P w K mg base 2 "_law_cells_of" ["_law_text"] (sp_law_cells_of K)) (F_law_ties_of : Fn P w K mg base 2 "_law_ties_of" ["_law_text"] (sp_law_ties_of K)) (F_law_tried : Fn P w K mg base 6 "_law_tried" ["_law_text", "_law_way"] (sp_law_tried K)) : FnOk P w K mg base CX0 7 f fd ["_law_script"] (spLaw K) := by
 refine F.ok sc_law (fun vs H Q E h => ?_) (fun cdv A outer s H vs Q E hr h => ?_)
 ·obtain ⟨x, r, rfl, _⟩ := h; rfl
 ·obtain ⟨a, ns, rfl, hS, h63, q⟩ := h
  refine ⟨_, (BSs.h (Bx.pss_cons (Bx.ps_set (i := 1) sc_law.nd rfl (Or.inl rfl) (Bx.pe_callG F_law_purse (hr.mono (by decide)) rfl (Bx.pa_cons (Bx.pv 0) (Bx.pa_cons Bx.pe_int (Bx.pa_cons Bx.pe_bl Bx.pa_nil)))))
  (Bx.pss_cons (Bx.ps_join (Bx.ps_if (Bx.pt_cmpR op_eq (Bx.pe_callG F_law_take (hr.mono (by decide)) rfl (Bx.pa_cons (Bx.pv 1) (Bx.pa_cons Bx.pe_int Bx.pa_nil))) Bx.pe_int (nomark _)) (Bx.pss_one (Bx.ps_set (i := 1) sc_law.nd rfl (Or.inl rfl) (Bx.pe_callG F_law_purse (hr.mono (by decide)) rfl (Bx.pa_cons (Bx.pv 0) (Bx.pa_cons Bx.pe_int (Bx.pa_cons Bx.pe_bl Bx.pa_nil)))))) Bx.pss_nil))
  (Bx.pss_cons (Bx.ps_set (i := 2) sc_law.nd rfl (Or.inl rfl) (Bx.pe_cmpR op_eq (Bx.pe_op op_mod (Bx.pe_callB call_len_seq rfl bl.len_ bt_len (Bx.pa_cons (Bx.pv 0) Bx.pa_nil)) Bx.pe_int) Bx.pe_int (nomark _)))
  (Bx.pss_cons (Bx.ps_set (i := 3) sc_law.nd rfl (Or.inl rfl) (Bx.pe_lst (Bx.pa_cons Bx.pe_str (Bx.pa_cons Bx.pe_str (Bx.pa_cons Bx.pe_str (Bx.pa_cons Bx.pe_str (Bx.pa_cons Bx.pe_str (Bx.pa_cons Bx.pe_str (Bx.pa_cons Bx.pe_str (Bx.pa_cons Bx.pe_str (Bx.pa_cons Bx.pe_str (Bx.pa_cons Bx.pe_str (Bx.pa_cons Bx.pe_str Bx.pa_nil)))))))))))))
  (Bx.pss_cons (Bx.ps_set (i := 3) sc_law.nd rfl (Or.inl rfl) (Bx.pe_op op_cat (Bx.pv 3) (Bx.pe_lst (Bx.pa_cons Bx.pe_str (Bx.pa_cons Bx.pe_str (Bx.pa_cons Bx.pe_str Bx.pa_nil))))))
  (Bx.pss_cons (Bx.ps_set (i := 3) sc_law.nd rfl (Or.inl rfl) (Bx.pe_op op_cat (Bx.pv 3) (Bx.pe_lst (Bx.pa_cons Bx.pe_str (Bx.pa_cons Bx.pe_str (Bx.pa_cons Bx.pe_str (Bx.pa_cons Bx.pe_str (Bx.pa_cons Bx.pe_str (Bx.pa_cons Bx.pe_str (Bx.pa_cons Bx.pe_str (Bx.pa_cons Bx.pe_str (Bx.pa_cons Bx.pe_str (Bx.pa_cons Bx.pe_str (Bx.pa_cons Bx.pe_str Bx.pa_nil))))))))))))))
  (Bx.pss_cons (Bx.ps_set (i := 3) sc_law.nd rfl (Or.inl rfl) (Bx.pe_op op_cat (Bx.pv 3) (Bx.pe_lst (Bx.pa_cons Bx.pe_str (Bx.pa_cons Bx.pe_str Bx.pa_nil)))))
  (Bx.pss_cons (Bx.ps_for PassesOwn.never rfl (Bx.pi_range1 rfl bl.range_ (Bx.pa_cons (Bx.pe_callB (call_min2 rfl) rfl bl.min_ bt_min (Bx.pa_cons (Bx.pe_callB call_len_seq rfl bl.len_ bt_len (Bx.pa_cons (Bx.pv 0) Bx.pa_nil)) (Bx.pa_cons Bx.pe_int Bx.pa_nil))) Bx.pa_nil)) (Bx.pg_name (i := 4) sc_law.nd rfl (Or.inl rfl))
   (Bx.pss_cons (Bx.ps_join (Bx.ps_if (Bx.pt_cmpR op_gt (Bx.pv 4) Bx.pe_int (nomark _)) (Bx.pss_one (Bx.ps_set (i := 1) sc_law.nd rfl (Or.inl rfl) (Bx.pe_callG F_law_purse (hr.mono (by decide)) rfl (Bx.pa_cons (Bx.pv 0) (Bx.pa_cons (Bx.pv 4) (Bx.pa_cons (Bx.pv 2) Bx.pa_nil)))))) Bx.pss_nil))
   (Bx.pss_cons (Bx.ps_set (i := 5) sc_law.nd rfl (Or.inl rfl) (Bx.pe_callG F_law_take (hr.mono (by decide)) rfl (Bx.pa_cons (Bx.pv 1) (Bx.pa_cons Bx.pe_int Bx.pa_nil))))
   (Bx.pss_cons (Bx.ps_set (i := 6) sc_law.nd rfl (Or.inl rfl) (Bx.pe_callG F_law_right (hr.mono (by decide)) rfl (Bx.pa_cons (Bx.pv 1) (Bx.pa_cons (Bx.pv 5) Bx.pa_nil))))
   (Bx.pss_cons (Bx.ps_for PassesOwn.never rfl (Bx.pi_range1 rfl bl.range_ (Bx.pa_cons (Bx.pe_callG F_law_take (hr.mono (by decide)) rfl (Bx.pa_cons (Bx.pv 1) (Bx.pa_cons Bx.pe_int Bx.pa_nil))) Bx.pa_nil)) (Bx.pg_name (i := 7) sc_law.nd rfl (Or.inl rfl))
    (Bx.pss_one (Bx.ps_set (i := 6) sc_law.nd rfl (Or.inl rfl) (Bx.pe_callG F_law_changed (hr.mono (by decide)) rfl (Bx.pa_cons (Bx.pv 1) (Bx.pa_cons (Bx.pv 6) Bx.pa_nil))))))
   (Bx.pss_cons (Bx.ps_join (Bx.ps_if (Bx.pt_cmpR op_eq (Bx.pe_callG F_law_take (hr.mono (by decide)) rfl (Bx.pa_cons (Bx.pv 1) (Bx.pa_cons Bx.pe_int Bx.pa_nil))) Bx.pe_int (nomark _)) (Bx.pss_one (Bx.ps_set (i := 6) sc_law.nd rfl (Or.inl rfl) (Bx.pe_ix ix_list (Bx.pv 3) (Bx.pe_callG F_law_take (hr.mono (by decide)) rfl (Bx.pa_cons (Bx.pv 1) (Bx.pa_cons (Bx.pe_callB call_len_seq rfl bl.len_ bt_len (Bx.pa_cons (Bx.pv 3) Bx.pa_nil)) Bx.pa_nil))) plain_call))) Bx.pss_nil))
   (Bx.pss_cons (Bx.ps_set (i := 8) sc_law.nd rfl (Or.inl rfl) (Bx.pe_ix ix_list (Bx.pe_lst (Bx.pa_cons (Bx.pe_callG F_law_cells_of (hr.mono (by decide)) rfl (Bx.pa_cons (Bx.pv 6) Bx.pa_nil)) (Bx.pa_cons (Bx.pe_callG F_law_ties_of (hr.mono (by decide)) rfl (Bx.pa_cons (Bx.pv 6) Bx.pa_nil)) Bx.pa_nil))) (Bx.pv 5) plain_name))
   (Bx.pss_cons (Bx.ps_asg (Bx.pe_callG F_law_tried (hr.mono (by decide)) rfl (Bx.pa_cons (Bx.pv 6) (Bx.pa_cons (Bx.pv 5) Bx.pa_nil))) (Bx.pg_tup rfl (Bx.pgs_cons (Bx.pg_name (i := 9) sc_law.nd rfl (Or.inl rfl)) (Bx.pgs_cons (Bx.pg_name (i := 10) sc_law.nd rfl (Or.inl rfl)) Bx.pgs_nil))))
   (Bx.pss_one (Bx.ps_if (Bx.pw_pt (Bx.pw_or (Bx.pw_pt (Bx.pw_and (Bx.pt_cmpR op_isN (Bx.pv 8) Bx.pe_non (nomark _)) (Bx.pw_and1 (Bx.pt_not (Bx.pt_val (Bx.pv 9)))))) (Bx.pw_or1 (Bx.pw_pt (Bx.pw_and (Bx.pt_cmpR op_notN (Bx.pv 8) Bx.pe_non (nomark _)) (Bx.pw_and1 (Bx.pw_pt (Bx.pw_or (Bx.pt_val (Bx.pv 9)) (Bx.pw_or1 (Bx.pt_cmpR op_ne (Bx.pv 10) (Bx.pv 6) (nomark _))))))))))) (Bx.pss_one (Bx.ps_ret Bx.pe_bl)) Bx.pss_nil))))))))))
  (Bx.pss_one (Bx.ps_ret Bx.pe_bl))))))))))), ?_⟩
  refine ⟨_, rfl, a, ns, 0, true, rfl, hS, Int.le_refl 0, by decide, fun p0 x0 hp0 => ?_⟩
  refine ⟨fun σ H1 => ∃ p x, Same H H1 /\ H p = none /\ H1 p = some (.lst [.int x]) /\ σ = [some (.ref a), some (.ref p), none, none, none, none, none, none, none, none, none], ?_, ?_⟩
  ·refine ⟨_, rfl, p0, x0, 2, rfl, upd_same, by decide, by decide, fun x1 z1 _ _ => ?_⟩
   rw [upd_upd]
   have s1 := Same.new hp0 (.lst [.int x1])
   refine ⟨rfl, _, rfl, ?_⟩
   refine ite2 (fun _ => ?_) (fun _ => ⟨p0, x1, s1, hp0, upd_same, rfl⟩)
   refine ⟨_, rfl, a, ns, 0, false, rfl, s1.seq hS, Int.le_refl 0, by decide, fun p2 x2 hp2 => ?_⟩
   exact ⟨p2, x2, s1.trans (Same.new hp2 _), s1.free hp2, upd_same, rfl⟩
  clear hp0
  rintro σ H1 ⟨p, x, s1, hp, l1, rfl⟩
  refine ⟨_, rfl, a, _, rfl, .inl (s1.seq hS), _, _, rfl, rfl, (by show (0 : Int) < 2; decide), rfl, ?_⟩
  dsimp only
  refine tSeq_i (tAsg_i (tLst_odd ?_ (fun _ _ h => h _ _)))
  refine ⟨(by show 11 <= sizeLine; decide), by decide, fun o1 H2 _ s2 O1 => ?_⟩
  replace O1 : Odd H2 o1 11 := O1
  have l2 := s2 _ _ l1
  replace s2 := s1.trans s2
  clear l1 s1
  dsimp only
  refine tSeq_i (tAsg_i ?_)
  refine ⟨_, rfl, tLst_odd ?_ (fun _ _ h => h _ _)⟩
  refine ⟨(by show 3 <= sizeLine; decide), by decide, fun q1 G1 _ t1 U1 => ?_⟩
  obtain ⟨xs1, zs1, a1, b1, c1, d1, e1⟩ := (O1.same t1).cat (show Odd G1 q1 3 from U1)
  refine ⟨o1, q1, _, _, rfl, rfl, a1, b1, Nat.le_trans (m := 100) (by omega) (by decide), fun o2 ho2 => ?_⟩
  obtain ⟨f1, O2⟩ := e1 o2 ho2
  have s3 := s2.trans (t1.trans f1)
  have l3 := f1 _ _ (t1 _ _ l2)
  clear e1 a1 b1 c1 d1
  generalize upd G1 o2 (.lst (xs1 ++ zs1)) = H3 at *
  clear f1 t1 ho2 U1 O1 s2 l2
  dsimp only
  refine tSeq_i (tAsg_i ?_)
  refine ⟨_, rfl, tLst_odd ?_ (fun _ _ h => h _ _)⟩
  refine ⟨(by show 11 <= sizeLine; decide), by decide, fun q2 G2 _ t2 U2 => ?_⟩
  obtain ⟨xs2, zs2, a2, b2, c2, d2, e2⟩ := (O2.same t2).cat (show Odd G2 q2 11 from U2)
  refine ⟨o2, q2, _, _, rfl, rfl, a2, b2, Nat.le_trans (m := 100) (by omega) (by decide), fun o3 ho3 => ?_⟩
  obtain ⟨f2, O3⟩ := e2 o3 ho3
  have s4 := s3.trans (t2.trans f2)
  have l4 := f2 _ _ (t2 _ _ l3)
  clear e2 a2 b2 c2 d2
  generalize upd G2 o3 (.lst (xs2 ++ zs2)) = H4 at *
  clear f2 t2 ho3 U2 O2 s3 l3
  dsimp only
  refine tSeq_i (tAsg_i ?_)
  refine ⟨_, rfl, tLst_odd ?_ (fun _ _ h => h _ _)⟩
  refine ⟨(by show 2 <= sizeLine; decide), by decide, fun q3 G3 _ t3 U3 => ?_⟩
  obtain ⟨xs3, zs3, a3, b3, c3, d3, e3⟩ := (O3.same t3).cat (show Odd G3 q3 2 from U3)
  refine ⟨o3, q3, _, _, rfl, rfl, a3, b3, Nat.le_trans (m := 100) (by omega) (by decide), fun o4 ho4 => ?_⟩
  obtain ⟨f3, O4⟩ := e3 o4 ho4
  have s5 := s4.trans (t3.trans f3)
  have l5 := f3 _ _ (t3 _ _ l4)
  have no4 : H o4 = none := (s4.trans t3).free ho4
  have ne4 : o4 ≠ p := (ne_of_none (t3 _ _ l4) ho4).symm
  clear e3 a3 b3 c3 d3
  generalize upd G3 o4 (.lst (xs3 ++ zs3)) = H5 at *
  clear f3 t3 ho4 U3 O3 s4 l4
  have L5 : Lw H p o4 H5 := ⟨s5, hp, no4, ne4, ⟨x, l5⟩, O4⟩
  clear s5 hp no4 ne4 l5 O4
  dsimp only
  refine tSeq_i (tFor_i ?_)
  refine ⟨_, rfl, a, _, rfl, .inl (L5.1.seq hS), _, _, rfl, ?_⟩
  have nn : ∃ n : Nat, n <= 63 /\ (if (50 : Int) < (ns.map V.int).length then (50 : Int) else (ns.map V.int).length) = n := by
   rw [List.length_map]
   by_cases c : (50 : Int) < ns.length
   ·exact ⟨50, by decide, if_pos c⟩
   ·exact ⟨ns.length, h63, if_neg c⟩
  obtain ⟨n, n63, en⟩ := nn
  rw [en]
  refine ⟨_, rfl, by omega, by omega, ?_⟩
  refine gf_range (n := n) (fun i σ H6 => ∃ p b v4 v5 v6 v7 v8 v9 v10, Lw H p o4 H6 /\ σ = [some (.ref a), some (.ref p), some (.bl b), some (.ref o4), v4, v5, v6, v7, v8, v9, v10]) ⟨p, _, _, _, _, _, _, _, _, L5, rfl⟩ ?_ ?_
  ·clear L5 p
   rintro i σ H6 hi ⟨p, b, v4, v5, v6, v7, v8, v9, v10, L6, rfl⟩
   refine gName_i ?_
   refine ⟨fun σ H7 => ∃ p, Lw H p o4 H7 /\ σ = [some (.ref a), some (.ref p), some (.bl b), some (.ref o4), some (.int (0 + (i : Int))), v5, v6, v7, v8, v9, v10], ?_, ?_⟩
   ·refine ⟨_, rfl, _, _, rfl, rfl, _, rfl, ?_⟩
    refine ite2 (fun _ => ?_) (fun _ => ⟨p, L6, rfl⟩)
    refine ⟨_, rfl, _, rfl, _, rfl, a, ns, 0 + (i : Int), b, rfl, L6.1.seq hS, by omega, by omega, fun p2 x2 hp2 => ?_⟩
    exact ⟨p2, L6.turn hp2 x2, rfl⟩
   clear L6 p
   rintro σ H7 ⟨p, L7, rfl⟩
   obtain ⟨x7, l7⟩ := L7.2.2.2.2.1
   refine ⟨_, rfl, p, x7, 2, rfl, l7, by decide, by decide, fun x8 w w0 w1 => ?_⟩
   have L8 := L7.put x8
   have l8 : upd H7 p (.lst [.int x8]) p = _ := upd_same
   generalize upd H7 p (.lst [.int x8]) = H8 at *
   refine ⟨_, rfl, _, rfl, p, x8, w, rfl, l8, fun t9 H9 tl9 m9 => ?_⟩
   have L9 := L8.mv m9
   obtain ⟨x9, l9⟩ := m9.2
   clear L7 l7 L8 l8 m9
   dsimp only
   refine tSeq_i (tFor_i ?_)
   refine ⟨_, rfl, p, x9, 3, rfl, l9, by decide, by decide, fun x10 n10 n100 n101 => ?_⟩
   have L10 := L9.put x10
   generalize upd H9 p (.lst [.int x10]) = H10 at *
   clear L9 l9
   refine ⟨_, rfl, by omega, by omega, ?_⟩
   refine gf_range (n := n10.toNat) (fun j σ H11 => ∃ t v7, Lw H p o4 H11 /\ t.length <= 300 + 40 * j /\ j <= 3 /\ σ = [some (.ref a), some (.ref p), some (.bl b), some (.ref o4), some (.int (0 + (i : Int))), some (.int w), some (.str t), v7, v8, v9, v10]) ⟨t9, _, L10, tl9, by decide, rfl⟩ ?_ ?_
   ·rintro j σ H11 hj ⟨t, v7, L11, tl, j3, rfl⟩
    refine gName_i ?_
    obtain ⟨x11, l11⟩ := L11.2.2.2.2.1
    refine ⟨_, rfl, _, rfl, p, x11, t, rfl, l11, by omega, fun y H12 yl m12 => ?_⟩
    exact ⟨y, _, L11.mv m12, by omega, by omega, rfl⟩
   ·clear L10 tl9 t9
    rintro σ H11 ⟨t, v7, L11, tl, j3, rfl⟩
    refine ⟨fun σ H12 => ∃ t, Lw H p o4 H12 /\ t.length <= 500 /\ σ = [some (.ref a), some (.ref p), some (.bl b), some (.ref o4), some (.int (0 + (i : Int))), some (.int w), some (.str t), v7, v8, v9, v10], ?_, ?_⟩
    ·obtain ⟨x11, l11⟩ := L11.2.2.2.2.1
     refine ⟨_, rfl, p, x11, 6, rfl, l11, by decide, by decide, fun x12 z12 _ _ => ?_⟩
     have L12 := L11.put x12
     have l12 : upd H11 p (.lst [.int x12]) p = _ := upd_same
     generalize upd H11 p (.lst [.int x12]) = H12 at *
     refine ⟨rfl, _, rfl, ?_⟩
     refine ite2 (fun _ => ?_) (fun _ => ⟨t, L12, by omega, rfl⟩)
     obtain ⟨xs, e1, e2, e3⟩ := L12.2.2.2.2.2
     refine ⟨_, rfl, _, rfl, _, rfl, o4, _, rfl, .inl (SqL.of e1), p, x12, _, rfl, l12, by omega, by omega, fun x13 d d0 d1 => ?_⟩
     obtain ⟨z, ez, lz⟩ := odd_at e3 d0 d1
     exact ⟨o4, _, _, _, rfl, rfl, SqL.of (by rw [upd_ne L12.2.2.2.1]; exact e1), ez, z, L12.put x13, by omega, rfl⟩
    clear L11 tl t
    rintro σ H12 ⟨t, L12, tl, rfl⟩
    refine ⟨_, rfl, ?_⟩
    dsimp only [tNil]
    refine cells_due ⟨t, rfl, by omega, fun u1 H13 s13 d1 => ?_⟩
    refine ⟨_, rfl, ?_⟩
    dsimp only [tNil]
    refine ties_due ⟨t, rfl, by omega, fun u2 H14 s14 d2 => ?_⟩
    refine ⟨(by show 2 <= sizeLine; decide), fun r hr => ?_⟩
    obtain ⟨u, eu, du⟩ := due_at d1 d2 w0 w1
    refine ⟨_, rfl, r, _, _, _, rfl, rfl, SqL.of upd_same, eu, ?_⟩
    have L15 := ((L12.same s13).same s14).same (Same.new hr (.lst [u1, u2]))
    generalize upd H14 r (.lst [u1, u2]) = H15 at *
    clear L12 s13 s14 d1 d2 eu hr
    rcases du with ⟨rd, r2, rfl⟩ | ⟨nr, rfl⟩
    ·refine ⟨_, rfl, _, rfl, t, w, rfl, by omega, fun _ p16 H16 s16 h16 => ?_, fun h => absurd rd h⟩
     refine ⟨p16, _, rfl, SqT.of h16, rfl, _, _, rfl, _, _, rfl, rfl, ?_⟩
     have L16 := L15.same s16
     refine ⟨_, rfl, rfl, false, rfl, iteF (iteF ?_)⟩
     refine ⟨_, rfl, rfl, true, rfl, iteT ?_⟩
     refine ⟨_, rfl, false, rfl, iteF ?_⟩
     refine ⟨_, rfl, _, rfl, rfl, false, congrArg V.bl (by rw [decide_eq_true rfl]; rfl), iteF ?_⟩
     exact ⟨p, b, _, _, _, _, _, _, _, L16, rfl⟩
    ·refine ⟨_, rfl, _, rfl, t, w, rfl, by omega, fun h => absurd h nr, fun _ p16 H16 s16 h16 => ?_⟩
     refine ⟨p16, _, rfl, SqT.of h16, rfl, _, _, rfl, _, _, rfl, rfl, ?_⟩
     have L16 := L15.same s16
     refine ⟨_, rfl, rfl, true, rfl, iteT ?_⟩
     refine ⟨_, rfl, true, rfl, iteF ?_⟩
     refine ⟨_, rfl, rfl, false, rfl, iteF (iteF ?_)⟩
     exact ⟨p, b, _, _, _, _, _, _, _, L16, rfl⟩
  ·rintro σ H6 _
   exact q H6
end
theorem all_mk {l : PySem.W.OpenLaw} {w : World} {K : PySem.W.Frag} {h : Heap} {mg : Str -> Option Value} {fa f0 f1 f2 f3 f4 f5 f6 f7 f8 f9 f10 f11 f12 f13 f14 f15 f16 f17 f18 f19 f20 : Addr} (X : K.In h) (G : h.Ns mainGlobals mg) (hfa : mg "law" = some (.ref fa))
  {od0 an0 od1 an1 od2 an2 od3 an3 od4 an4 od5 an5 od6 an6 od7 an7 od8 an8 od9 an9 od10 an10 od11 an11 od12 an12 od13 an13 od14 an14 od15 an15 od16 an16 od17 an17 od18 an18 od19 an19 od20 an20 : Option Addr} {sl0 sl1 sl2 sl3 sl4 sl5 sl6 sl7 sl8 sl9 sl10 sl11 sl12 sl13 sl14 sl15 sl16 sl17 sl18 sl19 sl20 : Array (Option Value)} {oc0 kV0 dc0 pm0 cd0 ct0 oc1 kV1 dc1 pm1 cd1 ct1 oc2 kV2 dc2 pm2 cd2 ct2 oc3 kV3 dc3 pm3 cd3 ct3 oc4 kV4 dc4 pm4 cd4 ct4 oc5 kV5 dc5 pm5 cd5 ct5 oc6 kV6 dc6 pm6 cd6 ct6 oc7 kV7 dc7 pm7 cd7 ct7 oc8 kV8 dc8 pm8 cd8 ct8 oc9 kV9 dc9 pm9 cd9 ct9 oc10 kV10 dc10 pm10 cd10 ct10 oc11 kV11 dc11 pm11 cd11 ct11 oc12 kV12 dc12 pm12 cd12 ct12 oc13 kV13 dc13 pm13 cd13 ct13 oc14 kV14 dc14 pm14 cd14 ct14 oc15 kV15 dc15 pm15 cd15 ct15 oc16 kV16 dc16 pm16 cd16 ct16 oc17 kV17 dc17 pm17 cd17 ct17 oc18 kV18 dc18 pm18 cd18 ct18 oc19 kV19 dc19 pm19 cd19 ct19 oc20 kV20 dc20 pm20 cd20 ct20 : Value}
  {tk_FIGURES tk_MOST_FIGURES tk_NOTHING : Tok}
  (a0 : PySem.W.nsIn K mainGlobals "show_list" = some (some (.ref f0)))
  (l0 : K.lookup f0 = some ⟨oc0, od0, .func (PySem.W.fnOf "show_list" "show_list" (defArgs s_show_list) (defBody s_show_list) (defScope s_show_list) .none kV0 dc0 pm0 an0 cd0 ct0), sl0⟩) (c0 : PySem.W.codeIn K cd0 "show_list" = true) (k0 : PySem.W.keepIn K (.ref f0) = true)
  (a1 : PySem.W.nsIn K mainGlobals "show_pair" = some (some (.ref f1)))
  (l1 : K.lookup f1 = some ⟨oc1, od1, .func (PySem.W.fnOf "show_pair" "show_pair" (defArgs s_show_pair) (defBody s_show_pair) (defScope s_show_pair) .none kV1 dc1 pm1 an1 cd1 ct1), sl1⟩) (c1 : PySem.W.codeIn K cd1 "show_pair" = true) (k1 : PySem.W.keepIn K (.ref f1) = true)
  (a2 : PySem.W.nsIn K mainGlobals "show_cells" = some (some (.ref f2)))
  (l2 : K.lookup f2 = some ⟨oc2, od2, .func (PySem.W.fnOf "show_cells" "show_cells" (defArgs s_show_cells) (defBody s_show_cells) (defScope s_show_cells) .none kV2 dc2 pm2 an2 cd2 ct2), sl2⟩) (c2 : PySem.W.codeIn K cd2 "show_cells" = true) (k2 : PySem.W.keepIn K (.ref f2) = true)
  (a3 : PySem.W.nsIn K mainGlobals "show_ties" = some (some (.ref f3)))
  (l3 : K.lookup f3 = some ⟨oc3, od3, .func (PySem.W.fnOf "show_ties" "show_ties" (defArgs s_show_ties) (defBody s_show_ties) (defScope s_show_ties) .none kV3 dc3 pm3 an3 cd3 ct3), sl3⟩) (c3 : PySem.W.codeIn K cd3 "show_ties" = true) (k3 : PySem.W.keepIn K (.ref f3) = true)
  (a4 : PySem.W.nsIn K mainGlobals "read_figures" = some (some (.ref f4)))
  (l4 : K.lookup f4 = some ⟨oc4, od4, .func (PySem.W.fnOf "read_figures" "read_figures" (defArgs s_read_figures) (defBody s_read_figures) (defScope s_read_figures) .none kV4 dc4 pm4 an4 cd4 ct4), sl4⟩) (c4 : PySem.W.codeIn K cd4 "read_figures" = true) (k4 : PySem.W.keepIn K (.ref f4) = true)
  (a5 : PySem.W.nsIn K mainGlobals "read_number" = some (some (.ref f5)))
  (l5 : K.lookup f5 = some ⟨oc5, od5, .func (PySem.W.fnOf "read_number" "read_number" (defArgs s_read_number) (defBody s_read_number) (defScope s_read_number) .none kV5 dc5 pm5 an5 cd5 ct5), sl5⟩) (c5 : PySem.W.codeIn K cd5 "read_number" = true) (k5 : PySem.W.keepIn K (.ref f5) = true)
  (a6 : PySem.W.nsIn K mainGlobals "read_halves" = some (some (.ref f6)))
  (l6 : K.lookup f6 = some ⟨oc6, od6, .func (PySem.W.fnOf "read_halves" "read_halves" (defArgs s_read_halves) (defBody s_read_halves) (defScope s_read_halves) .none kV6 dc6 pm6 an6 cd6 ct6), sl6⟩) (c6 : PySem.W.codeIn K cd6 "read_halves" = true) (k6 : PySem.W.keepIn K (.ref f6) = true)
  (a7 : PySem.W.nsIn K mainGlobals "read_cell" = some (some (.ref f7)))
  (l7 : K.lookup f7 = some ⟨oc7, od7, .func (PySem.W.fnOf "read_cell" "read_cell" (defArgs s_read_cell) (defBody s_read_cell) (defScope s_read_cell) .none kV7 dc7 pm7 an7 cd7 ct7), sl7⟩) (c7 : PySem.W.codeIn K cd7 "read_cell" = true) (k7 : PySem.W.keepIn K (.ref f7) = true)
  (a8 : PySem.W.nsIn K mainGlobals "read_tie" = some (some (.ref f8)))
  (l8 : K.lookup f8 = some ⟨oc8, od8, .func (PySem.W.fnOf "read_tie" "read_tie" (defArgs s_read_tie) (defBody s_read_tie) (defScope s_read_tie) .none kV8 dc8 pm8 an8 cd8 ct8), sl8⟩) (c8 : PySem.W.codeIn K cd8 "read_tie" = true) (k8 : PySem.W.keepIn K (.ref f8) = true)
  (a9 : PySem.W.nsIn K mainGlobals "read_cells" = some (some (.ref f9)))
  (l9 : K.lookup f9 = some ⟨oc9, od9, .func (PySem.W.fnOf "read_cells" "read_cells" (defArgs s_read_cells) (defBody s_read_cells) (defScope s_read_cells) .none kV9 dc9 pm9 an9 cd9 ct9), sl9⟩) (c9 : PySem.W.codeIn K cd9 "read_cells" = true) (k9 : PySem.W.keepIn K (.ref f9) = true)
  (a10 : PySem.W.nsIn K mainGlobals "read_ties" = some (some (.ref f10)))
  (l10 : K.lookup f10 = some ⟨oc10, od10, .func (PySem.W.fnOf "read_ties" "read_ties" (defArgs s_read_ties) (defBody s_read_ties) (defScope s_read_ties) .none kV10 dc10 pm10 an10 cd10 ct10), sl10⟩) (c10 : PySem.W.codeIn K cd10 "read_ties" = true) (k10 : PySem.W.keepIn K (.ref f10) = true)
  (a11 : PySem.W.nsIn K mainGlobals "_law_take" = some (some (.ref f11)))
  (l11 : K.lookup f11 = some ⟨oc11, od11, .func (PySem.W.fnOf "_law_take" "_law_take" (defArgs s_law_take) (defBody s_law_take) (defScope s_law_take) .none kV11 dc11 pm11 an11 cd11 ct11), sl11⟩) (c11 : PySem.W.codeIn K cd11 "_law_take" = true) (k11 : PySem.W.keepIn K (.ref f11) = true)
  (a12 : PySem.W.nsIn K mainGlobals "_law_purse" = some (some (.ref f12)))
  (l12 : K.lookup f12 = some ⟨oc12, od12, .func (PySem.W.fnOf "_law_purse" "_law_purse" (defArgs s_law_purse) (defBody s_law_purse) (defScope s_law_purse) .none kV12 dc12 pm12 an12 cd12 ct12), sl12⟩) (c12 : PySem.W.codeIn K cd12 "_law_purse" = true) (k12 : PySem.W.keepIn K (.ref f12) = true)
  (a13 : PySem.W.nsIn K mainGlobals "_law_whole" = some (some (.ref f13)))
  (l13 : K.lookup f13 = some ⟨oc13, od13, .func (PySem.W.fnOf "_law_whole" "_law_whole" (defArgs s_law_whole) (defBody s_law_whole) (defScope s_law_whole) .none kV13 dc13 pm13 an13 cd13 ct13), sl13⟩) (c13 : PySem.W.codeIn K cd13 "_law_whole" = true) (k13 : PySem.W.keepIn K (.ref f13) = true)
  (a14 : PySem.W.nsIn K mainGlobals "_law_cells_of" = some (some (.ref f14)))
  (l14 : K.lookup f14 = some ⟨oc14, od14, .func (PySem.W.fnOf "_law_cells_of" "_law_cells_of" (defArgs s_law_cells_of) (defBody s_law_cells_of) (defScope s_law_cells_of) .none kV14 dc14 pm14 an14 cd14 ct14), sl14⟩) (c14 : PySem.W.codeIn K cd14 "_law_cells_of" = true) (k14 : PySem.W.keepIn K (.ref f14) = true)
  (a15 : PySem.W.nsIn K mainGlobals "_law_ties_of" = some (some (.ref f15)))
  (l15 : K.lookup f15 = some ⟨oc15, od15, .func (PySem.W.fnOf "_law_ties_of" "_law_ties_of" (defArgs s_law_ties_of) (defBody s_law_ties_of) (defScope s_law_ties_of) .none kV15 dc15 pm15 an15 cd15 ct15), sl15⟩) (c15 : PySem.W.codeIn K cd15 "_law_ties_of" = true) (k15 : PySem.W.keepIn K (.ref f15) = true)
  (a16 : PySem.W.nsIn K mainGlobals "_law_asked" = some (some (.ref f16)))
  (l16 : K.lookup f16 = some ⟨oc16, od16, .func (PySem.W.fnOf "_law_asked" "_law_asked" (defArgs s_law_asked) (defBody s_law_asked) (defScope s_law_asked) .none kV16 dc16 pm16 an16 cd16 ct16), sl16⟩) (c16 : PySem.W.codeIn K cd16 "_law_asked" = true) (k16 : PySem.W.keepIn K (.ref f16) = true)
  (a17 : PySem.W.nsIn K mainGlobals "_law_tried" = some (some (.ref f17)))
  (l17 : K.lookup f17 = some ⟨oc17, od17, .func (PySem.W.fnOf "_law_tried" "_law_tried" (defArgs s_law_tried) (defBody s_law_tried) (defScope s_law_tried) .none kV17 dc17 pm17 an17 cd17 ct17), sl17⟩) (c17 : PySem.W.codeIn K cd17 "_law_tried" = true) (k17 : PySem.W.keepIn K (.ref f17) = true)
  (a18 : PySem.W.nsIn K mainGlobals "_law_right" = some (some (.ref f18)))
  (l18 : K.lookup f18 = some ⟨oc18, od18, .func (PySem.W.fnOf "_law_right" "_law_right" (defArgs s_law_right) (defBody s_law_right) (defScope s_law_right) .none kV18 dc18 pm18 an18 cd18 ct18), sl18⟩) (c18 : PySem.W.codeIn K cd18 "_law_right" = true) (k18 : PySem.W.keepIn K (.ref f18) = true)
  (a19 : PySem.W.nsIn K mainGlobals "_law_changed" = some (some (.ref f19)))
  (l19 : K.lookup f19 = some ⟨oc19, od19, .func (PySem.W.fnOf "_law_changed" "_law_changed" (defArgs s_law_changed) (defBody s_law_changed) (defScope s_law_changed) .none kV19 dc19 pm19 an19 cd19 ct19), sl19⟩) (c19 : PySem.W.codeIn K cd19 "_law_changed" = true) (k19 : PySem.W.keepIn K (.ref f19) = true)
  (a20 : PySem.W.nsIn K mainGlobals "law" = some (some (.ref f20)))
  (l20 : K.lookup f20 = some ⟨oc20, od20, .func (PySem.W.fnOf "law" "law" (defArgs s_law) (defBody s_law) (defScope s_law) .none kV20 dc20 pm20 an20 cd20 ct20), sl20⟩) (c20 : PySem.W.codeIn K cd20 "law" = true) (k20 : PySem.W.keepIn K (.ref f20) = true)
  (z_ValueError : PySem.W.nsIn K mainGlobals "ValueError" = some none)
  (z_all : PySem.W.nsIn K mainGlobals "all" = some none)
  (z_int : PySem.W.nsIn K mainGlobals "int" = some none)
  (z_isinstance : PySem.W.nsIn K mainGlobals "isinstance" = some none)
  (z_len : PySem.W.nsIn K mainGlobals "len" = some none)
  (z_min : PySem.W.nsIn K mainGlobals "min" = some none)
  (z_range : PySem.W.nsIn K mainGlobals "range" = some none)
  (z_str : PySem.W.nsIn K mainGlobals "str" = some none)
  (q_FIGURES : PySem.W.nsIn K mainGlobals "FIGURES" = some (some (.str "0123456789" tk_FIGURES)))
  (q_MOST_FIGURES : PySem.W.nsIn K mainGlobals "MOST_FIGURES" = some (some (.int 40 tk_MOST_FIGURES)))
  (q_NOTHING : PySem.W.nsIn K mainGlobals "NOTHING" = some (some (.str "none" tk_NOTHING)))
  {X_NoText : Addr} (x_NoText : PySem.W.nsIn K mainGlobals "NoText" = some (some (.ref X_NoText)))
  {X_SootError : Addr} (x_SootError : PySem.W.nsIn K mainGlobals "SootError" = some (some (.ref X_SootError)))
  {X_NoCell : Addr} (x_NoCell : PySem.W.nsIn K mainGlobals "NoCell" = some (some (.ref X_NoCell)))
  {X_NoWord : Addr} (x_NoWord : PySem.W.nsIn K mainGlobals "NoWord" = some (some (.ref X_NoWord)))
  {X_NoPairing : Addr} (x_NoPairing : PySem.W.nsIn K mainGlobals "NoPairing" = some (some (.ref X_NoPairing)))
  {X_NoRow : Addr} (x_NoRow : PySem.W.nsIn K mainGlobals "NoRow" = some (some (.ref X_NoRow)))
  {od_NoText oz_NoText : Option Addr} {cd_NoText : ClassData} {sl_NoText sz_NoText : Array (Option Value)} {N_NoText : Addr} {cz_NoText : Value} {es_NoText : Array DictEntry} {ep_NoText : Nat}
  {od_SootError oz_SootError : Option Addr} {cd_SootError : ClassData} {sl_SootError sz_SootError : Array (Option Value)} {N_SootError : Addr} {cz_SootError : Value} {es_SootError : Array DictEntry} {ep_SootError : Nat}
  {kz0 kz1 kz2 kz3 kz5 : Option Value}
  (lx_NoText : K.lookup X_NoText = some ⟨.type "type", od_NoText, .cls cd_NoText, sl_NoText⟩)
  (en_NoText : cd_NoText.ns = N_NoText)
  (ln_NoText : K.lookup N_NoText = some ⟨cz_NoText, oz_NoText, .dict es_NoText ep_NoText, sz_NoText⟩)
  (es_ok_NoText : (es_NoText.toList.all fun e => match e.key with | .str _ _ => true | _ => false) = true)
  (q0_NoText : PySem.W.nsIn K N_NoText "__init__" = some none)
  (q1_NoText : PySem.W.nsIn K N_NoText "__getattribute__" = some none)
  (q2_NoText : PySem.W.nsIn K N_NoText "__getattr__" = some none)
  (q3_NoText : PySem.W.nsIn K N_NoText "args" = some none)
  (lx_SootError : K.lookup X_SootError = some ⟨.type "type", od_SootError, .cls cd_SootError, sl_SootError⟩)
  (en_SootError : cd_SootError.ns = N_SootError)
  (ln_SootError : K.lookup N_SootError = some ⟨cz_SootError, oz_SootError, .dict es_SootError ep_SootError, sz_SootError⟩)
  (es_ok_SootError : (es_SootError.toList.all fun e => match e.key with | .str _ _ => true | _ => false) = true)
  (q0_SootError : PySem.W.nsIn K N_SootError "__init__" = some none)
  (q1_SootError : PySem.W.nsIn K N_SootError "__getattribute__" = some none)
  (q2_SootError : PySem.W.nsIn K N_SootError "__getattr__" = some none)
  (q3_SootError : PySem.W.nsIn K N_SootError "args" = some none)
  (xmro : cd_NoText.mro = .ref X_NoText :: .ref X_SootError :: bmV)
  (xsl : sl_NoText.toList = [kz0, kz1, kz2, kz3, some (.builtin "ValueError.__new__"), kz5])
  (xdel : cd_NoText.hasDel = false)
  (xga : PySem.W.findIn K (.ref X_NoText) "__getattribute__" = some (some (.builtin "BaseException.__getattribute__")))
  (xhk : PySem.W.findIn K (.ref X_NoText) "__getattr__" = some none)
  (xc1 : PySem.W.findIn K (.ref X_NoText) "__class__" = some (some (.builtin "object.__class__")))
  (xc2 : PySem.W.specialIn K (.builtin "object.__class__") "__get__" = some (some (.builtin "getset_descriptor.__get__")))
  (xc3 : PySem.W.takesIn K (.builtin "object.__class__") = some true)
  (xsb : PySem.W.subIn K (.ref X_NoText) (.type "BaseException") = some true)
  (xso : PySem.W.subIn K (.ref X_NoText) (.type "object") = some true)
  (xhd : PySem.W.hasDictIn K X_NoText = true)
  (xve : PySem.W.subIn K (.ref X_NoText) (.type "ValueError") = some true)
  (yn_SootError : (Value.ref X_NoText == Value.ref X_SootError) = false)
  (yd_SootError : PySem.W.hasDictIn K X_SootError = true)
  (yt_SootError : PySem.W.typeIn K (.ref X_SootError) = some (.type "type"))
  (ys_SootError : PySem.W.subIn K (.ref X_NoText) (.ref X_SootError) = some true)
  (yn_NoCell : (Value.ref X_NoText == Value.ref X_NoCell) = false)
  (yd_NoCell : PySem.W.hasDictIn K X_NoCell = true)
  (yt_NoCell : PySem.W.typeIn K (.ref X_NoCell) = some (.type "type"))
  (ys_NoCell : PySem.W.subIn K (.ref X_NoText) (.ref X_NoCell) = some false)
  (yn_NoWord : (Value.ref X_NoText == Value.ref X_NoWord) = false)
  (yd_NoWord : PySem.W.hasDictIn K X_NoWord = true)
  (yt_NoWord : PySem.W.typeIn K (.ref X_NoWord) = some (.type "type"))
  (ys_NoWord : PySem.W.subIn K (.ref X_NoText) (.ref X_NoWord) = some false)
  (yn_NoPairing : (Value.ref X_NoText == Value.ref X_NoPairing) = false)
  (yd_NoPairing : PySem.W.hasDictIn K X_NoPairing = true)
  (yt_NoPairing : PySem.W.typeIn K (.ref X_NoPairing) = some (.type "type"))
  (ys_NoPairing : PySem.W.subIn K (.ref X_NoText) (.ref X_NoPairing) = some false)
  (yn_NoRow : (Value.ref X_NoText == Value.ref X_NoRow) = false)
  (yd_NoRow : PySem.W.hasDictIn K X_NoRow = true)
  (yt_NoRow : PySem.W.typeIn K (.ref X_NoRow) = some (.type "type"))
  (ys_NoRow : PySem.W.subIn K (.ref X_NoText) (.ref X_NoRow) = some false)
  : ∃ fd : FuncData, (∀ (s : Shared) (v : Value), BindsTo s fd ⟨[v], []⟩ [("_law_script", v)]) /\ ∀ base : Heap, K.In base -> base.Ns mainGlobals mg -> FnOk l.prog w K mg base CX0 7 fa fd ["_law_script"] (spLaw K) := by
 have e := hfa.symm.trans (PySem.W.mg_of X G a20)
 cases e
 have bl : Blt mg := ⟨PySem.W.mg_none_of X G z_ValueError, PySem.W.mg_none_of X G z_all, PySem.W.mg_none_of X G z_int, PySem.W.mg_none_of X G z_isinstance, PySem.W.mg_none_of X G z_len, PySem.W.mg_none_of X G z_min, PySem.W.mg_none_of X G z_range, PySem.W.mg_none_of X G z_str⟩
 have cs : Cst mg := ⟨⟨_, PySem.W.mg_of X G q_FIGURES⟩, ⟨_, PySem.W.mg_of X G q_MOST_FIGURES⟩, ⟨_, PySem.W.mg_of X G q_NOTHING⟩⟩
 have qq_NoText : quietIn K cd_NoText.ns = true := by rw [en_NoText]; exact quietIn_of (nsOk_of ln_NoText es_ok_NoText) q0_NoText q1_NoText q2_NoText q3_NoText
 have qq_SootError : quietIn K cd_SootError.ns = true := by rw [en_SootError]; exact quietIn_of (nsOk_of ln_SootError es_ok_SootError) q0_SootError q1_SootError q2_SootError q3_SootError
 have xc : Xc K mg X_NoText := ⟨PySem.W.mg_of X G x_NoText, fun h KX => ownQ_parts lx_NoText xmro xsl xdel qq_NoText lx_SootError qq_SootError (PySem.W.mg_of X G x_NoText) KX, ⟨xga, xhk, xc1, xc2, xc3, xsb, xso⟩, xhd⟩
 have xi : Xi K mg X_NoText := ⟨X_SootError, PySem.W.mg_of X G x_SootError, kit_parts yn_SootError yd_SootError yt_SootError ys_SootError, X_NoCell, PySem.W.mg_of X G x_NoCell, kit_parts yn_NoCell yd_NoCell yt_NoCell ys_NoCell, X_NoWord, PySem.W.mg_of X G x_NoWord, kit_parts yn_NoWord yd_NoWord yt_NoWord ys_NoWord, X_NoPairing, PySem.W.mg_of X G x_NoPairing, kit_parts yn_NoPairing yd_NoPairing yt_NoPairing ys_NoPairing, X_NoRow, PySem.W.mg_of X G x_NoRow, kit_parts yn_NoRow yd_NoRow yt_NoRow ys_NoRow, kit_partsT (by decide) xve⟩
 have T0 := fun_mk (st := s_show_list) l0 c0 k0
 have b0 := T0.binds (ps := ["words"]) fun _ _ _ _ _ _ us hl => match us, hl with | [_], _ => rfl
 have T1 := fun_mk (st := s_show_pair) l1 c1 k1
 have b1 := T1.binds (ps := ["pair", "between"]) fun _ _ _ _ _ _ us hl => match us, hl with | [_, _], _ => rfl
 have T2 := fun_mk (st := s_show_cells) l2 c2 k2
 have b2 := T2.binds (ps := ["cells"]) fun _ _ _ _ _ _ us hl => match us, hl with | [_], _ => rfl
 have T3 := fun_mk (st := s_show_ties) l3 c3 k3
 have b3 := T3.binds (ps := ["ties"]) fun _ _ _ _ _ _ us hl => match us, hl with | [_], _ => rfl
 have T4 := fun_mk (st := s_read_figures) l4 c4 k4
 have b4 := T4.binds (ps := ["text"]) fun _ _ _ _ _ _ us hl => match us, hl with | [_], _ => rfl
 have T5 := fun_mk (st := s_read_number) l5 c5 k5
 have b5 := T5.binds (ps := ["text"]) fun _ _ _ _ _ _ us hl => match us, hl with | [_], _ => rfl
 have T6 := fun_mk (st := s_read_halves) l6 c6 k6
 have b6 := T6.binds (ps := ["word", "between"]) fun _ _ _ _ _ _ us hl => match us, hl with | [_, _], _ => rfl
 have T7 := fun_mk (st := s_read_cell) l7 c7 k7
 have b7 := T7.binds (ps := ["word"]) fun _ _ _ _ _ _ us hl => match us, hl with | [_], _ => rfl
 have T8 := fun_mk (st := s_read_tie) l8 c8 k8
 have b8 := T8.binds (ps := ["word"]) fun _ _ _ _ _ _ us hl => match us, hl with | [_], _ => rfl
 have T9 := fun_mk (st := s_read_cells) l9 c9 k9
 have b9 := T9.binds (ps := ["text"]) fun _ _ _ _ _ _ us hl => match us, hl with | [_], _ => rfl
 have T10 := fun_mk (st := s_read_ties) l10 c10 k10
 have b10 := T10.binds (ps := ["text"]) fun _ _ _ _ _ _ us hl => match us, hl with | [_], _ => rfl
 have T11 := fun_mk (st := s_law_take) l11 c11 k11
 have b11 := T11.binds (ps := ["_law_draw", "_law_many"]) fun _ _ _ _ _ _ us hl => match us, hl with | [_, _], _ => rfl
 have T12 := fun_mk (st := s_law_purse) l12 c12 k12
 have b12 := T12.binds (ps := ["_law_script", "_law_k", "_law_plain"]) fun _ _ _ _ _ _ us hl => match us, hl with | [_, _, _], _ => rfl
 have T13 := fun_mk (st := s_law_whole) l13 c13 k13
 have b13 := T13.binds (ps := ["_law_text"]) fun _ _ _ _ _ _ us hl => match us, hl with | [_], _ => rfl
 have T14 := fun_mk (st := s_law_cells_of) l14 c14 k14
 have b14 := T14.binds (ps := ["_law_text"]) fun _ _ _ _ _ _ us hl => match us, hl with | [_], _ => rfl
 have T15 := fun_mk (st := s_law_ties_of) l15 c15 k15
 have b15 := T15.binds (ps := ["_law_text"]) fun _ _ _ _ _ _ us hl => match us, hl with | [_], _ => rfl
 have T16 := fun_mk (st := s_law_asked) l16 c16 k16
 have b16 := T16.binds (ps := ["_law_text", "_law_way"]) fun _ _ _ _ _ _ us hl => match us, hl with | [_, _], _ => rfl
 have T17 := fun_mk (st := s_law_tried) l17 c17 k17
 have b17 := T17.binds (ps := ["_law_text", "_law_way"]) fun _ _ _ _ _ _ us hl => match us, hl with | [_, _], _ => rfl
 have T18 := fun_mk (st := s_law_right) l18 c18 k18
 have b18 := T18.binds (ps := ["_law_draw", "_law_way"]) fun _ _ _ _ _ _ us hl => match us, hl with | [_, _], _ => rfl
 have T19 := fun_mk (st := s_law_changed) l19 c19 k19
 have b19 := T19.binds (ps := ["_law_draw", "_law_text"]) fun _ _ _ _ _ _ us hl => match us, hl with | [_, _], _ => rfl
 have T20 := fun_mk (st := s_law) l20 c20 k20
 have b20 := T20.binds (ps := ["_law_script"]) fun _ _ _ _ _ _ us hl => match us, hl with | [_], _ => rfl
 refine ⟨PySem.W.fnOf "law" "law" (defArgs s_law) (defBody s_law) (defScope s_law) .none kV20 dc20 pm20 an20 cd20 ct20, fun s v => .of_eq rfl, fun base _ _ => ?_⟩
 have F_show_list : Fn l.prog w K mg base 1 "show_list" ["words"] (sp_show_list K) := ⟨_, _, ok_show_list T0 bl cs , b0, k0, PySem.W.mg_of X G a0⟩
 have F_show_pair : Fn l.prog w K mg base 1 "show_pair" ["pair", "between"] (sp_show_pair K) := ⟨_, _, ok_show_pair T1 bl cs , b1, k1, PySem.W.mg_of X G a1⟩
 have F_show_cells : Fn l.prog w K mg base 2 "show_cells" ["cells"] (sp_show_cells K) := ⟨_, _, ok_show_cells T2 bl cs F_show_list F_show_pair, b2, k2, PySem.W.mg_of X G a2⟩
 have F_show_ties : Fn l.prog w K mg base 2 "show_ties" ["ties"] (sp_show_ties K) := ⟨_, _, ok_show_ties T3 bl cs F_show_list F_show_pair, b3, k3, PySem.W.mg_of X G a3⟩
 have F_read_figures : FnX l.prog w K mg base X_NoText 1 "read_figures" ["text"] (sp_read_figures K) := ⟨_, _, ok_read_figures T4 bl cs xc , b4, k4, PySem.W.mg_of X G a4⟩
 have F_read_number : FnX l.prog w K mg base X_NoText 2 "read_number" ["text"] (sp_read_number K) := ⟨_, _, ok_read_number T5 bl cs xc F_read_figures, b5, k5, PySem.W.mg_of X G a5⟩
 have F_read_halves : FnX l.prog w K mg base X_NoText 1 "read_halves" ["word", "between"] (sp_read_halves K) := ⟨_, _, ok_read_halves T6 bl cs xc , b6, k6, PySem.W.mg_of X G a6⟩
 have F_read_cell : FnX l.prog w K mg base X_NoText 3 "read_cell" ["word"] (sp_read_cell K) := ⟨_, _, ok_read_cell T7 bl cs xc F_read_halves F_read_number, b7, k7, PySem.W.mg_of X G a7⟩
 have F_read_tie : FnX l.prog w K mg base X_NoText 2 "read_tie" ["word"] (sp_read_tie K) := ⟨_, _, ok_read_tie T8 bl cs xc F_read_halves F_read_figures, b8, k8, PySem.W.mg_of X G a8⟩
 have F_read_cells : FnX l.prog w K mg base X_NoText 4 "read_cells" ["text"] (sp_read_cells K) := ⟨_, _, ok_read_cells T9 bl cs xc F_read_cell, b9, k9, PySem.W.mg_of X G a9⟩
 have F_read_ties : FnX l.prog w K mg base X_NoText 3 "read_ties" ["text"] (sp_read_ties K) := ⟨_, _, ok_read_ties T10 bl cs xc F_read_tie, b10, k10, PySem.W.mg_of X G a10⟩
 have F_law_take : Fn l.prog w K mg base 1 "_law_take" ["_law_draw", "_law_many"] (sp_law_take K) := ⟨_, _, ok_law_take T11 bl cs , b11, k11, PySem.W.mg_of X G a11⟩
 have F_law_purse : Fn l.prog w K mg base 1 "_law_purse" ["_law_script", "_law_k", "_law_plain"] (sp_law_purse K) := ⟨_, _, ok_law_purse T12 bl cs , b12, k12, PySem.W.mg_of X G a12⟩
 have F_law_whole : Fn l.prog w K mg base 1 "_law_whole" ["_law_text"] (sp_law_whole K) := ⟨_, _, ok_law_whole T13 bl cs , b13, k13, PySem.W.mg_of X G a13⟩
 have F_law_cells_of : Fn l.prog w K mg base 2 "_law_cells_of" ["_law_text"] (sp_law_cells_of K) := ⟨_, _, ok_law_cells_of T14 bl cs F_law_whole, b14, k14, PySem.W.mg_of X G a14⟩
 have F_law_ties_of : Fn l.prog w K mg base 2 "_law_ties_of" ["_law_text"] (sp_law_ties_of K) := ⟨_, _, ok_law_ties_of T15 bl cs F_law_whole, b15, k15, PySem.W.mg_of X G a15⟩
 have F_law_asked : FnX l.prog w K mg base X_NoText 5 "_law_asked" ["_law_text", "_law_way"] (sp_law_asked K) := ⟨_, _, ok_law_asked T16 bl cs xc F_show_cells F_read_cells F_show_ties F_read_ties, b16, k16, PySem.W.mg_of X G a16⟩
 have F_law_tried : Fn l.prog w K mg base 6 "_law_tried" ["_law_text", "_law_way"] (sp_law_tried K) := ⟨_, _, ok_law_tried T17 bl cs xc xi F_law_asked, b17, k17, PySem.W.mg_of X G a17⟩
 have F_law_right : Fn l.prog w K mg base 2 "_law_right" ["_law_draw", "_law_way"] (sp_law_right K) := ⟨_, _, ok_law_right T18 bl cs F_law_take, b18, k18, PySem.W.mg_of X G a18⟩
 have F_law_changed : Fn l.prog w K mg base 2 "_law_changed" ["_law_draw", "_law_text"] (sp_law_changed K) := ⟨_, _, ok_law_changed T19 bl cs F_law_take, b19, k19, PySem.W.mg_of X G a19⟩
 exact ok_law T20 bl cs F_law_purse F_law_take F_law_right F_law_changed F_law_cells_of F_law_ties_of F_law_tried
theorem walk {l : PySem.W.OpenLaw} {q : Program} {loose : List Str} {XP : (Str -> Option Value) -> Heap -> Prop} {YP : World -> Heap -> Prop} {d : DefRec} {K : Params -> PySem.W.Frag} (hn : l.most = some 63) (hdf : d.params.defaults = [])
  (hY : ∀ (w : World) (h : Heap), YP w h -> (K w.params).In h)
  (F : ∀ (w : World) (mg : Str -> Option Value) (fa : Addr) (h : Heap), (K w.params).In h -> h.Ns mainGlobals mg -> mg d.name = some (.ref fa) ->
   ∃ fd : FuncData, (∀ (s : Shared) (u : Value), BindsTo s fd ⟨[u], []⟩ [("_law_script", u)]) /\ ∀ base : Heap, (K w.params).In base -> base.Ns mainGlobals mg -> FnOk l.prog w (K w.params) mg base CX0 7 fa fd ["_law_script"] (spLaw (K w.params))) :
  PySem.W.WalkO q loose XP YP l.row.toRowW d [] (fun f vs => PySem.call f vs) :=
 L2.walk_of (n := 63) (k := 7) (x := "_law_script") (CX := fun _ => CX0) (sp := fun w => spLaw (K w.params)) hn (by decide) hdf ⟨rfl, by decide, by decide⟩ hY F (fun _ _ a ns hl _ hS => ⟨a, ns, rfl, hS, hl, fun _ => rfl⟩) fun _ _ _ _ _ z => z
end My
open PySem PySem.W PyProof.Rows
set_option maxRecDepth 100000 in
set_option maxHeartbeats 0 in
theorem PySem.Challenge.cw_sootring_k36_texts_refused_holds : PySem.Challenge.rw_sootring_k36_texts_refused.Holds := by
 w_on; o_law; k_head; (case hw => w_witness2)
 k_fill
 refine My.walk (l := PySem.Challenge.rw_sootring_k36_texts_refused) rfl rfl (fun w h Y => PySem.W.kIn_of Y) ?F
 case F =>
  intro w mg fa h KX G hmg
  refine' My.all_mk KX G hmg ?a0 ?l0 ?c0 ?k0 ?a1 ?l1 ?c1 ?k1 ?a2 ?l2 ?c2 ?k2 ?a3 ?l3 ?c3 ?k3 ?a4 ?l4 ?c4 ?k4 ?a5 ?l5 ?c5 ?k5 ?a6 ?l6 ?c6 ?k6 ?a7 ?l7 ?c7 ?k7 ?a8 ?l8 ?c8 ?k8 ?a9 ?l9 ?c9 ?k9 ?a10 ?l10 ?c10 ?k10 ?a11 ?l11 ?c11 ?k11 ?a12 ?l12 ?c12 ?k12 ?a13 ?l13 ?c13 ?k13 ?a14 ?l14 ?c14 ?k14 ?a15 ?l15 ?c15 ?k15 ?a16 ?l16 ?c16 ?k16 ?a17 ?l17 ?c17 ?k17 ?a18 ?l18 ?c18 ?k18 ?a19 ?l19 ?c19 ?k19 ?a20 ?l20 ?c20 ?k20 ?z_ValueError ?z_all ?z_int ?z_isinstance ?z_len ?z_min ?z_range ?z_str ?q_FIGURES ?q_MOST_FIGURES ?q_NOTHING ?x_NoText ?x_SootError ?x_NoCell ?x_NoWord ?x_NoPairing ?x_NoRow ?lx_NoText ?en_NoText ?ln_NoText ?es_ok_NoText ?q0_NoText ?q1_NoText ?q2_NoText ?q3_NoText ?lx_SootError ?en_SootError ?ln_SootError ?es_ok_SootError ?q0_SootError ?q1_SootError ?q2_SootError ?q3_SootError ?xmro ?xsl ?xdel ?xga ?xhk ?xc1 ?xc2 ?xc3 ?xsb ?xso ?xhd ?xve ?yn_SootError ?yd_SootError ?yt_SootError ?ys_SootError ?yn_NoCell ?yd_NoCell ?yt_NoCell ?ys_NoCell ?yn_NoWord ?yd_NoWord ?yt_NoWord ?ys_NoWord ?yn_NoPairing ?yd_NoPairing ?yt_NoPairing ?ys_NoPairing ?yn_NoRow ?yd_NoRow ?yt_NoRow ?ys_NoRow
  (case a0 => k_is)
  (case l0 => k_is)
  (case c0 => k_is)
  (case k0 => k_is)
  (case a1 => k_is)
  (case l1 => k_is)
  (case c1 => k_is)
  (case k1 => k_is)
  (case a2 => k_is)
  (case l2 => k_is)
  (case c2 => k_is)
  (case k2 => k_is)
  (case a3 => k_is)
  (case l3 => k_is)
  (case c3 => k_is)
  (case k3 => k_is)
  (case a4 => k_is)
  (case l4 => k_is)
  (case c4 => k_is)
  (case k4 => k_is)
  (case a5 => k_is)
  (case l5 => k_is)
  (case c5 => k_is)
  (case k5 => k_is)
  (case a6 => k_is)
  (case l6 => k_is)
  (case c6 => k_is)
  (case k6 => k_is)
  (case a7 => k_is)
  (case l7 => k_is)
  (case c7 => k_is)
  (case k7 => k_is)
  (case a8 => k_is)
  (case l8 => k_is)
  (case c8 => k_is)
  (case k8 => k_is)
  (case a9 => k_is)
  (case l9 => k_is)
  (case c9 => k_is)
  (case k9 => k_is)
  (case a10 => k_is)
  (case l10 => k_is)
  (case c10 => k_is)
  (case k10 => k_is)
  (case a11 => k_is)
  (case l11 => k_is)
  (case c11 => k_is)
  (case k11 => k_is)
  (case a12 => k_is)
  (case l12 => k_is)
  (case c12 => k_is)
  (case k12 => k_is)
  (case a13 => k_is)
  (case l13 => k_is)
  (case c13 => k_is)
  (case k13 => k_is)
  (case a14 => k_is)
  (case l14 => k_is)
  (case c14 => k_is)
  (case k14 => k_is)
  (case a15 => k_is)
  (case l15 => k_is)
  (case c15 => k_is)
  (case k15 => k_is)
  (case a16 => k_is)
  (case l16 => k_is)
  (case c16 => k_is)
  (case k16 => k_is)
  (case a17 => k_is)
  (case l17 => k_is)
  (case c17 => k_is)
  (case k17 => k_is)
  (case a18 => k_is)
  (case l18 => k_is)
  (case c18 => k_is)
  (case k18 => k_is)
  (case a19 => k_is)
  (case l19 => k_is)
  (case c19 => k_is)
  (case k19 => k_is)
  (case a20 => k_is)
  (case l20 => k_is)
  (case c20 => k_is)
  (case k20 => k_is)
  (case z_ValueError => k_is)
  (case z_all => k_is)
  (case z_int => k_is)
  (case z_isinstance => k_is)
  (case z_len => k_is)
  (case z_min => k_is)
  (case z_range => k_is)
  (case z_str => k_is)
  (case q_FIGURES => k_is)
  (case q_MOST_FIGURES => k_is)
  (case q_NOTHING => k_is)
  (case x_NoText => k_is)
  (case x_SootError => k_is)
  (case x_NoCell => k_is)
  (case x_NoWord => k_is)
  (case x_NoPairing => k_is)
  (case x_NoRow => k_is)
  (case lx_NoText => k_is)
  (case en_NoText => rfl)
  (case ln_NoText => k_is)
  (case es_ok_NoText => rfl)
  (case q0_NoText => k_is)
  (case q1_NoText => k_is)
  (case q2_NoText => k_is)
  (case q3_NoText => k_is)
  (case lx_SootError => k_is)
  (case en_SootError => rfl)
  (case ln_SootError => k_is)
  (case es_ok_SootError => rfl)
  (case q0_SootError => k_is)
  (case q1_SootError => k_is)
  (case q2_SootError => k_is)
  (case q3_SootError => k_is)
  (case xmro => rfl)
  (case xsl => rfl)
  (case xdel => rfl)
  (case xga => k_is)
  (case xhk => k_is)
  (case xc1 => k_is)
  (case xc2 => k_is)
  (case xc3 => k_is)
  (case xsb => k_is)
  (case xso => k_is)
  (case xhd => k_is)
  (case xve => k_is)
  (case yn_SootError => rfl)
  (case yd_SootError => k_is)
  (case yt_SootError => k_is)
  (case ys_SootError => k_is)
  (case yn_NoCell => rfl)
  (case yd_NoCell => k_is)
  (case yt_NoCell => k_is)
  (case ys_NoCell => k_is)
  (case yn_NoWord => rfl)
  (case yd_NoWord => k_is)
  (case yt_NoWord => k_is)
  (case ys_NoWord => k_is)
  (case yn_NoPairing => rfl)
  (case yd_NoPairing => k_is)
  (case yt_NoPairing => k_is)
  (case ys_NoPairing => k_is)
  (case yn_NoRow => rfl)
  (case yd_NoRow => k_is)
  (case yt_NoRow => k_is)
  (case ys_NoRow => k_is)
