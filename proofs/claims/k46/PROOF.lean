import PyProof.Rows.All
import Wide.All
import OpenK.AllK
import Wide.FinOn
import Lean
import PyProof.EqAt
import PyProof.EqKinds
import PyProof.TupleCall
import PyProof.NeData
import PySem.Challenge.RW_caseways_k46_texts_that_are_no_choices
local macro_rules | `(tactic| omega) => `(tactic| first | with_reducible assumption | lia | omega +splitDisjunctions)
set_option Elab.async false
set_option linter.all false
set_option maxRecDepth 100000
namespace L2
open PySem PySem.Spec PyProof.Rows
abbrev Key := Sum Int Str
def zF : Key -> Value -> Bool
 | .inl k, v => Value.isInt k v
 | .inr x, v => Value.isStrOf x v
def aaF (w : World) : Key -> Int
 | .inl k => hashInt k
 | .inr x => hashStr w x
theorem dW : ∀ {k : Key} {v : Value}, zF k v = true -> (∃ i t, k = Sum.inl i /\ v = Value.int i t) \/ (∃ x t, k = Sum.inr x /\ v = Value.str x t)
 | .inl i, v, h => by
  obtain ⟨t, e⟩ := Value.isInt_shape (k := i) (v := v) h
  exact .inl ⟨i, t, rfl, e⟩
 | .inr x, v, h => by
  obtain ⟨t, e⟩ := Value.isStrOf_shape (x := x) (v := v) h
  exact .inr ⟨x, t, rfl, e⟩
theorem Kq (i : Int) (t : Tok) : zF (.inl i) (.int i t) = true := by simp [zF, Value.isInt]
theorem Kp (x : Str) (t : Tok) : zF (.inr x) (.str x t) = true := by simp [zF, Value.isStrOf]
theorem YS (a b : Int) : decide ((Sum.inl a : Key) = Sum.inl b) = (a == b) := by
 by_cases e : a = b
 ·subst e; simp
 ·have h : ¬ (Sum.inl a : Key) = Sum.inl b := fun q => e (Sum.inl.inj q)
  rw [decide_eq_false h]
  exact (beq_eq_false_iff_ne.mpr e).symm
theorem YL (a b : Str) : decide ((Sum.inr a : Key) = Sum.inr b) = decide (a = b) := by
 by_cases e : a = b
 ·subst e; simp
 ·have h : ¬ (Sum.inr a : Key) = Sum.inr b := fun q => e (Sum.inr.inj q)
  rw [decide_eq_false h, decide_eq_false e]
theorem YQ (a : Int) (b : Str) : decide ((Sum.inl a : Key) = Sum.inr b) = false := decide_eq_false (fun q => nomatch q)
theorem YM (a : Str) (b : Int) : decide ((Sum.inr a : Key) = Sum.inl b) = false := decide_eq_false (fun q => nomatch q)
def eV (prog : Program) (w : World) : PySem.KeyKind prog w Key where
 is := zF
 hash := aaF w
 inj := fun v a b ha hb => by
  rcases dW ha with ⟨i, t, rfl, rfl⟩ | ⟨x, t, rfl, rfl⟩
  ·rcases dW hb with ⟨j, u, rfl, e⟩ | ⟨y, u, rfl, e⟩
   ·injection e with e1 _; rw [e1]
   ·exact nomatch e
  ·rcases dW hb with ⟨j, u, rfl, e⟩ | ⟨y, u, rfl, e⟩
   ·exact nomatch e
   ·injection e with e1 _; rw [e1]
 byValue := fun k v h => by
  rcases dW h with ⟨i, t, rfl, rfl⟩ | ⟨x, t, rfl, rfl⟩ <;> rfl
 pyHash := fun hv h => by
  rcases dW hv with ⟨i, t, rfl, rfl⟩ | ⟨x, t, rfl, rfl⟩
  ·exact wpAny_pyHash_int h
  ·exact wpAny_pyHash_str h
 eqBool := fun hu hv h => by
  rcases dW hu with ⟨i, t, rfl, rfl⟩ | ⟨x, t, rfl, rfl⟩
  ·rcases dW hv with ⟨j, u, rfl, rfl⟩ | ⟨y, u, rfl, rfl⟩
   ·rw [YS] at h; exact wpAny_eqBool_int h
   ·rw [YQ] at h; exact SeqAt.EqAt.int_str i t y u _ _ _ _ h
  ·rcases dW hv with ⟨j, u, rfl, rfl⟩ | ⟨y, u, rfl, rfl⟩
   ·rw [YM] at h; exact SeqAt.EqAt.str_int x t j u _ _ _ _ h
   ·rw [YL] at h; exact wpAny_eqBool_str h
 «strs» := fun k x t v h => by
  rcases dW h with ⟨i, u, rfl, e⟩ | ⟨y, u, rfl, e⟩
  ·exact nomatch e
  ·injection e with e1 _
   subst e1
   cases v <;> rfl
theorem Du (prog : Program) (w : World) (i : Int) (t : Tok) : (eV prog w).is (.inl i) (.int i t) = true := Kq i t
theorem Dt (prog : Program) (w : World) (x : Str) (t : Tok) : (eV prog w).is (.inr x) (.str x t) = true := Kp x t
inductive V where
 | non | bl (b : Bool) | int (i : Int) | str (x : Str) | byt (b : Array UInt8) | flt (b : UInt64) | ref (a : Addr) | ty (n : String)
 deriving DecidableEq
def RelV : V -> Value -> Prop
 | .non, u => u = Value.none
 | .bl b, u => u = Value.bool b
 | .int i, u => ∃ t, u = Value.int i t
 | .str x, u => ∃ t, u = Value.str x t
 | .byt b, u => ∃ t, u = Value.bytes b t
 | .flt b, u => ∃ t, u = Value.float b t
 | .ref a, u => u = Value.ref a
 | .ty n, u => u = Value.type n
abbrev Vals : List V -> List Value -> Prop := Paired RelV
theorem Vals.length {xs : List V} {us : List Value} (r : Vals xs us) : xs.length = us.length := Paired.length r
theorem Vals.get : ∀ {xs : List V} {us : List Value} {i : Nat} {x : V}, Vals xs us -> xs[i]? = some x -> ∃ u, us[i]? = some u /\ RelV x u
 | _, _, _, _, .nil, e => by simp at e
 | _, _, 0, _, .cons r _, e => by simp at e; subst e; exact ⟨_, rfl, r⟩
 | _, _, i + 1, x, .cons _ t, e => by
  obtain ⟨u, h1, h2⟩ := Vals.get (i := i) (x := x) t (by simpa using e)
  exact ⟨u, by simpa using h1, h2⟩
theorem Vals.set {x : V} {u : Value} (r : RelV x u) : ∀ {xs : List V} {us : List Value} (i : Nat), Vals xs us -> Vals (xs.set i x) (us.set i u)
 | _, _, _, .nil => .nil
 | _, _, 0, .cons _ t => .cons r t
 | _, _, i + 1, .cons q t => .cons q (Vals.set r i t)
theorem Vals.append : ∀ {xs ys : List V} {us ws : List Value}, Vals xs us -> Vals ys ws -> Vals (xs ++ ys) (us ++ ws)
 | _, _, _, _, .nil, s => s
 | _, _, _, _, .cons r t, s => .cons r (Vals.append t s)
theorem Vals.take : ∀ {xs : List V} {us : List Value} (n : Nat), Vals xs us -> Vals (xs.take n) (us.take n)
 | _, _, 0, _ => .nil
 | _, _, _ + 1, .nil => .nil
 | _, _, n + 1, .cons r t => .cons r (Vals.take n t)
theorem Vals.drop : ∀ {xs : List V} {us : List Value} (n : Nat), Vals xs us -> Vals (xs.drop n) (us.drop n)
 | _, _, 0, r => r
 | _, _, _ + 1, .nil => .nil
 | _, _, n + 1, .cons _ t => Vals.drop n t
theorem Vals.none_of : ∀ {xs : List V} {us : List Value} {i : Nat}, Vals xs us -> xs[i]? = none -> us[i]? = none := fun {xs us i} r e => by
 have h1 := r.length
 have h2 : xs.length <= i := List.getElem?_eq_none_iff.mp e
 exact List.getElem?_eq_none_iff.mpr (by omega)
def yL : Option V -> Option Value -> Prop
 | some v, some u => RelV v u
 | none, none => True
 | _, _ => False
def KV {κ : Type} : List (κ × V) -> List (κ × Value) -> Prop := Paired fun (p : κ × V) (q : κ × Value) => p.1 = q.1 /\ RelV p.2 q.2
def kV : Key -> V
 | .inl i => .int i
 | .inr x => .str x
inductive HO where
 /-- a list -/
 | lst (xs : List V)
 /-- a tuple (never changes) -/
 | tup (xs : List V)
 /-- a dict whose keys are ints and texts; one whose keys are tuples of ints and texts (the empty one is both) -/
 | dK (kvs : List (Key × V)) | dT (kvs : List (List Key × V))
 /-- a set of ints: its members, its size -/
 | set (S : Int -> Bool) (n : Nat)
 /-- an instance of the class at C, its dict at dx, its attributes -/
 | ins (C dx : Addr) (fs : List (Str × V))
 /-- the dict of the instance at x -/
 | own (x : Addr)
 /-- the dict of an exception -/
 | xd (fs : List (Str × V))
 /-- a bound method, f of x -/
 | met (f x : Addr)
 /-- a range object lo, lo + 1, .. below hi -/
 | rng (lo hi : Int)
 /-- a thing that is known to the object (the script; a dict while a loop walks it): read, never written while it is so -/
 | frz (o : Obj) (u : HO)
 /-- a code object's table -/
 | tbl (ps : Array Value)
 /-- any other thing, by what is true of its one object (a def of one's own: SetO a S n := HO.ext fun h => ..) -/
 | ext (φ : Heap -> Prop)
abbrev Hp := Addr -> Option HO
def upd (H : Hp) (a : Addr) (o : HO) : Hp := fun b => if b = a then some o else H b
theorem aB {H : Hp} {a : Addr} {o : HO} : upd H a o a = some o := by unfold upd; rw [if_pos rfl]
theorem aJ {H : Hp} {a b : Addr} {o : HO} (h : b ≠ a) : upd H a o b = H b := by unfold upd; rw [if_neg h]
theorem aQ {H : Hp} {a b : Addr} {o : HO} (h : H a = some o) (h' : H b = none) : a ≠ b := by
 intro e; subst e; rw [h] at h'; cases h'
section
variable (P : Program) (w : World)
def cQ (H : Hp) (h : Heap) (a : Addr) : HO -> Prop
 | .lst xs => xs.length <= sizeLine /\ ∃ (its : List Value) (n : Nat), Vals xs its /\ h.get? a = some { cls := .type "list", data := .seq its.toArray n }
 | .tup xs => xs.length <= sizeLine /\ ∃ its : List Value, Vals xs its /\ IsTup h a its.toArray
 | .dK kvs => kvs.length <= sizeLine /\ (a == sysModules) = false /\ ∃ vs, KV kvs vs /\ h.DictOf (eV P w) a vs
 | .dT kvs => kvs.length <= sizeLine /\ (a == sysModules) = false /\ ∃ xs : List (List Key × Addr × Value),
   Paired (fun (p : List Key × V) (q : List Key × Addr × Value) => p.1 = q.1 /\ H q.2.1 = some (.tup (p.1.map kV)) /\ RelV p.2 q.2.2) kvs xs /\
   ∃ o es ep, h.get? a = some o /\ o.ExactDict /\ o.data = .dict es ep /\ es.toList = xs.map (entryOfKey (tupleKind (eV P w))) /\ (xs.map (·.1)).Nodup
 | .set S n => h.SetOf (intKind P w) a S n
 | .ins C dx fs => H dx = some (.own a) /\ fs.length <= 1000 /\ dx ≠ a /\ h.get? a = some (PySem.W.instObj C dx) /\
   ∃ mA, h.Ns1 dx mA /\ (∀ f, yL (fs.lookup f) (mA f)) /\ PySem.Within mA (fs.map (·.1))
 | .own _ => ∃ o, h.get? a = some o
 | .xd fs => ∃ mA, h.Ns1 a mA /\ ∀ f, yL (fs.lookup f) (mA f)
 | .rng lo hi => ∃ t u v, h.get? a = some { cls := .type "range", data := .fields #[.int lo t, .int hi u, .int 1 v] }
 | .frz o u => h.get? a = some o /\ cQ H h a u
 | .tbl ps => h.get? a = some { cls := .none, data := .fields ps }
 | .met f x => h.get? a = some (PySem.W.methodObj (.ref f) (.ref x))
 | .ext φ => φ h /\ (∃ o, h.get? a = some o) /\ ∀ h1 h2 : Heap, φ h1 -> (∀ o, h1.get? a = some o -> h2.get? a = some o) -> φ h2
def HOk (H : Hp) (h : Heap) : Prop := ∀ a o, H a = some o -> cQ P w H h a o
end
section
variable {P : Program} {w : World} {H H' : Hp} {h h' : Heap} {a : Addr} {o : HO}
theorem cQ.lt (x : cQ P w H h a o) : a < h.objs.size := by
 cases o with
 | lst xs => obtain ⟨_, _, _, _, e⟩ := x; exact Heap.lt_size e
 | tup xs => obtain ⟨_, _, _, p⟩ := x; exact p.lt
 | dK kvs => obtain ⟨_, _, _, _, o, _, _, e, _⟩ := x; exact Heap.lt_size e
 | dT kvs => obtain ⟨_, _, _, _, o, _, _, e, _⟩ := x; exact Heap.lt_size e
 | set S n => obtain ⟨o, _, _, _, e, _⟩ := x; exact Heap.lt_size e
 | ins C dx fs => obtain ⟨_, _, _, e, _⟩ := x; exact Heap.lt_size e
 | own y => obtain ⟨_, e⟩ := x; exact Heap.lt_size e
 | xd fs => obtain ⟨_, ⟨_, _, _, e, _⟩, _⟩ := x; exact Heap.lt_size e
 | rng lo hi => obtain ⟨_, _, _, e⟩ := x; exact Heap.lt_size e
 | frz ob u => obtain ⟨e, _⟩ := x; exact Heap.lt_size e
 | tbl ps => exact Heap.lt_size (show h.get? a = some _ from x)
 | met f y => exact Heap.lt_size (show h.get? a = some _ from x)
 | ext φ => obtain ⟨_, ⟨_, e⟩, _⟩ := x; exact Heap.lt_size e
theorem Paired.aac {α β : Type} {F G : α -> β -> Prop} : ∀ {l₁ : List α} {l₂ : List β}, Paired F l₁ l₂ -> (∀ a b, F a b -> G a b) -> Paired G l₁ l₂
 | _, _, .nil, _ => .nil
 | _, _, .cons r t, f => .cons (f _ _ r) (Paired.aac t f)
theorem cQ.stay (x : cQ P w H h a o) (k : ∀ b u, (b = a \/ H b = some (.own a)) -> h.get? b = some u -> h'.get? b = some u)
  (ho : ∀ b, H b = some (.own a) -> H' b = some (.own a)) (ht : ∀ b xs, H b = some (.tup xs) -> H' b = some (.tup xs)) : cQ P w H' h' a o := by
 induction o with
 | lst xs => obtain ⟨z, its, n, r, e⟩ := x; exact ⟨z, its, n, r, k _ _ (.inl rfl) e⟩
 | tup xs => obtain ⟨z, its, r, ob, e, c⟩ := x; exact ⟨z, its, r, ob, k _ _ (.inl rfl) e, c⟩
 | dK kvs => obtain ⟨z, y, vs, r, ob, es, ep, e, c⟩ := x; exact ⟨z, y, vs, r, ob, es, ep, k _ _ (.inl rfl) e, c⟩
 | dT kvs =>
  obtain ⟨z, y, xs, r, ob, es, ep, e, c⟩ := x
  exact ⟨z, y, xs, Paired.aac r fun p q z => ⟨z.1, ht _ _ z.2.1, z.2.2⟩, ob, es, ep, k _ _ (.inl rfl) e, c⟩
 | set S n => obtain ⟨ob, es, ep, t, e, c⟩ := x; exact ⟨ob, es, ep, t, k _ _ (.inl rfl) e, c⟩
 | ins C dx fs =>
  obtain ⟨d, z, ne, e, mA, ⟨od, es, ep, e2, c⟩, r⟩ := x
  exact ⟨ho _ d, z, ne, k _ _ (.inl rfl) e, mA, ⟨od, es, ep, k _ _ (.inr d) e2, c⟩, r⟩
 | own y => obtain ⟨ob, e⟩ := x; exact ⟨ob, k _ _ (.inl rfl) e⟩
 | xd fs => obtain ⟨mA, ⟨od, es, ep, e, c⟩, r⟩ := x; exact ⟨mA, ⟨od, es, ep, k _ _ (.inl rfl) e, c⟩, r⟩
 | rng lo hi => obtain ⟨t, u, v, e⟩ := x; exact ⟨t, u, v, k _ _ (.inl rfl) e⟩
 | frz ob u ih => obtain ⟨e, q⟩ := x; exact ⟨k _ _ (.inl rfl) e, ih q⟩
 | tbl ps =>
  have e : h.get? a = some { cls := .none, data := .fields ps } := x
  show h'.get? a = some { cls := .none, data := .fields ps }
  exact k a _ (.inl rfl) e
 | met f y =>
  have e : h.get? a = some (PySem.W.methodObj (.ref f) (.ref y)) := x
  show h'.get? a = some (PySem.W.methodObj (.ref f) (.ref y))
  exact k a _ (.inl rfl) e
 | ext φ => obtain ⟨p, ⟨o, e⟩, st⟩ := x; exact ⟨st _ _ p fun o q => k _ _ (.inl rfl) q, ⟨o, k _ _ (.inl rfl) e⟩, st⟩
theorem HOk.lt (x : HOk P w H h) (e : H a = some o) : a < h.objs.size := (x a o e).lt
theorem HOk.fresh (x : HOk P w H h) (e : h.objs.size <= a) : H a = none := by
 cases q : H a with
 | none => rfl
 | some u => exact absurd (Nat.lt_of_lt_of_le (x.lt q) e) (Nat.lt_irrefl _)
theorem HOk.kept (x : HOk P w H h) (k : ∀ b u, h.get? b = some u -> h'.get? b = some u) : HOk P w H h' := fun a o e =>
 (x a o e).stay (fun b u _ q => k b u q) (fun _ q => q) fun _ _ q => q
theorem HOk.laid (x : HOk P w H h) (k : ∀ b u, h.get? b = some u -> h'.get? b = some u) (hp : h.objs.size <= a) (new : cQ P w (upd H a o) h' a o) : HOk P w (upd H a o) h' := fun b u e => by
 have hn := x.fresh hp
 by_cases hb : b = a
 ·subst hb; rw [aB] at e; cases e; exact new
 ·rw [aJ hb] at e
  exact (x b u e).stay (fun c v _ q => k c v q) (fun c q => by rw [aJ (aQ q hn)]; exact q) fun c xs q => by rw [aJ (aQ q hn)]; exact q
end
def Rd (H : Hp) (a : Addr) (u : HO) : Prop := H a = some u \/ ∃ o, H a = some (.frz o u)
theorem Rd.ok {P : Program} {w : World} {H : Hp} {h : Heap} {a : Addr} {u : HO} (r : Rd H a u) (x : HOk P w H h) : cQ P w H h a u := by
 rcases r with r | ⟨o, r⟩
 ·exact x a u r
 ·obtain ⟨_, q⟩ := x a _ r
  exact q
def Mut : Option HO -> Prop
 | some (.lst _) => True
 | some (.dK _) => True
 | some (.dT _) => True
 | some (.set _ _) => True
 | some (.ins _ _ _) => True
 | some (.ext _) => True
 | _ => False
section
variable {P : Program} {w : World} {H : Hp} {h h' : Heap} {x e : Addr} {o' : HO}
theorem HOk.write (ok : HOk P w H h) (mu : Mut (H x)) (he : e = x \/ H e = some (.own x)) (k : ∀ b u, b ≠ e -> h.get? b = some u -> h'.get? b = some u) (heo : ∃ u, h'.get? e = some u)
  (new : cQ P w (upd H x o') h' x o') : HOk P w (upd H x o') h' := fun b u q => by
 have nown : ∀ c y, H c = some (.own y) -> c ≠ x := fun c y r z => by subst z; rw [r] at mu; exact mu
 have ntup : ∀ c xs, H c = some (.tup xs) -> c ≠ x := fun c xs r z => by subst z; rw [r] at mu; exact mu
 by_cases hb : b = x
 ·subst hb; rw [aB] at q; cases q; exact new
 ·rw [aJ hb] at q
  by_cases hbe : b = e
  ·have q' : H b = some (.own x) := by
    rcases he with z | z
    ·exact absurd (hbe.trans z) hb
    ·rw [hbe]; exact z
   rw [q] at q'; cases q'
   obtain ⟨v, hv⟩ := heo
   exact ⟨v, by rw [hbe]; exact hv⟩
  ·refine (ok b u q).stay (fun c v hc r => k c v ?_ r) (fun c r => by rw [aJ (nown c b r)]; exact r) fun c xs r => by rw [aJ (ntup c xs r)]; exact r
   rcases hc with rfl | hc
   ·exact hbe
   ·rintro rfl
    rcases he with z | z
    ·exact nown c b hc z
    ·rw [hc] at z; cases z; exact hb rfl
end
structure Un (fs ex : List Addr) (H H' : Hp) (h h' : Heap) : Prop where
 keep : ∀ b o, h.get? b = some o -> H b = none -> b ∉ fs -> b ∉ ex -> h'.get? b = some o
 slot : ∀ b o, h.get? b = some o -> H b = none -> b ∈ fs -> b ∉ ex -> ∃ sl, h'.get? b = some { o with slots := sl }
 free : ∀ b o, h.get? b = some o -> H b = none -> b ∉ ex -> H' b = none
 there : ∀ b o, h.get? b = some o -> b ∉ ex -> ∃ o', h'.get? b = some o'
 tups : ∀ b xs, H b = some (.tup xs) -> H' b = some (.tup xs)
 frzs : ∀ b o u, H b = some (.frz o u) -> H' b = some (.frz o u)
 tbls : ∀ b ps, H b = some (.tbl ps) -> ∃ more, H' b = some (.tbl (ps ++ more))
section
variable {fs fs' ex ex' : List Addr} {H H1 H2 : Hp} {h h1 h2 h' : Heap} {a x e : Addr} {o : HO}
theorem Un.any (u : Un fs ex H H1 h h1) {b : Addr} {ob : Obj} (q : h.get? b = some ob) (n : H b = none) (hx : b ∉ ex) : ∃ sl, h1.get? b = some { ob with slots := sl } := by
 by_cases hb : b ∈ fs
 ·exact u.slot b ob q n hb hx
 ·exact ⟨ob.slots, u.keep b ob q n hb hx⟩
theorem Un.kept (k : ∀ b u, h.get? b = some u -> h'.get? b = some u) : Un fs ex H H h h' :=
 ⟨fun b ob q _ _ _ => k b ob q, fun b ob q _ _ _ => ⟨ob.slots, k b ob q⟩, fun _ _ _ n _ => n, fun b ob q _ => ⟨ob, k b ob q⟩, fun _ _ q => q, fun _ _ _ q => q, fun _ ps q => ⟨#[], by rw [q]; simp⟩⟩
theorem Un.refl : Un fs ex H H h h := Un.kept fun _ _ q => q
theorem Un.laid (k : ∀ b u, h.get? b = some u -> h'.get? b = some u) (hp : h.objs.size <= a) (hn : H a = none) : Un fs ex H (upd H a o) h h' where
 keep := fun b u q _ _ _ => k b u q
 slot := fun b u q _ _ _ => ⟨u.slots, k b u q⟩
 free := fun b u q n _ => by rw [aJ (Nat.ne_of_lt (Nat.lt_of_lt_of_le (Heap.lt_size q) hp))]; exact n
 there := fun b u q _ => ⟨u, k b u q⟩
 tups := fun b xs q => by rw [aJ (aQ q hn)]; exact q
 frzs := fun b u xs q => by rw [aJ (aQ q hn)]; exact q
 tbls := fun b ps q => ⟨#[], by rw [aJ (aQ q hn), q]; simp⟩
theorem Un.write (mu : Mut (H x)) (he : e = x \/ H e = some (.own x)) (k : ∀ b u, b ≠ e -> h.get? b = some u -> h'.get? b = some u) (heo : ∃ u, h'.get? e = some u) : Un fs ex H (upd H x o) h h' := by
 have hx : ∀ b, H b = none -> b ≠ x := fun b n z => by subst z; rw [n] at mu; exact mu
 have hb : ∀ b, H b = none -> b ≠ e := fun b n z => by
  subst z
  rcases he with r | r
  ·exact hx b n r
  ·rw [n] at r; cases r
 have hm : ∀ b u, H b = some u -> ¬ Mut (some u) -> b ≠ x := fun b u q nm z => by subst z; rw [q] at mu; exact nm mu
 refine ⟨fun b u q n _ _ => k b u (hb b n) q, fun b u q n _ _ => ⟨u.slots, k b u (hb b n) q⟩, fun b u q n _ => by rw [aJ (hx b n)]; exact n, fun b u q _ => ?_,
  fun b xs q => by rw [aJ (hm b _ q fun z => z)]; exact q, fun b u xs q => by rw [aJ (hm b _ q fun z => z)]; exact q, fun b ps q => ⟨#[], by rw [aJ (hm b _ q fun z => z), q]; simp⟩⟩
 by_cases hbe : b = e
 ·subst hbe; exact heo
 ·exact ⟨u, k b u hbe q⟩
end
def trk (h : Heap) (H : Hp) : List Addr := (List.range h.objs.size).filter fun a => (H a).isSome
def Bq (h : Heap) (H : Hp) : Heap := PySem.W.hideAll h (trk h H)
theorem KC (h : Heap) (H : Hp) : (Bq h H).objs.size = h.objs.size := PySem.W.hideAll_size _ _
theorem Q6 {h : Heap} {H : Hp} {b : Addr} {o : Obj} (e : h.get? b = some o) (n : H b = none) : (Bq h H).get? b = some o :=
 PySem.W.hideAll_get _ e fun hm => by
  have q : (H b).isSome = true := (List.mem_filter.mp hm).2
  rw [n] at q; simp at q
theorem Vh {h : Heap} {H : Hp} {b : Addr} {o : Obj} (e : (Bq h H).get? b = some o) : h.get? b = some o /\ H b = none := by
 have e' : h.get? b = some o := PySem.W.of_hideAll (trk h H) e
 refine ⟨e', ?_⟩
 cases q : H b with
 | none => rfl
 | some x =>
  have hm : b ∈ trk h H := List.mem_filter.mpr ⟨List.mem_range.mpr (Heap.lt_size e'), by simp [q]⟩
  have z : (Bq h H).get? b = none := PySem.W.hideAll_none (trk h H) hm
  rw [z] at e; cases e
structure Mod (K : PySem.W.Frag) (mg : Str -> Option Value) (base : Heap) : Prop where
 kin : K.In base
 glob : base.Ns mainGlobals mg
 blt : ∃ mb, base.Ns builtinsNs mb /\ ∀ x : Str, x ≠ "__name__" -> mb x = bootBuiltins x
 nolimit : base.NoLimit
structure Cx where
 prog : Program
 w : World
 K : PySem.W.Frag
 mg : Str -> Option Value
 base : Heap
 A : Around
 N : List Str
 s₀ : Shared
 H₀ : Hp
 env : Env
 outer : List Env
 stack : List Env
 ex : List Addr
 fn : Str -> Bool
 calm : Bool
 pn : List (Addr × Obj)
 xe : Value -> Shared -> Prop
def frs (l : List Env) : List Addr := l.filterMap (·.frame)
abbrev Cx.fs (X : Cx) : List Addr := frs X.outer
def Vis (sc : Scope) (x : Str) : Prop := sc.names.lookup x = some .local \/ sc.names.lookup x = some .cell \/ sc.names.lookup x = some .free
def Loc (sc : Scope) (x : Str) : Prop := sc.names.lookup x = some .local \/ sc.names.lookup x = some .cell
def Look (env : Env) (h : Heap) (m : Str -> Option Value) (x : Str) (u : Value) : Prop :=
 (env.kindOf x = some .local /\ m x = some u) \/ ((env.kindOf x = some .cell \/ env.kindOf x = some .free) /\ ∃ c, env.cells.lookup x = some c /\ h.IsCell c (some u))
structure Cx.Ok (X : Cx) : Prop where
 mod : Mod X.K X.mg X.base
 kind : X.env.scope.kind = .function
 glob : X.env.globals = mainGlobals
 blt : X.env.builtins = builtinsNs
 above : X.s₀.heap.objs.size <= X.env.locals
 inj : ∀ x y c, X.env.cells.lookup x = some c -> X.env.cells.lookup y = some c -> x = y
 has : ∀ x, (X.env.kindOf x = some .cell \/ X.env.kindOf x = some .free) -> ∃ c, X.env.cells.lookup x = some c
 cab : ∀ x c, X.fn x = true -> X.env.cells.lookup x = some c -> X.s₀.heap.objs.size <= c
 hd : X.calm = true -> X.A.handled = none
 frames : X.A.frames = some X.stack
 stk : X.stack = X.outer \/ (X.stack = X.env :: X.outer /\ X.env.frame = some X.env.locals)
 exf : ∀ b ∈ X.ex, b ≠ X.env.locals /\ ∀ x c, X.env.cells.lookup x = some c -> c ≠ b
 bs : ∀ b o, X.base.get? b = some o -> X.s₀.heap.get? b = some o /\ X.H₀ b = none
 bsz : X.base.objs.size <= X.s₀.heap.objs.size
 noex : ∀ b o, X.base.get? b = some o -> b ∉ X.ex
 exfs : ∀ b ∈ X.ex, b ∉ X.fs
 pB : X.s₀.heap.FunFrames X.base X.outer
 frf : ∀ b ∈ X.fs, X.H₀ b = none
structure Inv (X : Cx) (pins : List (Addr × Obj)) (σ : List (Option V)) (H : Hp) (s : Shared) : Prop where
 ok : X.Ok
 os : s.os = X.s₀.os
 bare : AllBare s.gens
 base : Un X.fs X.ex X.H₀ H X.s₀.heap s.heap
 loc : ∃ m, s.heap.Ns X.env.locals m /\ ∀ (i : Nat) (x : Str) (v : V), X.N[i]? = some x -> σ[i]? = some (some v) -> Vis X.env.scope x -> ∃ u, RelV v u /\ Look X.env s.heap m x u
 cell : ∀ x c, X.env.cells.lookup x = some c -> ∃ v, s.heap.IsCell c v
 free : H X.env.locals = none
 freeC : ∀ x c, X.env.cells.lookup x = some c -> H c = none
 pin : ∀ p ∈ X.pn ++ pins, s.heap.get? p.1 = some p.2 /\ H p.1 = none /\ p.1 ≠ X.env.locals /\ p.1 ∉ X.fs /\ ∀ v, p.2.data ≠ .cell v
 hok : HOk X.prog X.w H s.heap
 len : σ.length = X.N.length
section
variable {X : Cx} {pins : List (Addr × Obj)} {σ : List (Option V)} {H H' : Hp} {s : Shared} {h' : Heap}
theorem Cx.Ok.aaD (ok : X.Ok) {b : Addr} {o : Obj} (e : X.base.get? b = some o) : b ∉ X.fs := fun hb => by
 have := (ok.pB.mem hb).1
 rw [e] at this; cases this
theorem Inv.bs (I : Inv X pins σ H s) : ∀ b o, X.base.get? b = some o -> s.heap.get? b = some o /\ H b = none := fun b o e =>
 ⟨I.base.keep b o (I.ok.bs b o e).1 (I.ok.bs b o e).2 (I.ok.aaD e) (I.ok.noex b o e), I.base.free b o (I.ok.bs b o e).1 (I.ok.bs b o e).2 (I.ok.noex b o e)⟩
theorem Inv.bk (I : Inv X pins σ H s) : ∀ b o, X.base.get? b = some o -> s.heap.get? b = some o := fun b o e => (I.bs b o e).1
theorem Inv.mod (I : Inv X pins σ H s) : Mod X.K X.mg X.base := I.ok.mod
theorem Inv.kIn (I : Inv X pins σ H s) : X.K.In s.heap := I.ok.mod.kin.keeps I.bk
theorem Inv.lt (I : Inv X pins σ H s) : X.env.locals < s.heap.objs.size := let ⟨_, hn, _⟩ := I.loc; hn.lt
theorem Inv.sz (I : Inv X pins σ H s) : X.s₀.heap.objs.size <= s.heap.objs.size := Nat.le_trans I.ok.above (Nat.le_of_lt I.lt)
theorem Inv.Yz (I : Inv X pins σ H s) {a : Addr} (h : s.heap.objs.size <= a) : a ∉ X.fs := fun hb => by
 obtain ⟨_, o, ho, _⟩ := I.ok.pB.mem hb
 exact absurd (Nat.lt_of_lt_of_le (Heap.lt_size ho) (Nat.le_trans I.sz h)) (Nat.lt_irrefl _)
theorem Inv.cne (I : Inv X pins σ H s) : ∀ x c, X.env.cells.lookup x = some c -> c ≠ X.env.locals := fun x c e z => by
 obtain ⟨v, o, ho, hd⟩ := I.cell x c e
 obtain ⟨m, ⟨o', es, ep, ho', hd', _⟩, _⟩ := I.loc
 rw [z, ho'] at ho; cases ho; rw [hd'] at hd; cases hd
theorem Inv.pB (I : Inv X pins σ H s) : s.heap.FunFrames X.base X.outer := by
 have all : ∀ (l : List Env), (∀ b ∈ frs l, b ∈ X.fs) -> X.s₀.heap.FunFrames X.base l -> s.heap.FunFrames X.base l := by
  intro l
  induction l with
  | nil => intro _ _; trivial
  | cons env r ih =>
   intro hs hl
   obtain ⟨hk, ⟨L, o, hf, hn, ho, hd⟩, hr⟩ := hl
   have hL : L ∈ X.fs := hs L (by unfold frs; rw [List.filterMap_cons, hf]; exact List.mem_cons_self)
   obtain ⟨sl, e⟩ := I.base.slot L o ho (I.ok.frf L hL) hL fun z => I.ok.exfs L z hL
   exact ⟨hk, ⟨L, _, hf, hn, e, hd⟩, ih (fun b hb => hs b (by unfold frs; rw [List.filterMap_cons, hf]; exact List.mem_cons_of_mem _ hb)) hr⟩
 exact all X.outer (fun _ hb => hb) I.ok.pB
theorem Inv.stack (I : Inv X pins σ H s) : s.heap.FunFrames X.base X.stack := by
 rcases I.ok.stk with e | ⟨e, hf⟩
 ·rw [e]; exact I.pB
 ·rw [e]
  obtain ⟨m, hn, _⟩ := I.loc
  refine .cons (by rw [I.ok.kind]; decide) hf hn ?_ I.pB
  exact Heap.get?_none_of_le (Nat.le_trans I.ok.bsz I.ok.above)
theorem Inv.tM (I : Inv X pins σ H s) : ∀ b ∈ frs X.stack, b ∈ X.env.locals :: X.fs := fun b hb => by
 rcases I.ok.stk with e | ⟨e, hf⟩
 ·rw [e] at hb; exact List.mem_cons_of_mem _ hb
 ·rw [e] at hb
  unfold frs at hb
  rw [List.filterMap_cons, hf] at hb
  exact hb
theorem Inv.vq (I : Inv X pins σ H s) : ∀ b ∈ frs X.stack, H b = none := fun b hb => by
 rcases List.mem_cons.mp (I.tM b hb) with e | hb
 ·rw [e]; exact I.free
 ·obtain ⟨_, o, ho, _⟩ := I.ok.pB.mem hb
  exact I.base.free b o ho (I.ok.frf b hb) fun z => I.ok.exfs b z hb
theorem Inv.step {g' : Array GenState} {t' : Nat} {d' : Drawn} {ch : List Addr} (I : Inv X pins σ H s)
  (hch : ∀ b ∈ ch, (b ∈ X.ex \/ X.s₀.heap.objs.size <= b) /\ b ≠ X.env.locals /\ (∀ x c, X.env.cells.lookup x = some c -> c ≠ b) /\ ∀ p ∈ X.pn ++ pins, p.1 ≠ b)
  (keep : ∀ b o, b ≠ X.env.locals -> b ∉ X.fs -> b ∉ ch -> s.heap.get? b = some o -> H b = none -> h'.get? b = some o)
  (slot : ∀ b o, b ≠ X.env.locals -> b ∈ X.fs -> b ∉ ch -> s.heap.get? b = some o -> H b = none -> ∃ sl, h'.get? b = some { o with slots := sl }) (free : ∀ b o, b ∉ ch -> s.heap.get? b = some o -> H b = none -> H' b = none)
  (there : ∀ b o, b ∉ ch -> s.heap.get? b = some o -> ∃ o', h'.get? b = some o')
  (tups : ∀ b xs, H b = some (.tup xs) -> H' b = some (.tup xs)) (frzs : ∀ b o u, H b = some (.frz o u) -> H' b = some (.frz o u)) (tbls : ∀ b ps, H b = some (.tbl ps) -> ∃ more, H' b = some (.tbl (ps ++ more)))
  (ns : ∀ m, s.heap.Ns X.env.locals m -> h'.Ns X.env.locals m) (hok : HOk X.prog X.w H' h') (hg : AllBare g') :
  Inv X pins σ H' { s with heap := h', gens := g', drawn := d', toks := t' } := by
 have neL : ∀ b o, X.s₀.heap.get? b = some o -> b ≠ X.env.locals := fun b o e => Nat.ne_of_lt (Nat.lt_of_lt_of_le (Heap.lt_size e) I.ok.above)
 have neC : ∀ b o, X.s₀.heap.get? b = some o -> b ∉ X.ex -> b ∉ ch := fun b o e hx hb => by
  rcases (hch b hb).1 with z | z
  ·exact hx z
  ·exact absurd (Nat.lt_of_lt_of_le (Heap.lt_size e) z) (Nat.lt_irrefl _)
 have cellK : ∀ x c, X.env.cells.lookup x = some c -> ∀ v, s.heap.IsCell c v -> h'.IsCell c v := fun x c e v ⟨o, ho, hd⟩ => by
  have nch : c ∉ ch := fun z => (hch c z).2.2.1 x c e rfl
  by_cases hc : c ∈ X.fs
  ·obtain ⟨sl, q⟩ := slot c o (I.cne x c e) hc nch ho (I.freeC x c e)
   exact ⟨_, q, hd⟩
  ·exact ⟨o, keep c o (I.cne x c e) hc nch ho (I.freeC x c e), hd⟩
 refine ⟨I.ok, I.os, hg, ⟨fun b o e n hb hx => ?_, fun b o e n hb hx => ?_, fun b o e n hx => ?_, fun b o e hx => ?_, fun b xs e => tups b xs (I.base.tups b xs e), fun b o xs e => frzs b o xs (I.base.frzs b o xs e), fun b ps e => ?_⟩, ?_, fun x c e => ?_, ?_, fun x c e => ?_, fun p hp => ?_, hok, I.len⟩
 ·exact keep b o (neL b o e) hb (neC b o e hx) (I.base.keep b o e n hb hx) (I.base.free b o e n hx)
 ·obtain ⟨sl, e1⟩ := I.base.slot b o e n hb hx
  obtain ⟨sl', e2⟩ := slot b _ (neL b o e) hb (neC b o e hx) e1 (I.base.free b o e n hx)
  exact ⟨sl', e2⟩
 ·obtain ⟨o', e1⟩ := I.base.there b o e hx
  exact free b o' (neC b o e hx) e1 (I.base.free b o e n hx)
 ·obtain ⟨o', e1⟩ := I.base.there b o e hx
  exact there b o' (neC b o e hx) e1
 ·obtain ⟨m1, e1⟩ := I.base.tbls b ps e
  obtain ⟨m2, e2⟩ := tbls b _ e1
  exact ⟨m1 ++ m2, by rw [e2, Array.append_assoc]⟩
 ·obtain ⟨m, hn, hl⟩ := I.loc
  refine ⟨m, ns m hn, fun i x v e1 e2 e3 => ?_⟩
  obtain ⟨u, r, l⟩ := hl i x v e1 e2 e3
  refine ⟨u, r, ?_⟩
  rcases l with l | ⟨k, c, e, z⟩
  ·exact .inl l
  ·exact .inr ⟨k, c, e, cellK x c e _ z⟩
 ·obtain ⟨v, z⟩ := I.cell x c e
  exact ⟨v, cellK x c e v z⟩
 ·obtain ⟨m, ⟨o, _, _, ho, _⟩, _⟩ := I.loc
  exact free _ o (fun z => (hch _ z).2.1 rfl) ho I.free
 ·obtain ⟨v, o, ho, hd⟩ := I.cell x c e
  exact free c o (fun z => (hch c z).2.2.1 x c e rfl) ho (I.freeC x c e)
 ·obtain ⟨e, n, ne, nf, d⟩ := I.pin p hp
  have nch : p.1 ∉ ch := fun z => (hch p.1 z).2.2.2 p hp rfl
  exact ⟨keep p.1 p.2 ne nf nch e n, free p.1 p.2 nch e n, ne, nf, d⟩
theorem Inv.un {t' : Nat} (I : Inv X pins σ H s) (u : Un X.fs [] H H' s.heap h') (hok : HOk X.prog X.w H' h') : Inv X pins σ H' { s with heap := h', toks := t' } := by
 obtain ⟨m, ⟨o, es, ep, ho, r⟩, _⟩ := id I.loc
 obtain ⟨sl, hL⟩ := u.any ho I.free (by simp)
 exact I.step (g' := s.gens) (d' := s.drawn) (ch := []) (fun _ z => nomatch z) (fun b o _ hb _ e n => u.keep b o e n hb (by simp)) (fun b o _ hb _ e n => u.slot b o e n hb (by simp)) (fun b o _ e n => u.free b o e n (by simp)) (fun b o _ e => u.there b o e (by simp)) u.tups u.frzs u.tbls (fun m' hm => by
  obtain ⟨o', es', ep', ho', r'⟩ := hm
  rw [ho] at ho'; cases ho'
  exact ⟨_, es', ep', hL, r'⟩) hok I.bare
theorem Inv.call {g' : Array GenState} {t' : Nat} {d' : Drawn} {ch : List Addr} (I : Inv X pins σ H s) (u : Un (frs X.stack) ch H H' s.heap h') (hok : HOk X.prog X.w H' h') (hg : AllBare g')
  (hch : ∀ b ∈ ch, (b ∈ X.ex \/ X.s₀.heap.objs.size <= b) /\ b ≠ X.env.locals /\ (∀ x c, X.env.cells.lookup x = some c -> c ≠ b) /\ ∀ p ∈ X.pn ++ pins, p.1 ≠ b) :
  Inv X pins σ H' { s with heap := h', gens := g', drawn := d', toks := t' } := by
 obtain ⟨m, ⟨o, es, ep, ho, r⟩, _⟩ := id I.loc
 obtain ⟨sl, hL⟩ := u.any ho I.free fun z => (hch _ z).2.1 rfl
 exact I.step (ch := ch) hch (fun b o hL hb hc e n => u.keep b o e n (fun z => (List.mem_cons.mp (I.tM b z)).elim hL hb) hc) (fun b o _ _ hc e n => u.any e n hc) (fun b o hc e n => u.free b o e n hc) (fun b o hc e => u.there b o e hc) u.tups u.frzs u.tbls (fun m' hm => by
  obtain ⟨o', es', ep', ho', r'⟩ := hm
  rw [ho] at ho'; cases ho'
  exact ⟨_, es', ep', hL, r'⟩) hok hg
theorem Inv.turned {t' : Nat} {it : Addr} (I : Inv X pins σ H s) (k : ∀ b o, b ≠ it -> s.heap.get? b = some o -> h'.get? b = some o) (hn : H it = none) (hL : it ≠ X.env.locals)
  (h1 : it ∈ X.ex \/ X.s₀.heap.objs.size <= it) (h2 : ∀ x c, X.env.cells.lookup x = some c -> c ≠ it) (h3 : ∀ p ∈ X.pn ++ pins, p.1 ≠ it) : Inv X pins σ H { s with heap := h', toks := t' } := by
 have nit : ∀ b u, H b = some u -> b ≠ it := fun b u e z => by rw [z, hn] at e; cases e
 refine I.step (g' := s.gens) (d' := s.drawn) (ch := [it]) (fun b hb => ?_) (fun b o _ _ hc e _ => k b o (fun z => hc (by simp [z])) e) (fun b o _ _ hc e _ => ⟨o.slots, k b o (fun z => hc (by simp [z])) e⟩) (fun _ _ _ _ n => n)
  (fun b o hc e => ⟨o, k b o (fun z => hc (by simp [z])) e⟩) (fun _ _ e => e) (fun _ _ _ e => e) (fun b ps e => ⟨#[], by rw [e]; simp⟩) (fun m hm => ?_) (fun b u e => ?_) I.bare
 ·have e : b = it := by simpa using hb
  subst e
  exact ⟨h1, hL, h2, h3⟩
 ·obtain ⟨o, es, ep, ho, r⟩ := hm
  exact ⟨o, es, ep, k _ o (Ne.symm hL) ho, r⟩
 ·refine (I.hok b u e).stay (fun c v hc q => k c v ?_ q) (fun _ q => q) fun _ _ q => q
  rcases hc with z | z
  ·rw [z]; exact nit b u e
  ·exact nit c _ z
theorem Inv.tok (I : Inv X pins σ H s) (t : Nat) : Inv X pins σ H { s with toks := t } := I.un (h' := s.heap) (t' := t) Un.refl I.hok
theorem Inv.kept {t' : Nat} (I : Inv X pins σ H s) (k : ∀ b u, s.heap.get? b = some u -> h'.get? b = some u) : Inv X pins σ H { s with heap := h', toks := t' } := I.un (Un.kept k) (I.hok.kept k)
theorem Inv.laid {a : Addr} {o : HO} {t' : Nat} (I : Inv X pins σ H s) (k : ∀ b u, s.heap.get? b = some u -> h'.get? b = some u) (hp : s.heap.objs.size <= a) (new : cQ X.prog X.w (upd H a o) h' a o) :
  Inv X pins σ (upd H a o) { s with heap := h', toks := t' } := I.un (Un.laid k hp (I.hok.fresh hp)) (I.hok.laid k hp new)
theorem Inv.write {x e : Addr} {o : HO} {t' : Nat} (I : Inv X pins σ H s) (mu : Mut (H x)) (he : e = x \/ H e = some (.own x)) (k : ∀ b u, b ≠ e -> s.heap.get? b = some u -> h'.get? b = some u) (heo : ∃ u, h'.get? e = some u)
  (new : cQ X.prog X.w (upd H x o) h' x o) : Inv X pins σ (upd H x o) { s with heap := h', toks := t' } := I.un (Un.write mu he k heo) (I.hok.write mu he k heo new)
theorem Inv.pU {pins' : List (Addr × Obj)} (I : Inv X pins σ H s) (h : ∀ p ∈ pins', s.heap.get? p.1 = some p.2 /\ H p.1 = none /\ p.1 ≠ X.env.locals /\ p.1 ∉ X.fs /\ ∀ v, p.2.data ≠ .cell v) : Inv X pins' σ H s :=
 ⟨I.ok, I.os, I.bare, I.base, I.loc, I.cell, I.free, I.freeC, fun p hp => (List.mem_append.mp hp).elim (fun z => I.pin p (List.mem_append_left _ z)) (h p), I.hok, I.len⟩
theorem v9 {N : List Str} (hN : N.Nodup) {i j : Nat} {x : Str} (a : N[i]? = some x) (b : N[j]? = some x) : i = j := by
 obtain ⟨h1, e1⟩ := List.getElem?_eq_some_iff.mp a
 obtain ⟨h2, e2⟩ := List.getElem?_eq_some_iff.mp b
 exact (List.getElem_inj hN).mp (e1.trans e2.symm)
theorem yW {M : Model} {A : Around} {E : Value -> Shared -> Prop} {i : Nat} {x : Str} {v : V} {u : Value} {Q : Unit -> Shared -> Prop} (I : Inv X pins σ H s) (hN : X.N.Nodup) (hi : X.N[i]? = some x) (hx : Loc X.env.scope x) (r : RelV v u)
  (h : ∀ s', Inv X pins (σ.set i (some v)) H s' -> (∃ a, Heap.SameBut a s.heap s'.heap /\ (a = X.env.locals \/ X.env.cells.lookup x = some a)) -> Q () s') (hf : X.fn x = true \/ X.env.scope.names.lookup x = some .local := by first | exact .inl rfl | exact .inr rfl | assumption) : wpAny M A (storeName X.env x u) Q E s := by
 obtain ⟨m, hn, hl⟩ := id I.loc
 have hcls : (X.env.scope.kind == .class || (X.env.scope.kind == .module && X.env.locals != X.env.globals)) = false := by rw [I.ok.kind]; rfl
 have hiσ : i < σ.length := by rw [I.len]; exact (List.getElem?_eq_some_iff.mp hi).1
 have cne := I.cne
 have tracked : ∀ {a : Addr} {h' : Heap}, (∃ o, s.heap.get? a = some o /\ H a = none) -> Heap.SameBut a s.heap h' -> HOk X.prog X.w H h' := fun {a h'} ha hs b ob e => by
  obtain ⟨_, _, hfree⟩ := ha
  refine (I.hok b ob e).stay (fun c w' hc q => (hs.2 c ?_).trans q) (fun _ q => q) fun _ _ q => q
  rintro rfl
  rcases hc with rfl | hc
  ·rw [hfree] at e; cases e
  ·rw [hfree] at hc; cases hc
 rcases hx with hk | hk
 ·refine wpAny_storeName_local hk hn (fun h' hn' hs => ?_) hcls
  obtain ⟨oL, _, _, hoL, _⟩ := id hn
  refine h _ ⟨I.ok, I.os, I.bare, ⟨fun b o e n hb hx => ?_, fun b o e n hb hx => ?_, I.base.free, fun b o e hx => ?_, I.base.tups, I.base.frzs, I.base.tbls⟩, ⟨_, hn', fun j y v' e1 e2 e3 => ?_⟩, fun y c e => ?_, I.free, I.freeC, fun p hp => ?_, tracked ⟨oL, hoL, I.free⟩ hs, by simpa using I.len⟩ ⟨_, hs, .inl rfl⟩
  ·exact (hs.2 b (Nat.ne_of_lt (Nat.lt_of_lt_of_le (Heap.lt_size e) I.ok.above))).trans (I.base.keep b o e n hb hx)
  ·obtain ⟨sl, e1⟩ := I.base.slot b o e n hb hx
   exact ⟨sl, (hs.2 b (Nat.ne_of_lt (Nat.lt_of_lt_of_le (Heap.lt_size e) I.ok.above))).trans e1⟩
  ·obtain ⟨o', e1⟩ := I.base.there b o e hx
   exact ⟨o', (hs.2 b (Nat.ne_of_lt (Nat.lt_of_lt_of_le (Heap.lt_size e) I.ok.above))).trans e1⟩
  ·by_cases hj : j = i
   ·subst hj
    rw [hi] at e1; cases e1
    rw [List.getElem?_set_self hiσ] at e2
    cases e2
    exact ⟨u, r, .inl ⟨hk, by simp⟩⟩
   ·rw [List.getElem?_set_ne (Ne.symm hj)] at e2
    obtain ⟨u', r', q⟩ := hl j y v' e1 e2 e3
    refine ⟨u', r', ?_⟩
    rcases q with ⟨k, e⟩ | ⟨k, c, e, z⟩
    ·refine .inl ⟨k, ?_⟩
     have : y ≠ x := fun e => hj (v9 hN e1 (e ▸ hi))
     simp [this, e]
    ·exact .inr ⟨k, c, e, z.sameBut hs (cne y c e)⟩
  ·obtain ⟨w', z⟩ := I.cell y c e
   exact ⟨w', z.sameBut hs (cne y c e)⟩
  ·obtain ⟨e, n, ne, nf, d⟩ := I.pin p hp
   exact ⟨(hs.2 p.1 ne).trans e, n, ne, nf, d⟩
 ·have hfn : X.fn x = true := by
   rcases hf with z | z
   ·exact z
   ·rw [z] at hk; cases hk
  obtain ⟨c, hc⟩ := I.ok.has x (.inl hk)
  obtain ⟨w', z⟩ := I.cell x c hc
  refine wpAny_storeName_cell I.ok.kind hk hc z (fun h' hc' hs => ?_)
  obtain ⟨oc, hoc, hocd⟩ := id z
  refine h { s with heap := h' } ⟨I.ok, I.os, I.bare, ⟨fun b o e n hb hx => ?_, fun b o e n hb hx => ?_, I.base.free, fun b o e hx => ?_, I.base.tups, I.base.frzs, I.base.tbls⟩, ⟨m, hn.sameBut hs (Ne.symm (cne x c hc)), fun j y v' e1 e2 e3 => ?_⟩, fun y c' e => ?_, I.free, I.freeC, fun p hp => ?_, tracked ⟨oc, hoc, I.freeC x c hc⟩ hs, by simpa using I.len⟩ ⟨c, hs, .inr hc⟩
  ·exact (hs.2 b (Nat.ne_of_lt (Nat.lt_of_lt_of_le (Heap.lt_size e) (I.ok.cab x c hfn hc)))).trans (I.base.keep b o e n hb hx)
  ·obtain ⟨sl, e1⟩ := I.base.slot b o e n hb hx
   exact ⟨sl, (hs.2 b (Nat.ne_of_lt (Nat.lt_of_lt_of_le (Heap.lt_size e) (I.ok.cab x c hfn hc)))).trans e1⟩
  ·obtain ⟨o', e1⟩ := I.base.there b o e hx
   exact ⟨o', (hs.2 b (Nat.ne_of_lt (Nat.lt_of_lt_of_le (Heap.lt_size e) (I.ok.cab x c hfn hc)))).trans e1⟩
  ·by_cases hj : j = i
   ·subst hj
    rw [hi] at e1; cases e1
    rw [List.getElem?_set_self hiσ] at e2
    cases e2
    exact ⟨u, r, .inr ⟨.inl hk, c, hc, hc'⟩⟩
   ·rw [List.getElem?_set_ne (Ne.symm hj)] at e2
    obtain ⟨u', r', q⟩ := hl j y v' e1 e2 e3
    refine ⟨u', r', ?_⟩
    rcases q with q | ⟨k, c', e, z'⟩
    ·exact .inl q
    ·refine .inr ⟨k, c', e, z'.sameBut hs ?_⟩
     rintro rfl
     exact hj (v9 hN e1 (I.ok.inj _ _ _ e hc ▸ hi))
  ·by_cases hcc : c' = c
   ·subst hcc; exact ⟨_, hc'⟩
   ·obtain ⟨w2, z2⟩ := I.cell y c' e
    exact ⟨w2, z2.sameBut hs hcc⟩
  ·obtain ⟨e, n, ne, nf, d⟩ := I.pin p hp
   refine ⟨(hs.2 p.1 ?_).trans e, n, ne, nf, d⟩
   intro q
   rw [q, hoc] at e
   have q' : oc = p.2 := Option.some.inj e
   exact d w' (by rw [<- q']; exact hocd)
theorem jk {M : Model} {A : Around} {E : Value -> Shared -> Prop} {i : Nat} {x : Str} {v : V} {u : Value} {Q : Unit -> Shared -> Prop} (I : Inv X pins σ H s) (hN : X.N.Nodup) (hi : X.N[i]? = some x) (hx : Loc X.env.scope x) (r : RelV v u)
  (h : ∀ s', Inv X pins (σ.set i (some v)) H s' -> Q () s') (hf : X.fn x = true \/ X.env.scope.names.lookup x = some .local := by first | exact .inl rfl | exact .inr rfl | assumption) : wpAny M A (storeName X.env x u) Q E s :=
 yW I hN hi hx r (fun s' I' _ => h s' I') hf
theorem Inv.call' {s' : Shared} {ch : List Addr} (I : Inv X pins σ H s) (ho : s'.os = s.os) (u : Un (frs X.stack) ch H H' s.heap s'.heap) (hok : HOk X.prog X.w H' s'.heap) (hg : AllBare s'.gens)
  (hch : ∀ b ∈ ch, (b ∈ X.ex \/ X.s₀.heap.objs.size <= b) /\ b ≠ X.env.locals /\ (∀ x c, X.env.cells.lookup x = some c -> c ≠ b) /\ ∀ p ∈ X.pn ++ pins, p.1 ≠ b) : Inv X pins σ H' s' := by
 obtain ⟨h', g', d', t', o'⟩ := s'
 have e : o' = s.os := ho
 subst e
 exact I.call (g' := g') (t' := t') (d' := d') u hok hg hch
end
abbrev XK := Value -> Option Addr -> Hp -> Prop
abbrev St := List (Option V)
abbrev VK := V -> Hp -> Prop
abbrev TE := St -> Hp -> VK -> Prop
abbrev TT := St -> Hp -> (Bool -> Hp -> Prop) -> Prop
abbrev TA := St -> Hp -> (List V -> Hp -> Prop) -> Prop
structure Ends where
 nx : St -> Hp -> Prop
 rt : VK
 bk : St -> Hp -> Prop := fun _ _ => False
 ct : St -> Hp -> Prop := fun _ _ => False
abbrev TS := Ends -> St -> Hp -> Prop
def EP (X : Cx) (pins : List (Addr × Obj)) (σ : St) (Q : VK) (u : Value) (s' : Shared) : Prop := ∃ v H', Inv X pins σ H' s' /\ RelV v u /\ Q v H'
def TP (X : Cx) (pins : List (Addr × Obj)) (σ : St) (Q : Bool -> Hp -> Prop) (b : Bool) (s' : Shared) : Prop := ∃ H', Inv X pins σ H' s' /\ Q b H'
def AP (X : Cx) (pins : List (Addr × Obj)) (σ : St) (Q : List V -> Hp -> Prop) (us : List Value) (s' : Shared) : Prop := ∃ vs H', Inv X pins σ H' s' /\ Vals vs us /\ Q vs H'
def SP (X : Cx) (pins : List (Addr × Obj)) (D : Ends) (f : Flow) (s' : Shared) : Prop :=
 match f with
 | .next => ∃ σ' H', Inv X pins σ' H' s' /\ D.nx σ' H'
 | .brk => ∃ σ' H', Inv X pins σ' H' s' /\ D.bk σ' H'
 | .cont => ∃ σ' H', Inv X pins σ' H' s' /\ D.ct σ' H'
 | .ret u => ∃ v σ' H', Inv X pins σ' H' s' /\ RelV v u /\ D.rt v H'
def PE (X : Cx) (e : Expr) (t : TE) : Prop :=
 ∀ (pins : List (Addr × Obj)) (s : Shared) (σ : St) (H : Hp) (Q : VK), Inv X pins σ H s -> t σ H Q -> wpAny (model X.prog X.w) X.A (eval e X.env) (EP X pins σ Q) X.xe s
def PT (X : Cx) (e : Expr) (t : TT) : Prop :=
 ∀ (pins : List (Addr × Obj)) (s : Shared) (σ : St) (H : Hp) (Q : Bool -> Hp -> Prop), Inv X pins σ H s -> t σ H Q -> wpAny (model X.prog X.w) X.A (isTrue e X.env (eval e X.env)) (TP X pins σ Q) X.xe s
def PW (X : Cx) (e : Expr) (t : TT) : Prop :=
 ∀ (whole : Sem Value) (pins : List (Addr × Obj)) (s : Shared) (σ : St) (H : Hp) (Q : Bool -> Hp -> Prop), Inv X pins σ H s -> t σ H Q -> wpAny (model X.prog X.w) X.A (isTrue e X.env whole) (TP X pins σ Q) X.xe s
theorem PW.pt {X : Cx} {e : Expr} {t : TT} (h : PW X e t) : PT X e t := h _
def PA (X : Cx) (es : List Expr) (t : TA) : Prop :=
 ∀ (pos : Pos) (pins : List (Addr × Obj)) (s : Shared) (σ : St) (H : Hp) (Q : List V -> Hp -> Prop), Inv X pins σ H s -> t σ H Q -> wpAny (model X.prog X.w) X.A (spliced (backTo pos (starEach es X.env))) (AP X pins σ Q) X.xe s
def PS (X : Cx) (st : Stmt) (t : TS) : Prop :=
 ∀ (pins : List (Addr × Obj)) (s : Shared) (σ : St) (H : Hp) (D : Ends), Inv X pins σ H s -> t D σ H -> wpAny (model X.prog X.w) X.A (exec st X.env) (SP X pins D) X.xe s
def PSs (X : Cx) (st : List Stmt) (t : TS) : Prop :=
 ∀ (pins : List (Addr × Obj)) (s : Shared) (σ : St) (H : Hp) (D : Ends), Inv X pins σ H s -> t D σ H -> wpAny (model X.prog X.w) X.A (execs st X.env) (SP X pins D) X.xe s
theorem thn {α : Type} {t : Sem α} {Q Q' : α -> Shared -> Prop} {M : Model} {A : Around} {E : Value -> Shared -> Prop} {s : Shared} (h : wpAny M A t Q E s) (hQ : ∀ a s, Q a s -> Q' a s) : wpAny M A t Q' E s := wpAny_mono h hQ fun _ _ x => x
theorem thE {t : Sem Value} {X : Cx} {pins : List (Addr × Obj)} {σ : St} {Q : VK} {Q' : Value -> Shared -> Prop} {M : Model} {A : Around} {E : Value -> Shared -> Prop} {s : Shared} (h : wpAny M A t (EP X pins σ Q) E s) (hQ : ∀ u s x H, Inv X pins σ H s -> RelV x u -> Q x H -> Q' u s) : wpAny M A t Q' E s := thn h fun u s z => by
 obtain ⟨x, H, I, r, q⟩ := z
 exact hQ u s x H I r q
theorem thA {t : Sem (List Value)} {X : Cx} {pins : List (Addr × Obj)} {σ : St} {Q : List V -> Hp -> Prop} {Q' : List Value -> Shared -> Prop} {M : Model} {A : Around} {E : Value -> Shared -> Prop} {s : Shared} (h : wpAny M A t (AP X pins σ Q) E s) (hQ : ∀ u s x H, Inv X pins σ H s -> Vals x u -> Q x H -> Q' u s) : wpAny M A t Q' E s := thn h fun u s z => by
 obtain ⟨x, H, I, r, q⟩ := z
 exact hQ u s x H I r q
theorem thT {t : Sem Bool} {X : Cx} {pins : List (Addr × Obj)} {σ : St} {Q : Bool -> Hp -> Prop} {Q' : Bool -> Shared -> Prop} {M : Model} {A : Around} {E : Value -> Shared -> Prop} {s : Shared} (h : wpAny M A t (TP X pins σ Q) E s) (hQ : ∀ u s H, Inv X pins σ H s -> Q u H -> Q' u s) : wpAny M A t Q' E s := thn h fun u s z => by
 obtain ⟨H, I, q⟩ := z
 exact hQ u s H I q
section
variable {X : Cx}
def mO (i : Nat) : TE := fun σ H Q => ∃ v, σ[i]? = some (some v) /\ Q v H
def tC (v : V) : TE := fun _ H Q => Q v H
theorem Ox {i : Nat} {x : Str} {pos : Pos} (hN : X.N[i]? = some x) (hv : Vis X.env.scope x) (hd : (x == ("__debug__" : Str)) = false := by decide) (hcd : (x == ("__classdict__" : Str)) = false := by decide) : PE X (.Name x pos) (mO i) := by
 intro pins s σ H Q I h
 obtain ⟨v, e, h⟩ := h
 obtain ⟨m, hn, hl⟩ := I.loc
 obtain ⟨u, r, l⟩ := hl i x v hN e hv
 have fin : EP X pins σ Q u s := ⟨v, H, I, r, h⟩
 rcases l with ⟨hk, hm⟩ | ⟨hk, c, hc, hcell⟩
 ·exact wpAny_Name (wpAny_loadName_local I.ok.kind hk hn hm fin) hd
 ·rcases hk with hk | hk
  ·exact wpAny_Name (wpAny_loadName_cell I.ok.kind hk hc hcell fin) hd
  ·exact wpAny_Name (wpAny_loadName_free I.ok.kind hk hc hcell fin hcd) hd
theorem Yl {i j pos} : PE X (.Constant (.int i) j pos) (tC (.int i)) := fun _ _ _ H _ I h => wpAny_Constant_int ⟨.int i, H, I.tok _, ⟨_, rfl⟩, h⟩
theorem Z1 {b j pos} : PE X (.Constant (.bool b) j pos) (tC (.bl b)) := fun _ _ _ H _ I h => Constant_bool ⟨.bl b, H, I, rfl, h⟩
theorem Yj {j pos} : PE X (.Constant .none j pos) (tC .non) := fun _ _ _ H _ I h => Constant_none ⟨.non, H, I, rfl, h⟩
theorem Yg {x j pos} : PE X (.Constant (.str x) j pos) (tC (.str x)) := fun _ _ _ H _ I h => Calls.Constant_str ⟨.str x, H, I.tok _, ⟨_, rfl⟩, h⟩
def Gl (X : Cx) (x : Str) : Prop := X.env.kindOf x = some .globalImplicit
theorem vG {E : Value -> Shared -> Prop} {pins : List (Addr × Obj)} {s : Shared} {σ : St} {H : Hp} {x : Str} {u : Value} {pos : Pos} {Q : Value -> Shared -> Prop} (I : Inv X pins σ H s) (hg : Gl X x) (hm : X.mg x = some u) (h : Q u s)
  (hd : (x == ("__debug__" : Str)) = false := by decide) : wpAny (model X.prog X.w) X.A (eval (.Name x pos) X.env) Q E s :=
 Calls.Name_function_global I.ok.kind hg (Calls.loadGlobal_global (by rw [I.ok.glob]; exact I.mod.glob.keeps I.bk) hm h) hd
theorem qL {E : Value -> Shared -> Prop} {pins : List (Addr × Obj)} {s : Shared} {σ : St} {H : Hp} {x : Str} {u : Value} {pos : Pos} {Q : Value -> Shared -> Prop} (I : Inv X pins σ H s) (hg : Gl X x) (hm : X.mg x = none) (hv : bootBuiltins x = some u) (h : Q u s)
  (hn : x ≠ "__name__" := by decide) (hd : (x == ("__debug__" : Str)) = false := by decide) : wpAny (model X.prog X.w) X.A (eval (.Name x pos) X.env) Q E s := by
 obtain ⟨mb, h1, h2⟩ := I.mod.blt
 exact Calls.Name_function_global I.ok.kind hg (Calls.loadGlobal_builtin (by rw [I.ok.glob]; exact I.mod.glob.keeps I.bk) hm (by rw [I.ok.blt]; exact h1.keeps I.bk) ((h2 x hn).trans hv) h) hd
theorem Ux {x : Str} {v : V} {u : Value} {pos : Pos} (hg : Gl X x) (hm : X.mg x = some u) (r : RelV v u) (hd : (x == ("__debug__" : Str)) = false := by decide) : PE X (.Name x pos) (tC v) :=
 fun _ _ _ H _ I h => vG I hg hm ⟨v, H, I, r, h⟩ hd
theorem U0 {x : Str} {v : V} {u : Value} {pos : Pos} (hg : Gl X x) (hm : X.mg x = none) (hv : bootBuiltins x = some u) (r : RelV v u) (hn : x ≠ "__name__" := by decide) (hd : (x == ("__debug__" : Str)) = false := by decide) : PE X (.Name x pos) (tC v) :=
 fun _ _ _ H _ I h => qL I hg hm hv ⟨v, H, I, r, h⟩ hn hd
variable {a b : Expr} {ta tb : TE} {pos : Pos}
def tB (t : TE) : TT := fun σ H Q => t σ H fun x H1 => ∃ c, x = .bl c /\ Q c H1
theorem XH {e : Expr} {t : TE} (h : PE X e t) (he : ∀ whole, isTrue e X.env whole = (do let v <- whole; standAt e.pos; holding [v] (truthy v)) := by intro _; rfl) : PT X e (tB t) := by
 intro pins s σ H Q I hw
 refine isTrue_plain (thE (h pins s σ H _ I hw) fun v s1 x H1 I1 r1 q1 => ?_) (he _)
 obtain ⟨d, rfl, q⟩ := q1
 cases r1
 exact wpAny_truthy_bool ⟨H1, I1, q⟩
variable {tA tB' : TT} {rest : List Expr}
def Xf (t u : TT) : TT := fun σ H Q => t σ H fun c H1 => if c = true then u σ H1 Q else Q false H1
def tOr (t u : TT) : TT := fun σ H Q => t σ H fun c H1 => if c = true then Q true H1 else u σ H1 Q
def Xc (t : TT) : TT := fun σ H Q => t σ H fun c H1 => Q (!c) H1
theorem Ua (ha : PT X a tA) : PW X (.BoolOp .And [a] pos) tA := by
 intro wh pins s σ H Q I h
 refine isTrue_and (thn (ha pins s σ H Q I h) fun c s1 e => ?_)
 cases c with
 | true => exact isTrue_and_nil e
 | false => exact e
theorem Xy (ha : PT X a tA) : PW X (.BoolOp .Or [a] pos) tA := by
 intro wh pins s σ H Q I h
 refine isTrue_or (thn (ha pins s σ H Q I h) fun c s1 e => ?_)
 cases c with
 | false => exact isTrue_or_nil e
 | true => exact e
theorem Xz (ha : PT X a tA) (hb : PW X (.BoolOp .And (b :: rest) pos) tB') : PW X (.BoolOp .And (a :: b :: rest) pos) (Xf tA tB') := by
 intro wh pins s σ H Q I h
 refine isTrue_and (thT (ha pins s σ H _ I h) fun c s1 H1 I1 q1 => ?_)
 cases c with
 | true => exact hb wh pins s1 σ H1 Q I1 q1
 | false => exact ⟨H1, I1, q1⟩
theorem ZF (ha : PT X a tA) (hb : PW X (.BoolOp .Or (b :: rest) pos) tB') : PW X (.BoolOp .Or (a :: b :: rest) pos) (tOr tA tB') := by
 intro wh pins s σ H Q I h
 refine isTrue_or (thT (ha pins s σ H _ I h) fun c s1 H1 I1 q1 => ?_)
 cases c with
 | true => exact ⟨H1, I1, q1⟩
 | false => exact hb wh pins s1 σ H1 Q I1 q1
theorem XJ (ha : PT X a tA) : PT X (.UnaryOp .Not a pos) (Xc tA) := by
 intro pins s σ H Q I h
 exact isTrue_not (ha pins s σ H (fun c H1 => Q (!c) H1) I h)
def Mj (ta tb : TE) : TE := fun σ H Q => ta σ H fun x H1 => ∃ c, x = .bl c /\ if c = true then tb σ H1 Q else Q (.bl false) H1
def Xb (ta tb : TE) : TE := fun σ H Q => ta σ H fun x H1 => ∃ c, x = .bl c /\ if c = true then Q (.bl true) H1 else tb σ H1 Q
def Lx (ta : TE) : TE := fun σ H Q => ta σ H fun x H1 => ∃ c, x = .bl c /\ Q (.bl (!c)) H1
theorem Yh {op} {t : TE} (h : PE X a t) : PE X (.BoolOp op [a] pos) t := fun pins s σ H Q I hw => BoolOp_one (h pins s σ H Q I hw)
theorem Yn (ha : PE X a ta) (hb : PE X (.BoolOp .And (b :: rest) pos) tb) : PE X (.BoolOp .And (a :: b :: rest) pos) (Mj ta tb) := by
 intro pins s σ H Q I h
 refine BoolOp_and (thE (ha pins s σ H _ I h) fun v s1 x H1 I1 r1 q1 => ?_)
 obtain ⟨c, rfl, q1⟩ := q1
 cases r1
 refine wpAny_truthy_bool ?_
 cases c with
 | true => exact hb pins s1 σ H1 Q I1 q1
 | false => exact ⟨.bl false, H1, I1, rfl, q1⟩
theorem ZP (ha : PE X a ta) (hb : PE X (.BoolOp .Or (b :: rest) pos) tb) : PE X (.BoolOp .Or (a :: b :: rest) pos) (Xb ta tb) := by
 intro pins s σ H Q I h
 refine BoolOp_or (thE (ha pins s σ H _ I h) fun v s1 x H1 I1 r1 q1 => ?_)
 obtain ⟨c, rfl, q1⟩ := q1
 cases r1
 refine wpAny_truthy_bool ?_
 cases c with
 | false => exact hb pins s1 σ H1 Q I1 q1
 | true => exact ⟨.bl true, H1, I1, rfl, q1⟩
theorem Yi (ha : PE X a ta) : PE X (.UnaryOp .Not a pos) (Lx ta) := by
 intro pins s σ H Q I h
 refine UnaryOp_ (thE (ha pins s σ H _ I h) fun v s1 x H1 I1 r1 q1 => ?_)
 obtain ⟨c, rfl, q1⟩ := q1
 cases r1
 exact not_of (wpAny_truthy_bool ⟨.bl (!c), H1, I1, rfl, q1⟩)
def tIf (t : TT) (ta tb : TE) : TE := fun σ H Q => t σ H fun c H1 => if c = true then ta σ H1 Q else tb σ H1 Q
theorem OD {c : Expr} (hc : PT X c tA) (ha : PE X a ta) (hb : PE X b tb) : PE X (.IfExp c a b pos) (tIf tA ta tb) := by
 intro pins s σ H Q I h
 refine wpAny_IfExp (thT (hc pins s σ H _ I h) fun d s1 H1 I1 q1 => ?_)
 cases d with
 | true => exact ha pins s1 σ H1 Q I1 q1
 | false => exact hb pins s1 σ H1 Q I1 q1
end
def SqL (K : PySem.W.Frag) (H : Hp) (a : Addr) (xs : List V) : Prop :=
 Rd H a (.lst xs) \/
  ∃ (o : Obj) (its : Array Value) (n : Nat), K.lookup a = some o /\ o.cls = .type "list" /\ o.dict = none /\ o.data = .seq its n /\ its.size <= sizeLine /\ Vals xs its.toList
def SqT (K : PySem.W.Frag) (H : Hp) (a : Addr) (xs : List V) : Prop :=
 Rd H a (.tup xs) \/
  ∃ (o : Obj) (its : Array Value) (n : Nat), K.lookup a = some o /\ o.cls = .type "tuple" /\ o.data = .seq its n /\ its.size <= sizeLine /\ Vals xs its.toList
def aaK : Value -> Option V
 | .none => some .non
 | .bool b => some (.bl b)
 | .int i _ => some (.int i)
 | .str x _ => some (.str x)
 | .bytes b _ => some (.byt b)
 | .float b _ => some (.flt b)
 | .ref a => some (.ref a)
 | .type n => some (.ty n)
 | _ => none
theorem RelV.abs {x : V} {u : Value} (r : RelV x u) : aaK u = some x := by
 cases x with
 | non => cases r; rfl
 | bl _ => cases r; rfl
 | int _ => obtain ⟨t, rfl⟩ := r; rfl
 | str _ => obtain ⟨t, rfl⟩ := r; rfl
 | byt _ => obtain ⟨t, rfl⟩ := r; rfl
 | flt _ => obtain ⟨t, rfl⟩ := r; rfl
 | ref _ => cases r; rfl
 | ty _ => cases r; rfl
theorem RelV.inj {x y : V} {u : Value} (r : RelV x u) (q : RelV y u) : x = y := Option.some.inj (r.abs.symm.trans q.abs)
theorem Vals.inj : ∀ {xs ys : List V} {us : List Value}, Vals xs us -> Vals ys us -> xs = ys
 | _, _, _, .nil, .nil => rfl
 | _, _, _, .cons r t, .cons r' t' => by rw [r.inj r', Vals.inj t t']
section
variable {X : Cx} {pins : List (Addr × Obj)} {σ : St} {H : Hp} {s : Shared} {a : Addr} {xs ys : List V}
theorem SqL.of {K : PySem.W.Frag} (h : H a = some (.lst xs)) : SqL K H a xs := .inl (.inl h)
theorem SqT.of {K : PySem.W.Frag} (h : H a = some (.tup xs)) : SqT K H a xs := .inl (.inl h)
theorem Inv.list (I : Inv X pins σ H s) (h : SqL X.K H a xs) : ∃ its : List Value, Vals xs its /\ PlainL s.heap a its.toArray /\ xs.length <= sizeLine := by
 rcases h with h | ⟨o, its, n, hk, hc, hd, hs, hz, r⟩
 ·obtain ⟨z, its, n, r, e⟩ := h.ok I.hok
  exact ⟨its, r, ⟨_, n, e, rfl, rfl, rfl⟩, z⟩
 ·refine ⟨its.toList, r, ⟨o, n, I.kIn a o hk, hc, hd, by simpa using hs⟩, ?_⟩
  have e := r.length
  simp only [Array.length_toList] at e
  omega
theorem Inv.tuple (I : Inv X pins σ H s) (h : SqT X.K H a xs) : ∃ its : List Value, Vals xs its /\ IsTup s.heap a its.toArray /\ xs.length <= sizeLine := by
 rcases h with h | ⟨o, its, n, hk, hc, hs, hz, r⟩
 ·obtain ⟨z, its, r, p⟩ := h.ok I.hok
  exact ⟨its, r, p, z⟩
 ·refine ⟨its.toList, r, ⟨o, I.kIn a o hk, hc, n, by simpa using hs⟩, ?_⟩
  have e := r.length
  simp only [Array.length_toList] at e
  omega
theorem Inv.oU (I : Inv X pins σ H s) (h : SqL X.K H a xs) (h' : SqL X.K H a ys) : xs = ys := by
 obtain ⟨its, r, ⟨o, n, e, _, _, d⟩, _⟩ := I.list h
 obtain ⟨its', r', ⟨o', n', e', _, _, d'⟩, _⟩ := I.list h'
 rw [e] at e'; cases e'
 rw [d] at d'
 injection d' with d1 _
 have : its = its' := by simpa using congrArg Array.toList d1
 subst this
 exact r.inj r'
theorem Inv.tK (I : Inv X pins σ H s) (h : SqT X.K H a xs) (h' : SqT X.K H a ys) : xs = ys := by
 obtain ⟨its, r, ⟨o, e, _, n, d⟩, _⟩ := I.tuple h
 obtain ⟨its', r', ⟨o', e', _, n', d'⟩, _⟩ := I.tuple h'
 rw [e] at e'; cases e'
 rw [d] at d'
 injection d' with d1 _
 have : its = its' := by simpa using congrArg Array.toList d1
 subst this
 exact r.inj r'
end
abbrev Cx.wish (X : Cx) (E : Value -> Shared -> Prop) : Cx := { X with xe := E }
abbrev Cx.nox (X : Cx) : Cx := X.wish fun _ _ => False
theorem Cx.Ok.wish {X : Cx} (ok : X.Ok) (E : Value -> Shared -> Prop) : (X.wish E).Ok :=
 ⟨ok.mod, ok.kind, ok.glob, ok.blt, ok.above, ok.inj, ok.has, ok.cab, ok.hd, ok.frames, ok.stk, ok.exf, ok.bs, ok.bsz, ok.noex, ok.exfs, ok.pB, ok.frf⟩
theorem Cx.Ok.nO {X : Cx} {E : Value -> Shared -> Prop} (ok : (X.wish E).Ok) : X.Ok :=
 ⟨ok.mod, ok.kind, ok.glob, ok.blt, ok.above, ok.inj, ok.has, ok.cab, ok.hd, ok.frames, ok.stk, ok.exf, ok.bs, ok.bsz, ok.noex, ok.exfs, ok.pB, ok.frf⟩
section
variable {X : Cx} {pins : List (Addr × Obj)} {σ : St} {H : Hp} {s : Shared} {E : Value -> Shared -> Prop}
theorem Inv.wish (I : Inv X pins σ H s) (E : Value -> Shared -> Prop) : Inv (X.wish E) pins σ H s := ⟨I.ok.wish E, I.os, I.bare, I.base, I.loc, I.cell, I.free, I.freeC, I.pin, I.hok, I.len⟩
theorem Inv.nO (I : Inv (X.wish E) pins σ H s) : Inv X pins σ H s := ⟨I.ok.nO, I.os, I.bare, I.base, I.loc, I.cell, I.free, I.freeC, I.pin, I.hok, I.len⟩
theorem SP.nO {D : Ends} {f : Flow} {s' : Shared} (h : SP (X.wish E) pins D f s') : SP X pins D f s' := by
 cases f with
 | next => obtain ⟨σ', H', I, q⟩ := h; exact ⟨σ', H', I.nO, q⟩
 | brk => obtain ⟨σ', H', I, q⟩ := h; exact ⟨σ', H', I.nO, q⟩
 | cont => obtain ⟨σ', H', I, q⟩ := h; exact ⟨σ', H', I.nO, q⟩
 | ret u => obtain ⟨v, σ', H', I, r, q⟩ := h; exact ⟨v, σ', H', I.nO, r, q⟩
theorem PSs.nox {st : List Stmt} {t : TS} (h : PSs X.nox st t) : PSs X st t := fun pins s σ H D I hw =>
 wpAny_mono (h pins s σ H D (I.wish _) hw) (fun _ _ q => q.nO) fun _ _ z => False.elim z
end
section
variable {X : Cx} {st : Stmt} {rest : List Stmt} {t u : TS} {e : Expr} {te : TE} {pos : Pos}
def Ly : TS := fun D σ H => D.nx σ H
def Lr (t u : TS) : TS := fun D σ H => t { D with nx := u D } σ H
theorem Ue : PSs X [] Ly := fun _ _ σ H _ I h => wpAny_execs_nil ⟨σ, H, I, h⟩
theorem Ol (h1 : PS X st t) (h2 : PSs X rest u) : PSs X (st :: rest) (Lr t u) := by
 intro pins s σ H D I h
 refine wpAny_execs_cons (thn (h1 pins s σ H { D with nx := u D } I h) fun f s1 q => ?_)
 cases f with
 | next =>
  obtain ⟨σ', H', I', q⟩ := q
  exact h2 pins s1 σ' H' D I' q
 | ret v => exact q
 | brk => exact q
 | cont => exact q
theorem Ud (h1 : PS X st t) : PSs X [st] t := by
 intro pins s σ H D I h
 refine wpAny_execs_cons (thn (h1 pins s σ H D I h) fun f s1 q => ?_)
 cases f with
 | next => exact wpAny_execs_nil q
 | ret v => exact q
 | brk => exact q
 | cont => exact q
theorem Inv.quiet {pins : List (Addr × Obj)} {σ : St} {H : Hp} {s : Shared} (I : Inv X pins σ H s) : interactive X.env = false := by simp [interactive, I.ok.kind]
def Ma (te : TE) : TS := fun D σ H => te σ H fun _ H1 => D.nx σ H1
theorem Uj (he : PE X e te) (hs : swapsWith e none pos.line X.env = pure false := by rfl) : PS X (.Expr e pos) (Ma te) := by
 intro pins s σ H D I h
 exact wpAny_Expr_any (thE (he pins s σ H _ I h) fun v s1 x H1 I1 r1 q1 => ⟨σ, H1, I1, q1⟩) I.quiet hs
def Jz (te : TE) : TS := fun D σ H => te σ H D.rt
theorem XS (he : PE X e te) : PS X (.Return (some e) pos) (Jz te) := by
 intro pins s σ H D I h
 exact wpAny_Return_some (thE (he pins s σ H _ I h) fun v s1 x H1 I1 r1 q1 => ⟨x, σ, H1, I1, r1, q1⟩)
def Xe (c : TT) (t u : TS) : TS := fun D σ H => c σ H fun b H1 => if b = true then t D σ H1 else u D σ H1
theorem ZJ {c : Expr} {a b : List Stmt} {tc : TT} (hc : PT X c tc) (ha : PSs X a t) (hb : PSs X b u) : PS X (.If c a b pos) (Xe tc t u) := by
 intro pins s σ H D I h
 refine wpAny_If (thT (hc pins s σ H _ I h) fun d s1 H1 I1 q1 => ?_)
 cases d with
 | true => exact ha pins s1 σ H1 D I1 q1
 | false => exact hb pins s1 σ H1 D I1 q1
end
abbrev TG := V -> St -> Hp -> (St -> Hp -> Prop) -> Prop
abbrev TGs := List V -> St -> Hp -> (St -> Hp -> Prop) -> Prop
def PG (X : Cx) (target : Expr) (t : TG) : Prop :=
 ∀ (pins : List (Addr × Obj)) (s : Shared) (σ : St) (H : Hp) (v : V) (u : Value) (Q : St -> Hp -> Prop), Inv X pins σ H s -> RelV v u -> t v σ H Q ->
  wpAny (model X.prog X.w) X.A (assign target X.env u) (fun _ s' => ∃ σ' H', Inv X pins σ' H' s' /\ Q σ' H') X.xe s
def PGs (X : Cx) (ts : List Expr) (t : TGs) : Prop :=
 ∀ (pins : List (Addr × Obj)) (s : Shared) (σ : St) (H : Hp) (vs : List V) (us : List Value) (Q : St -> Hp -> Prop), Inv X pins σ H s -> Vals vs us -> t vs σ H Q ->
  wpAny (model X.prog X.w) X.A (assignInOrder ((assignEach ts X.env).map (·.2)) us) (fun _ s' => ∃ σ' H', Inv X pins σ' H' s' /\ Q σ' H') X.xe s
abbrev RT := V -> V -> V -> Hp -> (Hp -> Prop) -> Prop
def RW (X : Cx) (t : RT) : Prop :=
 ∀ (pins : List (Addr × Obj)) (s : Shared) (σ : St) (H : Hp) (o i v : V) (ov iv u : Value) (Q : Hp -> Prop), Inv X pins σ H s -> RelV o ov -> RelV i iv -> RelV v u -> t o i v H Q ->
  wpAny (model X.prog X.w) X.A (setItem ov iv u) (fun _ s' => ∃ H', Inv X pins σ H' s' /\ Q H') X.xe s
section
variable {X : Cx} {pos : Pos}
def kJ (i : Nat) : TG := fun v σ H Q => Q (σ.set i (some v)) H
theorem Ib {i : Nat} {x : Str} (hN : X.N.Nodup) (hi : X.N[i]? = some x) (hx : Loc X.env.scope x) (hf : X.fn x = true \/ X.env.scope.names.lookup x = some .local := by first | exact .inl rfl | exact .inr rfl | assumption) : PG X (.Name x pos) (kJ i) := by
 intro pins s σ H v u Q I r h
 exact wpAny_assign_Name (jk I hN hi hx r (fun s' I' => ⟨_, H, I', h⟩) hf)
def Y8 : TGs := fun vs σ H Q => vs = [] /\ Q σ H
def Rb (t : TG) (u : TGs) : TGs := fun vs σ H Q => ∃ v r, vs = v :: r /\ t v σ H fun σ' H' => u r σ' H' Q
theorem Ut : PGs X [] Y8 := by
 intro pins s σ H vs us Q I r h
 obtain ⟨e, h⟩ := h
 subst e
 cases r
 exact assignInOrder_nil ⟨σ, H, I, h⟩
theorem Ou {e : Expr} {es : List Expr} {t : TG} {u : TGs} (h1 : PG X e t) (h2 : PGs X es u)
  (hs : (assignEach (e :: es) X.env).map (·.2) = assign e X.env :: (assignEach es X.env).map (·.2) := by rfl) : PGs X (e :: es) (Rb t u) := by
 intro pins s σ H vs us Q I r h
 obtain ⟨v, vr, e1, h⟩ := h
 subst e1
 cases r with
 | cons r rr =>
  rw [hs]
  refine assignInOrder_cons (thn (h1 pins s σ H _ _ _ I r h) fun _ s1 ⟨σ1, H1, I1, q1⟩ => ?_)
  exact h2 pins s1 σ1 H1 _ _ Q I1 rr q1
def aaH (K : PySem.W.Frag) (n : Nat) (t : TGs) : TG := fun v σ H Q => ∃ a xs, v = .ref a /\ SqT K H a xs /\ xs.length = n /\ t xs σ H Q
theorem Ov {es : List Expr} {k : Nat} {t : TGs} {n : Nat} (hc : X.calm = true) (h : PGs X es t)
  (hn : (assignEach es X.env).length = n := by rfl) (hst : (assignEach es X.env).findIdx? (·.1) = none := by rfl) : PG X (.Tuple es k pos) (aaH X.K n t) := by
 intro pins s σ H v u Q I r hw
 obtain ⟨a, xs, e1, hq, hl, hw⟩ := hw
 subst e1
 cases r
 obtain ⟨its, rv, ht, hz⟩ := I.tuple hq
 refine assign_Tuple_tuple (I.ok.hd hc) ht (by simp [hn, <- hl, rv.length]) hst fun h' hx => ?_
 have I1 : Inv X pins σ H { s with heap := h' } := I.kept (t' := s.toks) fun b o e => hx b o (Nat.ne_of_lt (Heap.lt_size e)) e
 exact h pins _ σ H xs _ Q I1 (by simpa using rv) hw
def V3 (to ti : TE) (t : RT) : TG := fun v σ H Q => to σ H fun o H1 => ti σ H1 fun i H2 => t o i v H2 fun H3 => Q σ H3
theorem Ow {o i : Expr} {to ti : TE} {t : RT} (ho : PE X o to) (hi : PE X i ti) (hs : RW X t)
  (ha : ∀ v, assign (.Subscript o i pos) X.env v = (do
   let ov <- holding [v] (eval o X.env)
   let iv <- holding [v, ov] (eval i X.env)
   standAt pos
   holding [v, ov, iv] (setItem ov iv v)
   release [v, ov, iv] []) := by intro _; rfl) : PG X (.Subscript o i pos) (V3 to ti t) := by
 intro pins s σ H v u Q I r h
 rw [ha]
 refine wpAny_bind (wpAny_holding (thE (ho pins s σ H _ I h) fun ov s1 x H1 I1 r1 q1 => ?_))
 refine wpAny_bind (wpAny_holding (thE (hi pins s1 σ H1 _ I1 q1) fun iv s2 y H2 I2 r2 q2 => ?_))
 refine wpAny_bind (wpAny_standAt (wpAny_bind (wpAny_holding (thn (hs pins s2 σ H2 x y v ov iv u _ I2 r1 r2 r q2) fun _ s3 ⟨H3, I3, q3⟩ => ?_))))
 exact wpAny_release ⟨σ, H3, I3, q3⟩
def yc (te : TE) (g : TG) : TS := fun D σ H => te σ H fun x H1 => g x σ H1 D.nx
theorem X5 {tg e : Expr} {te : TE} {g : TG} (he : PE X e te) (hg : PG X tg g) (hs : swapsWithSole [tg] e pos.line X.env = pure false := by rfl) (hw : swappedStores [tg] e X.env = pure none := by rfl)
  (h1 : (assignEach [tg] X.env).map (·.2) = [assign tg X.env] := by rfl) : PS X (.Assign [tg] e pos) (yc te g) := by
 intro pins s σ H D I h
 refine wpAny_Assign_stores (thE (he pins s σ H _ I h) fun v s1 x H1 I1 r1 q1 => ?_) hs hw
 rw [h1]
 exact thn (hg pins s1 σ H1 x v _ I1 r1 q1) fun _ s2 q => q
theorem XQ {i : Nat} {x : Str} {e : Expr} {te : TE} {pos' : Pos} (hN : X.N.Nodup) (hi : X.N[i]? = some x) (hx : Loc X.env.scope x) (he : PE X e te) (hs : swapsWith e (some (.Name x pos')) pos.line X.env = pure false := by rfl) (hf : X.fn x = true \/ X.env.scope.names.lookup x = some .local := by first | exact .inl rfl | exact .inr rfl | assumption) :
  PS X (.Assign [.Name x pos'] e pos) (yc te (kJ i)) := by
 intro pins s σ H D I h
 refine wpAny_Assign_Name (thE (he pins s σ H _ I h) fun v s1 y H1 I1 r1 q1 => ?_) hs
 exact jk I1 hN hi hx r1 (fun s2 I2 => ⟨_, H1, I2, q1⟩) hf
def Xa (i j : Nat) (ta : TA) : TS := fun D σ H => ta σ H fun vs H1 => ∃ v w, vs = [v, w] /\ D.nx ((σ.set i (some v)).set j (some w)) H1
theorem X3 {i j : Nat} {x y : Str} {a b : Expr} {ta : TA} {px py pt : Pos} {kt k2 pt2} (hc : X.calm = true) (hN : X.N.Nodup) (hi : X.N[i]? = some x) (hj : X.N[j]? = some y) (hij : i ≠ j)
  (hx : X.env.scope.names.lookup x = some .local) (hy : X.env.scope.names.lookup y = some .local) (ha : PA X [a, b] ta)
  (hw : swappedStores [.Tuple [.Name x px, .Name y py] kt pt] (.Tuple [a, b] k2 pt2) X.env = pure (some [x, y]))
  (hs : swapsWithSole [.Tuple [.Name x px, .Name y py] kt pt] (.Tuple [a, b] k2 pt2) pos.line X.env = pure false := by rfl) :
  PS X (.Assign [.Tuple [.Name x px, .Name y py] kt pt] (.Tuple [a, b] k2 pt2) pos) (Xa i j ta) := by
 intro pins s σ H D I h
 rw [exec_Assign_arm]
 refine wpAny_bind (wpAny_standAt ?_)
 rw [hs]
 refine wpAny_bind (wpAny_pure ?_)
 rw [if_neg (by decide)]
 refine wpAny_bind (Tuple_ (thA (ha _ pins s σ H _ I h) fun us s1 vs H1 I1 r1 q1 => ?_))
 obtain ⟨v, w, e1, q1⟩ := q1
 subst e1
 obtain ⟨u1, u2, rfl, rv, rw'⟩ : ∃ u1 u2, us = [u1, u2] /\ RelV v u1 /\ RelV w u2 := by
  cases r1 with
  | cons p q =>
   cases q with
   | cons p' q' =>
    cases q'
    exact ⟨_, _, rfl, p, p'⟩
 refine wpAny_newObj_type ?_ (by show 2 <= sizeLine; decide)
 have I2 : Inv X pins σ H1 { s1 with heap := s1.heap.push { cls := .type "tuple", data := .seq [u1, u2].toArray } } := I1.kept (t' := s1.toks) fun b o e => Heap.get?_push_of_some _ e
 rw [hw]
 refine wpAny_bind (wpAny_pure ?_)
 show wpAny (model X.prog X.w) X.A (do rule "assign.swapped-stores"; let items <- unpackItems (.ref s1.heap.objs.size) 2 none; assignInOrder [fun v => bindName X.env y v, fun v => bindName X.env x v] items.reverse; pure Flow.next) _ _ _
 refine wpAny_bind (wpAny_rule (wpAny_bind (unpackItems_tuple (items := #[u1, u2]) (I.ok.hd hc) (IsTup.new s1.heap _) fun h' hx' => ?_)))
 have I3 := I2.kept (h' := h') (t' := s1.toks) fun b o e => hx' b o (Nat.ne_of_lt (Heap.lt_size e)) e
 show wpAny _ _ (assignInOrder [fun v => bindName X.env y v, fun v => bindName X.env x v] [u2, u1] >>= fun _ => pure Flow.next) _ _ _
 refine wpAny_bind (assignInOrder_cons (wpAny_bindName (jk I3 hN hj (.inl hy) rw' (fun s2 I4 => ?_) (.inr hy))))
 refine assignInOrder_cons (wpAny_bindName (jk I4 hN hi (.inl hx) rv (fun s3 I5 => assignInOrder_nil (wpAny_pure ?_)) (.inr hx)))
 rw [List.set_comm _ _ (Ne.symm hij)] at I5
 exact ⟨_, H1, I5, q1⟩
end
structure It where
 go : Nat -> Hp -> Prop
 yld : Nat -> Hp -> V -> Hp -> Prop
 stop : Nat -> Hp -> Prop
def tH (X : Cx) (pins : List (Addr × Obj)) (H : Hp) (b : Addr) : Prop :=
 H b = none /\ b ≠ X.env.locals /\ b ∉ X.fs /\ (b ∈ X.ex \/ X.s₀.heap.objs.size <= b) /\ (∀ x c, X.env.cells.lookup x = some c -> c ≠ b) /\ ∀ p ∈ X.pn ++ pins, p.1 ≠ b
theorem Inv.GJ {X : Cx} {pins : List (Addr × Obj)} {σ : St} {H H' : Hp} {s : Shared} {b : Addr} (I : Inv X pins σ H s) (hb : s.heap.objs.size <= b) (hn : H' b = none) : tH X pins H' b := by
 refine ⟨hn, Nat.ne_of_gt (Nat.lt_of_lt_of_le I.lt hb), I.Yz hb, .inr (Nat.le_trans I.sz hb), fun x c e z => ?_, fun p hp z => ?_⟩
 ·obtain ⟨v, q⟩ := I.cell x c e
  exact absurd (Nat.lt_of_lt_of_le q.lt (by rw [z]; exact hb)) (Nat.lt_irrefl _)
 ·exact absurd (Nat.lt_of_lt_of_le (Heap.lt_size (I.pin p hp).1) (by rw [z]; exact hb)) (Nat.lt_irrefl _)
structure Turn (P : Program) (w : World) (K : PySem.W.Frag) (tg : Expr) (J : It) (fp : List Addr) (it : Addr) (tn : Nat -> Heap -> Prop) : Prop where
 mem : it ∈ fp
 obj : ∀ i h, tn i h -> ∀ b ∈ fp, ∃ o, h.get? b = some o /\ ∀ v, o.data ≠ .cell v
 keep : ∀ i h h', tn i h -> (∀ b ∈ fp, ∀ o, h.get? b = some o -> h'.get? b = some o) -> tn i h'
 item : ∀ (X : Cx), X.prog = P -> X.w = w -> X.K = K -> X.calm = true -> ∀ (i : Nat) (pins : List (Addr × Obj)) (s : Shared) (σ : St) (H : Hp) (E : Value -> Shared -> Prop), Inv X pins σ H s -> (∀ b ∈ fp, tH X pins H b) -> tn i s.heap -> J.go i H ->
  wpAny (model P w) X.A (pyNext (.ref it)) (fun r s1 => ∃ u, r = some u /\
   wpAny (model P w) X.A (letOwnedTupleGo tg (.ref it) u) (fun _ s2 => ∃ x H', Inv X pins σ H' s2 /\ RelV x u /\ J.yld i H x H' /\ tn (i + 1) s2.heap /\ ∀ b ∈ fp, H' b = none) E s1) E s
 done : ∀ (X : Cx), X.prog = P -> X.w = w -> X.K = K -> X.calm = true -> ∀ (i : Nat) (pins : List (Addr × Obj)) (s : Shared) (σ : St) (H : Hp) (E : Value -> Shared -> Prop), Inv X pins σ H s -> (∀ b ∈ fp, tH X pins H b) -> tn i s.heap -> J.stop i H ->
  wpAny (model P w) X.A (pyNext (.ref it)) (fun r s1 => r = none /\ Inv X pins σ H s1) E s
 self : ∀ (A : Around) (i : Nat) (s : Shared) (Q : Value -> Shared -> Prop) (E : Value -> Shared -> Prop), tn i s.heap -> Q (.ref it) s -> wpAny (model P w) A (pyIter (.ref it)) Q E s
abbrev TI := St -> Hp -> (It -> Hp -> Prop) -> Prop
def PIE (X : Cx) (pins : List (Addr × Obj)) (σ : St) (tg : Expr) (R : It -> Hp -> Prop) (itv : Value) (s2 : Shared) : Prop :=
 ∃ (it : Addr) (fp : List Addr) (tn : Nat -> Heap -> Prop) (J : It) (H' : Hp), itv = .ref it /\ Inv X pins σ H' s2 /\ Turn X.prog X.w X.K tg J fp it tn /\ tn 0 s2.heap /\ (∀ b ∈ fp, tH X pins H' b) /\ R J H'
def PI (X : Cx) (tg iter : Expr) (wi : TI) : Prop :=
 ∀ (pins : List (Addr × Obj)) (s : Shared) (σ : St) (H : Hp) (R : It -> Hp -> Prop), Inv X pins σ H s -> wi σ H R ->
  wpAny (model X.prog X.w) X.A (eval iter X.env) (fun v s1 => wpAny (model X.prog X.w) X.A (pyIter v) (PIE X pins σ tg R) X.xe s1) X.xe s
theorem IW {M : Model} {A : Around} {E : Value -> Shared -> Prop} {s : Shared} {tg : Expr} {it : Addr} {u : Value} {o : Obj} {n : String} {vs : Array Value} {Q : Unit -> Shared -> Prop} (ho : s.heap.get? it = some o) (hc : o.cls = .type n) (hd : o.data = .fields vs)
  (hn : ["enumerate", "zip", "dict_itemiterator", "dict_reverseitemiterator", "odict_iterator", "itertools.zip_longest", "itertools.pairwise"].contains n = false) (hQ : Q () s) : wpAny M A (letOwnedTupleGo tg (.ref it) u) Q E s := by
 unfold letOwnedTupleGo
 cases tg <;> first
  | exact wpAny_pure hQ
  | (cases u <;> first
    | exact wpAny_pure hQ
    | (refine wpAny_bind (wpAny_load ho ?_)
       rw [hc, hd]
       show wpAny M A (if (["enumerate", "zip", "dict_itemiterator", "dict_reverseitemiterator", "odict_iterator", "itertools.zip_longest", "itertools.pairwise"].contains n && vs[0]? == some (rawInt _)) = true then _ else _) Q E s
       rw [if_neg (by intro h; rw [hn, Bool.false_and] at h; cases h)]
       exact wpAny_pure hQ))
def Itl (K : PySem.W.Frag) (a : Addr) : It :=
 ⟨fun i H => ∃ xs x, SqL K H a xs /\ xs[i]? = some x, fun i H x H' => H' = H /\ ∀ xs, SqL K H a xs -> xs[i]? = some x, fun i H => ∃ xs, SqL K H a xs /\ xs.length <= i⟩
def Itt (K : PySem.W.Frag) (a : Addr) : It :=
 ⟨fun i H => ∃ xs x, SqT K H a xs /\ xs[i]? = some x, fun i H x H' => H' = H /\ ∀ xs, SqT K H a xs -> xs[i]? = some x, fun i H => ∃ xs, SqT K H a xs /\ xs.length <= i⟩
def Itr (lo : Int) (n : Nat) : It := ⟨fun i _ => i < n, fun i H x H' => H' = H /\ x = .int (lo + i), fun i _ => n <= i⟩
theorem Ju {P : Program} {w : World} {K : PySem.W.Frag} {tg : Expr} (a it : Addr) : Turn P w K tg (Itl K a) [it] it (fun i h => h.IsListIter it a i) where
 mem := by simp
 obj := fun i h st b hb => by
  have e : b = it := by simpa using hb
  subst e
  obtain ⟨o, e, c, d⟩ := st
  exact ⟨o, e, fun v z => by rw [d] at z; cases z⟩
 keep := fun i h h' st k => st.at fun o e => k it (by simp) o e
 item := by
  intro X hP hw hK hc i pins s σ H E I hf st hg
  subst hP hw hK
  obtain ⟨xs, x, hq, hx⟩ := hg
  obtain ⟨its, rv, p, hz⟩ := I.list hq
  obtain ⟨u, hu, ru⟩ := rv.get hx
  obtain ⟨f0, f1, f2, f3, f4, f5⟩ := hf it (by simp)
  refine wpAny_pyNext_list_item st p.isList (x := u) (by simpa using hu) fun h' st' sb => ?_
  have I1 : Inv X pins σ H { s with heap := h' } := I.turned (t' := s.toks) (fun b o hb e => (sb.2 b hb).trans e) f0 f1 f3 f4 f5
  obtain ⟨o, e, c, d⟩ := id st'
  exact ⟨u, rfl, IW (s := { s with heap := h' }) e c d (by decide) ⟨x, H, I1, ru, ⟨rfl, fun ys hy => by rw [I.oU hy hq]; exact hx⟩, st', fun b hb => (hf b hb).1⟩⟩
 done := by
  intro X hP hw hK hc i pins s σ H E I hf st hg
  subst hP hw hK
  obtain ⟨xs, hq, hx⟩ := hg
  obtain ⟨its, rv, p, hz⟩ := I.list hq
  obtain ⟨f0, f1, f2, f3, f4, f5⟩ := hf it (by simp)
  have hl := rv.length
  exact wpAny_pyNext_list_end (I.ok.hd hc) st p.isList (by simp; omega) fun h' eb => ⟨rfl, I.turned (t' := s.toks) (fun b o hb e => eb b o hb e) f0 f1 f3 f4 f5⟩
 self := fun _ _ _ _ _ st h => wpAny_pyIter_listiter st h
theorem Er {P : Program} {w : World} {K : PySem.W.Frag} {tg : Expr} (a it : Addr) : Turn P w K tg (Itt K a) [it] it (fun i h => h.IsTupleIter it a i) where
 mem := by simp
 obj := fun i h st b hb => by
  have e : b = it := by simpa using hb
  subst e
  obtain ⟨o, e, c, d⟩ := st
  exact ⟨o, e, fun v z => by rw [d] at z; cases z⟩
 keep := fun i h h' st k => st.at fun o e => k it (by simp) o e
 item := by
  intro X hP hw hK hc i pins s σ H E I hf st hg
  subst hP hw hK
  obtain ⟨xs, x, hq, hx⟩ := hg
  obtain ⟨its, rv, p, hz⟩ := I.tuple hq
  obtain ⟨u, hu, ru⟩ := rv.get hx
  obtain ⟨f0, f1, f2, f3, f4, f5⟩ := hf it (by simp)
  refine wpAny_pyNext_tuple_item st (show s.heap.IsTuple a its.toArray from p) (x := u) (by simpa using hu) fun h' st' sb => ?_
  have I1 : Inv X pins σ H { s with heap := h' } := I.turned (t' := s.toks) (fun b o hb e => (sb.2 b hb).trans e) f0 f1 f3 f4 f5
  obtain ⟨o, e, c, d⟩ := id st'
  exact ⟨u, rfl, IW (s := { s with heap := h' }) e c d (by decide) ⟨x, H, I1, ru, ⟨rfl, fun ys hy => by rw [I.tK hy hq]; exact hx⟩, st', fun b hb => (hf b hb).1⟩⟩
 done := by
  intro X hP hw hK hc i pins s σ H E I hf st hg
  subst hP hw hK
  obtain ⟨xs, hq, hx⟩ := hg
  obtain ⟨its, rv, p, hz⟩ := I.tuple hq
  obtain ⟨f0, f1, f2, f3, f4, f5⟩ := hf it (by simp)
  have hl := rv.length
  exact wpAny_pyNext_tuple_end (I.ok.hd hc) st (show s.heap.IsTuple a its.toArray from p) (by simp; omega) fun h' eb => ⟨rfl, I.turned (t' := s.toks) (fun b o hb e => eb b o hb e) f0 f1 f3 f4 f5⟩
 self := fun _ _ _ _ _ st h => wpAny_pyIter_tupleiter st h
theorem Es {P : Program} {w : World} {K : PySem.W.Frag} {tg : Expr} (it : Addr) (lo : Int) (n : Nat) : Turn P w K tg (Itr lo n) [it] it (fun i h => IsRangeIter h it (lo + (i : Nat) * 1) ((n : Int) - (i : Nat)) 1) where
 mem := by simp
 obj := fun i h st b hb => by
  have e : b = it := by simpa using hb
  subst e
  exact ⟨_, st, fun v z => by
   have z' : Data.fields _ = Data.cell v := z
   cases z'⟩
 keep := fun i h h' st k => k it (by simp) _ st
 item := by
  intro X hP hw hK hc i pins s σ H E I hf st hg
  subst hP hw hK
  obtain ⟨f0, f1, f2, f3, f4, f5⟩ := hf it (by simp)
  have W := Walks.range (prog := X.prog) (w := X.w) (I.ok.hd hc) it lo 1 n
  refine W.item i s _ _ hg st fun v h' tk hv st' kk => ?_
  obtain ⟨t, rfl⟩ := hv
  have I1 : Inv X pins σ H { s with heap := h', toks := tk } := I.turned (fun b o hb e => kk b o (by simpa using hb) e) f0 f1 f3 f4 f5
  refine ⟨_, rfl, IW (s := { s with heap := h', toks := tk }) (n := "range_iterator") st' rfl rfl (by decide) ⟨.int (lo + i), H, I1, ⟨t, ?_⟩, ⟨rfl, rfl⟩, st', fun b hb => (hf b hb).1⟩⟩
  rw [Int.mul_one]
 done := by
  intro X hP hw hK hc i pins s σ H E I hf st hg
  subst hP hw hK
  obtain ⟨f0, f1, f2, f3, f4, f5⟩ := hf it (by simp)
  exact wpAny_pyNext_range_end (I.ok.hd hc) st (by have : n <= i := hg; omega) fun h' eb => ⟨rfl, I.turned (t' := s.toks) (fun b o hb e => eb b o hb e) f0 f1 f3 f4 f5⟩
 self := fun _ _ _ _ _ st h => wpAny_pyIter_rangeiter st h
section
variable {X : Cx} {tg : Expr}
theorem Nb {pins : List (Addr × Obj)} {σ : St} {H : Hp} {s : Shared} {R : It -> Hp -> Prop} {E : Value -> Shared -> Prop} {lo hi : Int} {t u v : Tok} {tk : Nat} (I : Inv X pins σ H s) (h1 : -(2 ^ 62) <= lo) (h2 : lo < 2 ^ 62) (h3 : -(2 ^ 62) <= hi) (h4 : hi < 2 ^ 62)
  (q : R (Itr lo (hi - lo).toNat) H) : wpAny (model X.prog X.w) X.A (pyIter (.ref s.heap.objs.size)) (PIE X pins σ tg R) E { s with heap := s.heap.push { cls := .type "range", data := .fields #[.int lo t, .int hi u, .int 1 v] }, toks := tk } := by
 refine wpAny_pyIter_range (IsRange.new ..) (small_one h1 h2 h3 h4) ?_
 have I1 : Inv X pins σ H { s with heap := s.heap.push { cls := .type "range", data := .fields #[.int lo t, .int hi u, .int 1 v] }, toks := tk } := I.kept fun b o e => Heap.get?_push_of_some _ e
 refine ⟨(s.heap.push { cls := .type "range", data := .fields #[.int lo t, .int hi u, .int 1 v] }).objs.size, [(s.heap.push { cls := .type "range", data := .fields #[.int lo t, .int hi u, .int 1 v] }).objs.size], _, _, H, rfl,
  I1.kept (t' := tk) fun b o e => Heap.get?_push_of_some _ e, Es _ lo (hi - lo).toNat, ?_, fun b hb => ?_, q⟩
 ·have e1 : lo + ((0 : Nat) : Int) * 1 = lo := by simp
  have e2 : (((hi - lo).toNat : Nat) : Int) - ((0 : Nat) : Int) = Builtin.Range.rangeSize lo hi 1 := by rw [rangeSize_one]; split <;> omega
  show IsRangeIter _ _ (lo + ((0 : Nat) : Int) * 1) ((((hi - lo).toNat : Nat) : Int) - ((0 : Nat) : Int)) 1
  rw [e1, e2]
  exact Heap.get?_push_size _ rfl
 ·have e : b = (s.heap.push { cls := .type "range", data := .fields #[.int lo t, .int hi u, .int 1 v] }).objs.size := by simpa using hb
  subst e
  exact I1.GJ (Nat.le_refl _) (I1.hok.fresh (Nat.le_refl _))
def wW (ta : TA) : TI := fun σ H R => ta σ H fun vs H1 => ∃ j : Int, vs = [.int j] /\ -(2 ^ 62) <= j /\ j < 2 ^ 62 /\ R (Itr 0 j.toNat) H1
theorem JW {a : Expr} {ta : TA} {p pos : Pos} (hg : Gl X "range") (hm : X.mg "range" = none) (ha : PA X [a] ta) (hs : starEach [a] X.env = [(false, eval a X.env)] := by rfl) : PI X tg (.Call (.Name "range" p) [a] [] pos) (wW ta) := by
 intro pins s σ H R I h
 refine Call_ (qL I hg hm boot_range (PyProof.Rows.callWith_type1 (thA (ha pos pins s σ H _ I h) fun us s1 vs H1 I1 r1 q1 => ?_) hs rfl))
 obtain ⟨j, e, q1, q2, q⟩ := q1
 subst e
 cases r1 with
 | cons r rr =>
  cases rr
  obtain ⟨t, rfl⟩ := r
  exact call_range_1 (Nb I1 (by omega) (by omega) q1 q2 (by simpa using q))
def R9 (wi : TI) (g : TG) (tb : TS) : TS := fun D σ H => wi σ H fun J H1 => ∃ W : Nat -> Nat -> St -> Hp -> Prop, (∃ m, W 0 m σ H1) /\ ∀ i m σ H, W i m σ H ->
 (J.stop i H /\ D.nx σ H) \/ (J.go i H /\ ∃ N : St -> Hp -> Prop, (∀ σ' H', N σ' H' -> ∃ m', m' < m /\ W (i + 1) m' σ' H') /\ ∀ x H', J.yld i H x H' -> g x σ H' fun σ2 H2 => tb { D with nx := N, ct := N, bk := D.nx } σ2 H2)
def kZ (fp : List Addr) (h : Heap) : List (Addr × Obj) := fp.filterMap fun b => (h.get? b).map fun o => (b, o)
theorem mZ {fp : List Addr} {h : Heap} {b : Addr} {o : Obj} (hb : b ∈ fp) (e : h.get? b = some o) : (b, o) ∈ kZ fp h := List.mem_filterMap.mpr ⟨b, hb, by rw [e]; rfl⟩
theorem tW {fp : List Addr} {h : Heap} {p : Addr × Obj} (hp : p ∈ kZ fp h) : p.1 ∈ fp /\ h.get? p.1 = some p.2 := by
 obtain ⟨b, hb, e⟩ := List.mem_filterMap.mp hp
 cases q : h.get? b with
 | none => rw [q] at e; cases e
 | some o =>
  rw [q] at e
  have e' : (b, o) = p := Option.some.inj e
  subst e'
  exact ⟨hb, q⟩
theorem Inv.pinned {pins : List (Addr × Obj)} {σ : St} {H : Hp} {s : Shared} {fp : List Addr} (I : Inv X pins σ H s) (hf : ∀ b ∈ fp, tH X pins H b) (ho : ∀ b ∈ fp, ∃ o, s.heap.get? b = some o /\ ∀ v, o.data ≠ .cell v) : Inv X (pins ++ kZ fp s.heap) σ H s :=
 I.pU fun p hp => (List.mem_append.mp hp).elim (fun z => I.pin p (List.mem_append_right _ z)) fun z => by
  obtain ⟨hb, e⟩ := tW z
  obtain ⟨f0, f1, f2, _⟩ := hf p.1 hb
  obtain ⟨o, e', d⟩ := ho p.1 hb
  rw [e] at e'; cases e'
  exact ⟨e, f0, f1, f2, d⟩
theorem Inv.nP {pins pl : List (Addr × Obj)} {σ : St} {H : Hp} {s : Shared} (I : Inv X (pins ++ pl) σ H s) : Inv X pins σ H s := I.pU fun p hp => I.pin p (List.mem_append_right _ (List.mem_append_left _ hp))
theorem X4 {iter : Expr} {body : List Stmt} {wi : TI} {g : TG} {tb : TS} {pos : Pos} (hp : PassesOwn (model X.prog X.w) X.A X.env X.xe) (hc : X.calm = true) (hi : PI X tg iter wi) (hg : PG X tg g) (hb : PSs X body tb)
  (hs : ∀ x, foldedSetIterable iter X.env x = pure x := by intro _; rfl) : PS X (.For tg iter body [] pos) (R9 wi g tb) := by
 intro pins s σ H D I h
 refine wpAny_For (thn (hi pins s σ H _ I h) fun v s1 h1 => thn h1 fun itv s2 h2 => ?_) hs
 obtain ⟨it, fp, tn, J, H2, e, I2, T, st2, f2, W, ⟨m0, w0⟩, turn⟩ := h2
 subst e
 -- what stays true of the iterator's objects through the loop
 have stat : ∀ {H' : Hp}, (∀ b ∈ fp, H' b = none) -> ∀ b ∈ fp, tH X pins H' b := fun hn b hb => ⟨hn b hb, (f2 b hb).2⟩
 refine codeAny_forLoop_any (fun n s' => ∃ i σ' H', Inv X pins σ' H' s' /\ tn i s'.heap /\ (∀ b ∈ fp, H' b = none) /\ W i n σ' H') ?_ m0 ⟨0, σ, H2, I2, st2, fun b hb => (f2 b hb).1, w0⟩
 rintro n s3 ⟨i, σ3, H3, I3, st3, fr3, w3⟩
 rcases turn i n σ3 H3 w3 with ⟨stop, qn⟩ | ⟨go, N, hN, step⟩
 ·refine wpAny_passesOwn hp (thn (T.done X rfl rfl rfl hc i pins s3 σ3 H3 X.xe I3 (stat fr3) st3 stop) fun r s4 ⟨hr, I4⟩ => ?_)
  subst hr
  exact wpAny_execs_nil ⟨σ3, H3, I4, qn⟩
 ·refine wpAny_passesOwn hp (thn (T.item X rfl rfl rfl hc i pins s3 σ3 H3 X.xe I3 (stat fr3) st3 go) fun r s4 ⟨u, hr, h4⟩ => ?_)
  subst hr
  refine wpAny_passesOwn hp (thn h4 fun _ s5 ⟨x, H5, I5, r5, y5, st5, fr5⟩ => ?_)
  have I5' := I5.pinned (stat fr5) (T.obj _ _ st5)
  refine wpAny_passesOwn hp (thn (hg _ s5 σ3 H5 x u _ I5' r5 (step x H5 y5)) fun _ s6 ⟨σ6, H6, I6, q6⟩ => ?_)
  refine wpAny_passesOwn hp (thn (hb _ s6 σ6 H6 _ I6 q6) fun f s7 q7 => ?_)
  have again : ∀ {σ7 : St} {H7 : Hp}, Inv X (pins ++ kZ fp s5.heap) σ7 H7 s7 -> N σ7 H7 -> ∃ m, m < n /\ ∃ i σ' H', Inv X pins σ' H' s7 /\ tn i s7.heap /\ (∀ b ∈ fp, H' b = none) /\ W i m σ' H' := fun {σ7 H7} I7 n7 => by
   obtain ⟨m', hm, w7⟩ := hN σ7 H7 n7
   refine ⟨m', hm, i + 1, σ7, H7, I7.nP, T.keep _ _ _ st5 fun b hb o e => (I7.pin (b, o) (List.mem_append_right _ (List.mem_append_right _ (mZ hb e)))).1, fun b hb => ?_, w7⟩
   obtain ⟨o, e, d⟩ := T.obj _ _ st5 b hb
   exact (I7.pin (b, o) (List.mem_append_right _ (List.mem_append_right _ (mZ hb e)))).2.1
  cases f with
  | next => obtain ⟨σ7, H7, I7, n7⟩ := q7; exact again I7 n7
  | cont => obtain ⟨σ7, H7, I7, n7⟩ := q7; exact again I7 n7
  | brk => obtain ⟨σ7, H7, I7, q7⟩ := q7; exact ⟨σ7, H7, I7.nP, q7⟩
  | ret v => obtain ⟨x7, σ7, H7, I7, r7, q7⟩ := q7; exact ⟨x7, σ7, H7, I7.nP, r7, q7⟩
end
theorem Rg {K : PySem.W.Frag} {a : Addr} {xs : List V} {g : TG} {tb : TS} {D : Ends} {σ : St} {H : Hp} (Pv : Nat -> St -> Hp -> Prop) (h0 : Pv 0 σ H) (hl : ∀ i σ H, i <= xs.length -> Pv i σ H -> SqL K H a xs)
  (hs : ∀ i x σ H, xs[i]? = some x -> Pv i σ H -> g x σ H fun σ2 H2 => tb { D with nx := Pv (i + 1), ct := Pv (i + 1), bk := D.nx } σ2 H2) (hd : ∀ σ H, Pv xs.length σ H -> D.nx σ H) :
  ∃ W : Nat -> Nat -> St -> Hp -> Prop, (∃ m, W 0 m σ H) /\ ∀ i m σ H, W i m σ H ->
   ((Itl K a).stop i H /\ D.nx σ H) \/ ((Itl K a).go i H /\ ∃ N : St -> Hp -> Prop, (∀ σ' H', N σ' H' -> ∃ m', m' < m /\ W (i + 1) m' σ' H') /\ ∀ x H', (Itl K a).yld i H x H' -> g x σ H' fun σ2 H2 => tb { D with nx := N, ct := N, bk := D.nx } σ2 H2) := by
 refine ⟨fun i m σ H => m = xs.length - i /\ i <= xs.length /\ Pv i σ H, ⟨xs.length, by simp, Nat.zero_le _, h0⟩, ?_⟩
 rintro i m σ H ⟨rfl, hi, p⟩
 have q := hl i σ H hi p
 by_cases hlt : i < xs.length
 ·refine .inr ⟨⟨xs, xs[i], q, by simp [hlt]⟩, Pv (i + 1), fun σ' H' p' => ⟨xs.length - (i + 1), by omega, rfl, hlt, p'⟩, fun x H' y => ?_⟩
  obtain ⟨e, y⟩ := y
  subst e
  exact hs i x σ _ (y xs q) p
 ·have e : i = xs.length := by omega
  subst e
  exact .inl ⟨⟨xs, q, Nat.le_refl _⟩, hd σ H p⟩
theorem KJ {lo : Int} {n : Nat} {g : TG} {tb : TS} {D : Ends} {σ : St} {H : Hp} (Pv : Nat -> St -> Hp -> Prop) (h0 : Pv 0 σ H)
  (hs : ∀ i σ H, i < n -> Pv i σ H -> g (.int (lo + i)) σ H fun σ2 H2 => tb { D with nx := Pv (i + 1), ct := Pv (i + 1), bk := D.nx } σ2 H2) (hd : ∀ σ H, Pv n σ H -> D.nx σ H) :
  ∃ W : Nat -> Nat -> St -> Hp -> Prop, (∃ m, W 0 m σ H) /\ ∀ i m σ H, W i m σ H ->
   ((Itr lo n).stop i H /\ D.nx σ H) \/ ((Itr lo n).go i H /\ ∃ N : St -> Hp -> Prop, (∀ σ' H', N σ' H' -> ∃ m', m' < m /\ W (i + 1) m' σ' H') /\ ∀ x H', (Itr lo n).yld i H x H' -> g x σ H' fun σ2 H2 => tb { D with nx := N, ct := N, bk := D.nx } σ2 H2) := by
 refine ⟨fun i m σ H => m = n - i /\ i <= n /\ Pv i σ H, ⟨n, by simp, Nat.zero_le _, h0⟩, ?_⟩
 rintro i m σ H ⟨rfl, hi, p⟩
 by_cases hlt : i < n
 ·refine .inr ⟨hlt, Pv (i + 1), fun σ' H' p' => ⟨n - (i + 1), by omega, rfl, hlt, p'⟩, fun x H' y => ?_⟩
  obtain ⟨e, y⟩ := y
  subst e y
  exact hs i σ _ hlt p
 ·have e : i = n := by omega
  subst e
  exact .inl ⟨Nat.le_refl _, hd σ H p⟩
abbrev R2 := V -> V -> Hp -> VK -> Prop
def OpR (X : Cx) (f : Value -> Value -> Sem Value) (r : R2) : Prop :=
 ∀ (pins : List (Addr × Obj)) (s : Shared) (σ : St) (H : Hp) (x y : V) (v u : Value) (Q : VK), Inv X pins σ H s -> RelV x v -> RelV y u -> r x y H Q ->
  wpAny (model X.prog X.w) X.A (f v u) (EP X pins σ Q) X.xe s
def UnR (X : Cx) (f : Value -> Sem Value) (r : V -> Hp -> VK -> Prop) : Prop :=
 ∀ (pins : List (Addr × Obj)) (s : Shared) (σ : St) (H : Hp) (x : V) (v : Value) (Q : VK), Inv X pins σ H s -> RelV x v -> r x H Q ->
  wpAny (model X.prog X.w) X.A (f v) (EP X pins σ Q) X.xe s
def dH (X : Cx) (f : Value) (r : List V -> Hp -> VK -> Prop) : Prop :=
 ∀ (pins : List (Addr × Obj)) (s : Shared) (σ : St) (H : Hp) (xs : List V) (us : List Value) (Q : VK), Inv X pins σ H s -> Vals xs us -> r xs H Q ->
  wpAny (model X.prog X.w) X.A (call f us) (EP X pins σ Q) X.xe s
def aaM (X : Cx) (r : V -> Hp -> (Bool -> Hp -> Prop) -> Prop) : Prop :=
 ∀ (pins : List (Addr × Obj)) (s : Shared) (σ : St) (H : Hp) (x : V) (v : Value) (Q : Bool -> Hp -> Prop), Inv X pins σ H s -> RelV x v -> r x H Q ->
  wpAny (model X.prog X.w) X.A (truthy v) (TP X pins σ Q) X.xe s
def tOp (r : R2) (ta tb : TE) : TE := fun σ H Q => ta σ H fun x H1 => tb σ H1 fun y H2 => r x y H2 Q
def tUn (r : V -> Hp -> VK -> Prop) (ta : TE) : TE := fun σ H Q => ta σ H fun x H1 => r x H1 Q
def rI (C : Int -> Int -> Prop) (g : Int -> Int -> V) : R2 := fun x y H Q => ∃ i j, x = .int i /\ y = .int j /\ C i j /\ Q (g i j) H
def rI0 (g : Int -> Int -> V) : R2 := fun x y H Q => ∃ i j, x = .int i /\ y = .int j /\ Q (g i j) H
def rU (g : Int -> V) : V -> Hp -> VK -> Prop := fun x H Q => ∃ i, x = .int i /\ Q (g i) H
section
variable {X : Cx} {a b c : Expr} {ta tb tc : TE} {pos : Pos}
theorem Zc (ha : PE X a ta) (hb : PE X b tb) {pins : List (Addr × Obj)} {s : Shared} {σ : St} {H : Hp} {R : V -> V -> Hp -> Prop} (I : Inv X pins σ H s)
  (h : ta σ H fun x H1 => tb σ H1 fun y H2 => R x y H2) {Q : Value -> Shared -> Prop} {f : Value -> Value -> Sem Value}
  (hf : ∀ v u s2 x y H2, Inv X pins σ H2 s2 -> RelV x v -> RelV y u -> R x y H2 -> wpAny (model X.prog X.w) X.A (f v u) Q X.xe s2) :
  wpAny (model X.prog X.w) X.A (eval a X.env) (fun v s₁ => wpAny (model X.prog X.w) X.A (eval b X.env) (fun u s₂ => wpAny (model X.prog X.w) X.A (f v u) Q X.xe s₂) X.xe s₁) X.xe s := by
 refine thE (ha pins s σ H _ I h) fun v s1 x H1 I1 r1 q1 => ?_
 refine thE (hb pins s1 σ H1 _ I1 q1) fun u s2 y H2 I2 r2 q2 => ?_
 exact hf v u s2 x y H2 I2 r1 r2 q2
theorem ZQ {op : Operator} {r : R2} (ho : OpR X (binaryOp op) r) (ha : PE X a ta) (hb : PE X b tb) : PE X (.BinOp a op b pos) (tOp r ta tb) := by
 intro pins s σ H Q I h
 exact wpAny_BinOp (Zc ha hb I h fun v u s2 x y H2 I2 rx ry q => ho pins s2 σ H2 x y v u Q I2 rx ry q)
theorem ZL {op : UnaryOp} {r : V -> Hp -> VK -> Prop} (ho : UnR X (unaryOp op) r) (ha : PE X a ta) : PE X (.UnaryOp op a pos) (tUn r ta) := by
 intro pins s σ H Q I h
 exact UnaryOp_ (thE (ha pins s σ H _ I h) fun v s1 x H1 I1 r1 q1 => ho pins s1 σ H1 x v Q I1 r1 q1)
theorem opI {f : Value -> Value -> Sem Value} {C : Int -> Int -> Prop} {g : Int -> Int -> Int}
  (rule : ∀ (i j : Int) (t u : Tok) (s : Shared) (Q : Value -> Shared -> Prop) (E : Value -> Shared -> Prop), C i j -> Q (.int (g i j) s.toks) { s with toks := s.toks + 1 } -> wpAny (model X.prog X.w) X.A (f (.int i t) (.int j u)) Q E s) :
  OpR X f (rI C fun i j => .int (g i j)) := by
 intro pins s σ H x y v u Q I rx ry h
 obtain ⟨i, j, rfl, rfl, hc, q⟩ := h
 obtain ⟨t, rfl⟩ := rx
 obtain ⟨t', rfl⟩ := ry
 exact rule i j t t' s _ _ hc ⟨.int (g i j), H, I.tok _, ⟨_, rfl⟩, q⟩
theorem Yw {f : Value -> Value -> Sem Value} {g : Int -> Int -> Int}
  (rule : ∀ (i j : Int) (t u : Tok) (s : Shared) (Q : Value -> Shared -> Prop) (E : Value -> Shared -> Prop), Q (.int (g i j) s.toks) { s with toks := s.toks + 1 } -> wpAny (model X.prog X.w) X.A (f (.int i t) (.int j u)) Q E s) :
  OpR X f (rI0 fun i j => .int (g i j)) := by
 intro pins s σ H x y v u Q I rx ry h
 obtain ⟨i, j, rfl, rfl, q⟩ := h
 obtain ⟨t, rfl⟩ := rx
 obtain ⟨t', rfl⟩ := ry
 exact rule i j t t' s _ _ ⟨.int (g i j), H, I.tok _, ⟨_, rfl⟩, q⟩
theorem U6 {f : Value -> Value -> Sem Value} {g : Int -> Int -> Bool}
  (rule : ∀ (i j : Int) (t u : Tok) (s : Shared) (Q : Value -> Shared -> Prop) (E : Value -> Shared -> Prop), Q (.bool (g i j)) s -> wpAny (model X.prog X.w) X.A (f (.int i t) (.int j u)) Q E s) :
  OpR X f (rI0 fun i j => .bl (g i j)) := by
 intro pins s σ H x y v u Q I rx ry h
 obtain ⟨i, j, rfl, rfl, q⟩ := h
 obtain ⟨t, rfl⟩ := rx
 obtain ⟨t', rfl⟩ := ry
 exact rule i j t t' s _ _ ⟨.bl (g i j), H, I, rfl, q⟩
def Ws (i j : Int) : Prop := 0 <= j /\ j <= 1000000 /\ i.natAbs < 2 ^ 64
def Lj (i j : Int) : Prop := (-(2 ^ 64) < i /\ i < 2 ^ 64) \/ (-(2 ^ 64) < j /\ j < 2 ^ 64)
theorem Lj.ok {i j : Int} (h : Lj i j) : IntMulOk i j := by
 rcases h with ⟨h1, h2⟩ | ⟨h1, h2⟩
 ·exact .of_left (intBits_le_64 h1 h2)
 ·exact .of_right (intBits_le_64 h1 h2)
theorem Yv : OpR X (binaryOp .Add) (rI0 fun i j => .int (i + j)) := Yw fun _ _ _ _ _ _ _ q => add_int q
theorem fU : OpR X (binaryOp .Sub) (rI0 fun i j => .int (i - j)) := Yw fun _ _ _ _ _ _ _ q => sub_int q
theorem Yr : OpR X (binaryOp .Mult) (rI Lj fun i j => .int (i * j)) := opI fun _ _ _ _ _ _ _ hc q => mul_int q hc.ok
theorem jT : OpR X (binaryOp .Mod) (rI (fun _ j => 0 < j) fun i j => .int (i % j)) := opI fun i j _ _ _ _ _ hc q => by
 have h1 : (0 : Int) < j := hc
 exact mod_int' (by omega) (by rw [Int.fmod_eq_emod_of_nonneg i (by omega)]; exact q)
theorem O3 : OpR X (binaryOp .Pow) (rI Ws fun i j => .int (i ^ j.toNat)) := opI fun _ _ _ _ _ _ _ hc q => pow_int_small hc.1 hc.2.1 hc.2.2 q
theorem iC : OpR X (binaryOp .LShift) (rI Ws fun i j => .int (i * 2 ^ j.toNat)) := opI fun _ _ _ _ _ _ _ hc q => lshift_int_small hc.1 hc.2.1 hc.2.2 q
theorem O4 : OpR X (binaryOp .BitAnd) (rI0 fun i j => .int (Builtin.bitAnd i j)) := Yw fun _ _ _ _ _ _ _ q => and_int q
theorem unI {f : Value -> Sem Value} {g : Int -> Int}
  (rule : ∀ (i : Int) (t : Tok) (s : Shared) (Q : Value -> Shared -> Prop) (E : Value -> Shared -> Prop), Q (.int (g i) s.toks) { s with toks := s.toks + 1 } -> wpAny (model X.prog X.w) X.A (f (.int i t)) Q E s) :
  UnR X f (rU fun i => .int (g i)) := by
 intro pins s σ H x v Q I rx h
 obtain ⟨i, rfl, q⟩ := h
 obtain ⟨t, rfl⟩ := rx
 exact rule i t s _ _ ⟨.int (g i), H, I.tok _, ⟨_, rfl⟩, q⟩
theorem Ab : UnR X (unaryOp .USub) (rU fun i => .int (-i)) := unI fun _ _ _ _ _ q => neg_int q
end
def JG : V -> V -> Bool
 | .non, .non => true | .non, .int _ => true | .int _, .non => true | .non, .bl _ => true | .bl _, .non => true | .non, .str _ => true | .str _, .non => true
 | .int _, .int _ => true | .bl _, .bl _ => true | .str _, .str _ => true | .byt _, .byt _ => true
 | .int _, .str _ => true | .str _, .int _ => true | .bl _, .str _ => true | .str _, .bl _ => true
 | _, _ => false
def rEq : R2 := fun x y H Q => JG x y = true /\ Q (.bl (decide (x = y))) H
def rNe : R2 := fun x y H Q => JG x y = true /\ Q (.bl (!decide (x = y))) H
theorem Jk {i j : Int} : decide (V.int i = V.int j) = (i == j) := by
 rw [Bool.eq_iff_iff]
 simp
theorem Rr {i j : Bool} : decide (V.bl i = V.bl j) = (i == j) := by
 rw [Bool.eq_iff_iff]
 simp
theorem Jj {i j : Str} : decide (V.str i = V.str j) = (i == j) := by
 rw [Bool.eq_iff_iff]
 simp
theorem Jl {i j : Array UInt8} : decide (V.byt i = V.byt j) = (i.toList == j.toList) := by
 rw [Bool.eq_iff_iff]
 cases i
 cases j
 simp
section
variable {X : Cx} {a b c : Expr} {ta tb tc : TE} {pos : Pos}
theorem cu {pins : List (Addr × Obj)} {σ : St} {H : Hp} {s : Shared} {Q : VK} {k k' : Bool} (I : Inv X pins σ H s) (q : Q (.bl k) H) (e : k = k') : EP X pins σ Q (.bool k') s := by
 subst e
 exact ⟨.bl k, H, I, rfl, q⟩
theorem Z6 : OpR X (compareOp .Eq) rEq := by
 intro pins s σ H x y v u Q I rx ry h
 obtain ⟨hs, q⟩ := h
 cases x with
 | non =>
  cases rx
  cases y with
  | non => cases ry; exact PySem.EqNone.eq_none_none (cu I q (by simp))
  | bl j => cases ry; exact PySem.EqNone.eq_none_bool (cu I q (by simp))
  | int j => obtain ⟨t', rfl⟩ := ry; exact PySem.EqNone.eq_none_int (cu I q (by simp))
  | str j => obtain ⟨t', rfl⟩ := ry; exact PySem.EqNone.eq_none_str (cu I q (by simp))
  | _ => exact absurd (show false = true from hs) Bool.false_ne_true
 | bl i =>
  cases rx
  cases y with
  | non => cases ry; exact PySem.EqNone.eq_bool_none (cu I q (by simp))
  | bl j => cases ry; exact eq_bool (cu I q Rr)
  | str j => obtain ⟨t', rfl⟩ := ry; exact PySem.EqMixed.eq_bool_str (cu I q (by simp))
  | _ => exact absurd (show false = true from hs) Bool.false_ne_true
 | int i =>
  obtain ⟨t, rfl⟩ := rx
  cases y with
  | non => cases ry; exact PySem.EqNone.eq_int_none (cu I q (by simp))
  | int j => obtain ⟨t', rfl⟩ := ry; exact eq_int (cu I q Jk)
  | str j => obtain ⟨t', rfl⟩ := ry; exact PySem.EqMixed.eq_int_str (cu I q (by simp))
  | _ => exact absurd (show false = true from hs) Bool.false_ne_true
 | str i =>
  obtain ⟨t, rfl⟩ := rx
  cases y with
  | non => cases ry; exact PySem.EqNone.eq_str_none (cu I q (by simp))
  | bl j => cases ry; exact PySem.EqMixed.eq_str_bool (cu I q (by simp))
  | int j => obtain ⟨t', rfl⟩ := ry; exact PySem.EqMixed.eq_str_int (cu I q (by simp))
  | str j => obtain ⟨t', rfl⟩ := ry; exact eq_str (cu I q Jj)
  | _ => exact absurd (show false = true from hs) Bool.false_ne_true
 | byt i =>
  obtain ⟨t, rfl⟩ := rx
  cases y with
  | byt j => obtain ⟨t', rfl⟩ := ry; exact PySem.W.eq_bytes (cu I q Jl)
  | _ => exact absurd (show false = true from hs) Bool.false_ne_true
 | _ => cases y <;> exact absurd (show false = true from hs) Bool.false_ne_true
theorem Z5 : OpR X (compareOp .NotEq) rNe := by
 intro pins s σ H x y v u Q I rx ry h
 obtain ⟨hs, q⟩ := h
 cases x with
 | non =>
  cases rx
  cases y with
  | non => cases ry; exact PySem.EqNone.ne_none_none (cu I q (by simp))
  | bl j => cases ry; exact PySem.EqNone.ne_none_bool (cu I q (by simp))
  | int j => obtain ⟨t', rfl⟩ := ry; exact PySem.EqNone.ne_none_int (cu I q (by simp))
  | str j => obtain ⟨t', rfl⟩ := ry; exact PySem.EqNone.ne_none_str (cu I q (by simp))
  | _ => exact absurd (show false = true from hs) Bool.false_ne_true
 | bl i =>
  cases rx
  cases y with
  | non => cases ry; exact PySem.EqNone.ne_bool_none (cu I q (by simp))
  | bl j => cases ry; exact ne_bool (cu I q (congrArg not Rr))
  | str j => obtain ⟨t', rfl⟩ := ry; exact PySem.EqMixed.ne_bool_str (cu I q (by simp))
  | _ => exact absurd (show false = true from hs) Bool.false_ne_true
 | int i =>
  obtain ⟨t, rfl⟩ := rx
  cases y with
  | non => cases ry; exact PySem.EqNone.ne_int_none (cu I q (by simp))
  | int j => obtain ⟨t', rfl⟩ := ry; exact ne_int (cu I q (congrArg not Jk))
  | str j => obtain ⟨t', rfl⟩ := ry; exact PySem.EqMixed.ne_int_str (cu I q (by simp))
  | _ => exact absurd (show false = true from hs) Bool.false_ne_true
 | str i =>
  obtain ⟨t, rfl⟩ := rx
  cases y with
  | non => cases ry; exact PySem.EqNone.ne_str_none (cu I q (by simp))
  | bl j => cases ry; exact PySem.EqMixed.ne_str_bool (cu I q (by simp))
  | int j => obtain ⟨t', rfl⟩ := ry; exact PySem.EqMixed.ne_str_int (cu I q (by simp))
  | str j => obtain ⟨t', rfl⟩ := ry; exact ne_str (cu I q (congrArg not Jj))
  | _ => exact absurd (show false = true from hs) Bool.false_ne_true
 | byt i =>
  obtain ⟨t, rfl⟩ := rx
  cases y with
  | byt j => obtain ⟨t', rfl⟩ := ry; exact PySem.W.ne_bytes (cu I q (congrArg not Jl))
  | _ => exact absurd (show false = true from hs) Bool.false_ne_true
 | _ => cases y <;> exact absurd (show false = true from hs) Bool.false_ne_true
theorem qt : OpR X (compareOp .Lt) (rI0 fun i j => .bl (decide (i < j))) := U6 fun _ _ _ _ _ _ _ q => lt_int q
theorem fV : OpR X (compareOp .LtE) (rI0 fun i j => .bl (decide (i <= j))) := U6 fun _ _ _ _ _ _ _ q => le_int q
theorem Ig : OpR X (compareOp .Gt) (rI0 fun i j => .bl (decide (j < i))) := U6 fun _ _ _ _ _ _ _ q => gt_int q
theorem WK : OpR X (compareOp .GtE) (rI0 fun i j => .bl (decide (j <= i))) := U6 fun _ _ _ _ _ _ _ q => ge_int q
theorem J1 : OpR X (compareOp .In) (fun x y H Q => ∃ i j, x = .str i /\ y = .str j /\ Q (.bl (!(Builtin.Str.occurrences j i 0 j.length 1).isEmpty)) H) := by
 intro pins s σ H x y v u Q I rx ry h
 obtain ⟨i, j, rfl, rfl, q⟩ := h
 obtain ⟨t, rfl⟩ := rx
 obtain ⟨t', rfl⟩ := ry
 exact in_str (cu I q rfl)
theorem lg : OpR X (compareOp .Is) (fun x y H Q => y = .non /\ Q (.bl (decide (x = .non))) H) := by
 intro pins s σ H x y v u Q I rx ry h
 obtain ⟨rfl, q⟩ := h
 cases ry
 refine is_none_gen (cu I q ?_)
 cases x <;> first
  | (cases rx; rfl)
  | (obtain ⟨t, rfl⟩ := rx; rfl)
theorem Bd : OpR X (compareOp .NotIn) (fun x y H Q => ∃ i j, x = .str i /\ y = .str j /\ Q (.bl (!(!(Builtin.Str.occurrences j i 0 j.length 1).isEmpty))) H) := by
 intro pins s σ H x y v u Q I rx ry h
 obtain ⟨i, j, rfl, rfl, q⟩ := h
 obtain ⟨t, rfl⟩ := rx
 obtain ⟨t', rfl⟩ := ry
 exact notIn_str (cu I q rfl)
theorem aU (b : Expr) {op : CmpOp} (h : op ≠ .In := by decide) (h2 : op ≠ .NotIn := by decide) : behindInMarks op b = false := by
 have e1 : (op == CmpOp.In) = false := by cases op <;> first | rfl | exact absurd rfl h
 have e2 : (op == CmpOp.NotIn) = false := by cases op <;> first | rfl | exact absurd rfl h2
 cases b <;> simp [behindInMarks, e1, e2]
theorem UW {op : CmpOp} {r : R2} (ho : OpR X (compareOp op) r) (ha : PE X a ta) (hb : PE X b tb) (hm : behindInMarks op b = false) : PE X (.Compare a [op] [b] pos) (tOp r ta tb) := by
 intro pins s σ H Q I h
 exact wpAny_Compare1 (Zc ha hb I h fun v u s2 x y H2 I2 rx ry q => ho pins s2 σ H2 x y v u Q I2 rx ry q) hm
def yS (t : TE) : TT := fun σ H Q => t σ H fun x H' => ∃ k, x = .bl k /\ Q k H'
theorem Uc {op : CmpOp} {r : R2} (ho : OpR X (compareOp op) r) (ha : PE X a ta) (hb : PE X b tb) (hm : behindInMarks op b = false) : PT X (.Compare a [op] [b] pos) (yS (tOp r ta tb)) := by
 intro pins s σ H Q I h
 refine wpAny_isTrue_Compare1 (thE (ha pins s σ H _ I h) fun v s1 x H1 I1 r1 q1 => thE (hb pins s1 σ H1 _ I1 q1) fun u s2 y H2 I2 r2 q2 =>
  thn (ho pins s2 σ H2 x y v u _ I2 r1 r2 q2) fun c s3 ⟨z, H3, I3, r3, k, e, q3⟩ => ?_) hm
 subst e
 cases r3
 exact wpAny_truthy_bool ⟨H3, I3, q3⟩
def vQ (r r' : R2) (ta tb tc : TE) : TE := fun σ H Q => ta σ H fun x H1 => tb σ H1 fun y H2 => r x y H2 fun z H3 => ∃ k, z = .bl k /\
 (if k = true then tc σ H3 fun w' H4 => r' y w' H4 Q else Q (.bl false) H3)
theorem OJ {op op' : CmpOp} {r r' : R2} (ho : OpR X (compareOp op) r) (ho' : OpR X (compareOp op') r') (ha : PE X a ta) (hb : PE X b tb) (hc : PE X c tc)
  (hm : lastMarks [op, op'] [b, c] = false := by with_unfolding_all rfl) : PE X (.Compare a [op, op'] [b, c] pos) (vQ r r' ta tb tc) := by
 intro pins s σ H Q I h
 refine Compare_chain (thE (ha pins s σ H _ I h) fun v s1 x H1 I1 r1 q1 => chain_link (thE (hb pins s1 σ H1 _ I1 q1) fun u s2 y H2 I2 r2 q2 =>
  thn (ho pins s2 σ H2 x y v u _ I2 r1 r2 q2) fun d s3 ⟨z, H3, I3, r3, k, e, q3⟩ => ?_)) hm
 subst e
 cases r3
 refine wpAny_truthy_bool ?_
 cases k with
 | false => exact ite_ff ⟨.bl false, H3, I3, rfl, q3⟩
 | true => exact ite_tt (chain_last (thn (hc pins s3 σ H3 _ I3 q3) fun w' s4 ⟨z', H4, I4, r4, q4⟩ => ho' pins s4 σ H4 y z' u w' Q I4 r2 r4 q4))
theorem Oj {op op' : CmpOp} {r r' : R2} (ho : OpR X (compareOp op) r) (ho' : OpR X (compareOp op') r') (ha : PE X a ta) (hb : PE X b tb) (hc : PE X c tc)
  (hm : lastMarks [op, op'] [b, c] = false := by with_unfolding_all rfl) : PT X (.Compare a [op, op'] [b, c] pos) (yS (vQ r r' ta tb tc)) := by
 intro pins s σ H Q I h
 refine isTrue_chain (thE (ha pins s σ H _ I h) fun v s1 x H1 I1 r1 q1 => test_link (thE (hb pins s1 σ H1 _ I1 q1) fun u s2 y H2 I2 r2 q2 =>
  thn (ho pins s2 σ H2 x y v u _ I2 r1 r2 q2) fun d s3 ⟨z, H3, I3, r3, k, e, q3⟩ => ?_)) hm
 subst e
 cases r3
 refine wpAny_truthy_bool ?_
 cases k with
 | false =>
  obtain ⟨k', e', q'⟩ := q3
  cases e'
  exact ite_ff ⟨H3, I3, q'⟩
 | true =>
  refine ite_tt (test_last (thn (hc pins s3 σ H3 _ I3 q3) fun w' s4 ⟨z', H4, I4, r4, q4⟩ => thn (ho' pins s4 σ H4 y z' u w' _ I4 r2 r4 q4) fun d' s5 ⟨z2, H5, I5, r5, k2, e2, q5⟩ => ?_))
  subst e2
  cases r5
  exact wpAny_truthy_bool ⟨H5, I5, q5⟩
def aaL (K : PySem.W.Frag) (x : V) (H : Hp) (k : Bool) : Prop :=
 match x with
 | .non => k = false
 | .bl b => k = b
 | .int i => k = (i != 0)
 | .str y => y.length <= sizeLine /\ k = ((y.length : Int) != 0)
 | .byt y => y.size <= sizeLine /\ k = ((y.size : Int) != 0)
 | .ref p => (∃ xs, SqL K H p xs /\ k = !xs.isEmpty) \/ (∃ xs, SqT K H p xs /\ k = !xs.isEmpty) \/ ∃ kvs, H p = some (.dK kvs) /\ k = !kvs.isEmpty
 | _ => False
theorem Gk {κ : Type} {kvs : List (κ × V)} {vs : List (κ × Value)} (r : KV kvs vs) : (!vs.isEmpty) = !kvs.isEmpty := by
 cases r <;> rfl
theorem wV {xs : List V} {its : List Value} (r : Vals xs its) : (!its.toArray.isEmpty) = !xs.isEmpty := by
 cases r <;> simp
theorem oV : (sizeLine : Nat) < 2 ^ 63 := by rw [sizeLine_eq]; decide
theorem W7 : aaM X (fun x H Q => ∃ k, aaL X.K x H k /\ Q k H) := by
 intro pins s σ H x v Q I rx h
 obtain ⟨k, e, q⟩ := h
 have hl := oV
 have hs : sizeLine = 16777216 := sizeLine_eq
 cases x with
 | non =>
  cases rx
  have e' : k = false := e
  subst e'
  exact truthy_none ⟨H, I, q⟩
 | bl b =>
  cases rx
  have e' : k = b := e
  subst e'
  exact wpAny_truthy_bool ⟨H, I, q⟩
 | int i =>
  obtain ⟨t, rfl⟩ := rx
  have e' : k = (i != 0) := e
  subst e'
  exact PySem.P.truthy_int ⟨H, I, q⟩
 | str y =>
  obtain ⟨t, rfl⟩ := rx
  obtain ⟨hy, e'⟩ : y.length <= sizeLine /\ k = ((y.length : Int) != 0) := e
  subst e'
  exact PySem.P.truthy_str (by omega) ⟨H, I.tok _, q⟩
 | byt y =>
  obtain ⟨t, rfl⟩ := rx
  obtain ⟨hy, e'⟩ : y.size <= sizeLine /\ k = ((y.size : Int) != 0) := e
  subst e'
  exact PySem.W.truthy_bytes (by omega) ⟨H, I.tok _, q⟩
 | ref p =>
  cases rx
  have e' : (∃ xs, SqL X.K H p xs /\ k = !xs.isEmpty) \/ (∃ xs, SqT X.K H p xs /\ k = !xs.isEmpty) \/ ∃ kvs, H p = some (.dK kvs) /\ k = !kvs.isEmpty := e
  rcases e' with ⟨xs, hx, e'⟩ | ⟨xs, hx, e'⟩ | ⟨kvs, hx, e'⟩
  ·subst e'
   obtain ⟨its, r, pl, hz⟩ := I.list hx
   have hlen := r.length
   exact wpAny_truthy_list pl.isList (by simp only [List.size_toArray]; omega) ⟨H, I.tok _, by rw [wV r]; exact q⟩
  ·subst e'
   obtain ⟨its, r, pl, hz⟩ := I.tuple hx
   have hlen := r.length
   exact truthy_tuple pl (by simp only [List.size_toArray]; omega) ⟨H, I.tok _, by rw [wV r]; exact q⟩
  ·subst e'
   obtain ⟨hz, hS, vs, r, m⟩ : kvs.length <= sizeLine /\ (p == sysModules) = false /\ ∃ vs, KV kvs vs /\ s.heap.DictOf (eV X.prog X.w) p vs := I.hok p _ hx
   have hlen : kvs.length = vs.length := Paired.length r
   exact wpAny_truthy_dict hS m (by omega) ⟨H, I.tok _, by rw [Gk r]; exact q⟩
 | _ => exact (show False from e).elim
theorem Fy : OpR X (binaryOp .Add) (fun x y H Q => ∃ i j, x = .str i /\ y = .str j /\ i.length + j.length <= sizeLine /\ Q (.str (i ++ j)) H) := by
 intro pins s σ H x y v u Q I rx ry h
 obtain ⟨i, j, rfl, rfl, hz, q⟩ := h
 obtain ⟨t, rfl⟩ := rx
 obtain ⟨t', rfl⟩ := ry
 exact add_str (fun t' tk => ⟨.str (i ++ j), H, I.tok _, ⟨_, rfl⟩, q⟩) hz
theorem vals1 {x : V} {us : List Value} (r : Vals [x] us) : ∃ u, us = [u] /\ RelV x u := by
 cases r with
 | cons r1 r2 => cases r2; exact ⟨_, rfl, r1⟩
theorem vals2 {x y : V} {us : List Value} (r : Vals [x, y] us) : ∃ u w', us = [u, w'] /\ RelV x u /\ RelV y w' := by
 cases r with
 | cons r1 r2 =>
  cases r2 with
  | cons r3 r4 => cases r4; exact ⟨_, _, rfl, r1, r3⟩
theorem Ec : dH X (.builtin "abs") (fun xs H Q => ∃ i, xs = [.int i] /\ Q (.int (if i < 0 then -i else i)) H) := by
 intro pins s σ H xs us Q I r h
 obtain ⟨i, rfl, q⟩ := h
 obtain ⟨u, rfl, t, rfl⟩ := vals1 r
 exact call_abs_int fun u tk => ⟨.int (if i < 0 then -i else i), H, I.tok _, ⟨_, rfl⟩, q⟩
theorem K3 (hc : X.calm = true) : dH X (.builtin "max") (fun xs H Q => ∃ i j, xs = [.int i, .int j] /\ Q (.int (if j > i then j else i)) H) := by
 intro pins s σ H xs us Q I r h
 obtain ⟨i, j, rfl, q⟩ := h
 obtain ⟨u, w', rfl, ⟨t, rfl⟩, ⟨t', rfl⟩⟩ := vals2 r
 refine max_two_ints (I.ok.hd hc) fun h' tk k => ⟨_, H, I.kept k, ?_, q⟩
 by_cases hj : j > i
 ·rw [if_pos hj, if_pos hj]; exact ⟨_, rfl⟩
 ·rw [if_neg hj, if_neg hj]; exact ⟨_, rfl⟩
theorem KZ (hc : X.calm = true) : dH X (.builtin "min") (fun xs H Q => ∃ i j, xs = [.int i, .int j] /\ Q (.int (if j < i then j else i)) H) := by
 intro pins s σ H xs us Q I r h
 obtain ⟨i, j, rfl, q⟩ := h
 obtain ⟨u, w', rfl, ⟨t, rfl⟩, ⟨t', rfl⟩⟩ := vals2 r
 refine min_two_ints (I.ok.hd hc) fun h' tk k => ⟨_, H, I.kept k, ?_, q⟩
 by_cases hj : j < i
 ·rw [if_pos hj, if_pos hj]; exact ⟨_, rfl⟩
 ·rw [if_neg hj, if_neg hj]; exact ⟨_, rfl⟩
theorem zP : dH X (.type "int") (fun xs H Q => (∃ i, xs = [.int i] /\ Q (.int i) H) \/ ∃ k, xs = [.bl k] /\ Q (.int (if k then 1 else 0)) H) := by
 intro pins s σ H xs us Q I r h
 rcases h with ⟨i, rfl, q⟩ | ⟨k, rfl, q⟩
 ·obtain ⟨u, rfl, t, rfl⟩ := vals1 r
  exact call_int_int ⟨.int i, H, I, ⟨_, rfl⟩, q⟩
 ·obtain ⟨u, rfl, r1⟩ := vals1 r
  cases r1
  exact call_int_bool ⟨.int (if k then 1 else 0), H, I.tok _, ⟨_, rfl⟩, q⟩
theorem BP : dH X (.type "str") (fun xs H Q => ∃ i, xs = [.int i] /\ i.natAbs.log2 < 1920 /\ Q (.str (toString i)) H) := by
 intro pins s σ H xs us Q I r h
 obtain ⟨i, rfl, hz, q⟩ := h
 obtain ⟨u, rfl, t, rfl⟩ := vals1 r
 exact PySem.P.str_of_int hz ⟨.str _, H, I.tok _, ⟨_, rfl⟩, q⟩
end
structure Zh (h : Heap) (x dx C : Addr) (mA : Str -> Option Value) : Prop where
 obj : h.get? x = some (PySem.W.instObj C dx)
 ns : h.Ns1 dx mA
 ne : dx ≠ x
theorem Kl {h : Heap} {dx : Addr} {mA : Str -> Option Value} (n : h.Ns1 dx mA) : ∃ od, h.get? dx = some od /\ ∀ name, PySem.W.lookIn name od = some (mA name) := by
 obtain ⟨o, es, ep, ho, hd, hk, _, hm⟩ := n
 refine ⟨o, ho, fun name => ?_⟩
 have e := hm name
 unfold nsFind findBy at e
 rw [<- Array.find?_toList] at e
 unfold PySem.W.lookIn
 rw [hd]
 dsimp only
 split
 ·rename_i y q
  rw [q] at e
  exact congrArg some e
 ·rename_i q
  rw [q] at e
  have a : es.toList.any (·.refKey) = false := by
   rw [List.any_eq_false]
   intro y hy
   obtain ⟨z, t, hkey⟩ := hk y (Array.mem_toList_iff.mp hy)
   simp [DictEntry.refKey, hkey]
  have a' : ¬ es.toList.any (·.refKey) = true := by rw [a]; exact Bool.false_ne_true
  rw [if_neg a']
  exact congrArg some e
theorem Zh.look {h : Heap} {x dx C : Addr} {mA : Str -> Option Value} (I : Zh h x dx C mA) : ∃ od, PySem.W.InstAt h x (PySem.W.instObj C dx) C (some od) /\ ∀ name, PySem.W.lookIn name od = some (mA name) :=
 let ⟨od, ho, hl⟩ := Kl I.ns
 ⟨od, ⟨I.obj, rfl, rfl, ho⟩, hl⟩
section
variable {prog : Program} {w : World} {A : Around} {E : Value -> Shared -> Prop} {s : Shared} {K : PySem.W.Frag} {x dx C f : Addr} {mA : Str -> Option Value} {name : Str} {v : Value}
end
theorem yL.some_of {v : V} {o : Option Value} (r : yL (some v) o) : ∃ u, o = some u /\ RelV v u := by
 cases o with
 | none => exact (show False from r).elim
 | some u => exact ⟨u, rfl, r⟩
section
variable {P : Program} {w : World} {H H' : Hp} {h h' : Heap} {a C dx : Addr} {fs fs' : List (Str × V)}
theorem VN (hok : HOk P w H h) (e : H a = some (.ins C dx fs)) : ∃ mA, Zh h a dx C mA /\ (∀ f, yL (fs.lookup f) (mA f)) /\ PySem.Within mA (fs.map (·.1)) /\ fs.length <= 1000 /\ H dx = some (.own a) := by
 obtain ⟨d, z, ne, ob, mA, n, r, q⟩ := (show cQ P w H h a (.ins C dx fs) from hok a _ e)
 exact ⟨mA, ⟨ob, n, ne⟩, r, q, z, d⟩
end
structure Cls (K : PySem.W.Frag) (C : Addr) : Prop where
 pg : PySem.W.plainGet K C Str.empty = true
 hd : PySem.W.hasDictIn K C = true
 po : PySem.W.plainOver K C = true
 sa : PySem.W.findIn K (.ref C) "__setattr__" = some (some (.builtin "object.__setattr__"))
theorem Cls.get {K : PySem.W.Frag} {C : Addr} (c : Cls K C) (f : Str) : PySem.W.plainGet K C f = true := c.pg
section
variable {X : Cx} {pins : List (Addr × Obj)} {σ : St} {H : Hp} {s : Shared} {a C dx : Addr} {fs : List (Str × V)} {f : Str} {v : V} {A : Around} {E : Value -> Shared -> Prop}
theorem Wn {prog : Program} {w : World} {env : Env} {e : Expr} {f : Str} {pos : Pos} {s : Shared} {Q : Value -> Shared -> Prop} (hb : attributeBase e f env (eval e env) = eval e env)
  (h : wpAny (model prog w) A (eval e env) (fun o s₁ => wpAny (model prog w) A (getAttr o f true) Q E s₁) E s) : wpAny (model prog w) A (eval (.Attribute e f pos) env) Q E s :=
 Attribute_any_ h (by rw [arm_eval_Attribute, hb])
end
section
variable {X : Cx} {o e value : Expr} {f : Str} {pos pos' tpos : Pos} {ta tv : TE}
end
section
variable {X : Cx} {pins : List (Addr × Obj)} {σ : St} {H : Hp} {s : Shared} {A : Around} {E : Value -> Shared -> Prop} {Q : Value -> Shared -> Prop} {c : Value} {b : Bool}
inductive qi (K : PySem.W.Frag) (H : Hp) : V -> Value -> Prop where
 | non : qi K H .non (.type "NoneType")
 | bl (x : Bool) : qi K H (.bl x) (.type "bool")
 | int (i : Int) : qi K H (.int i) (.type "int")
 | str (x : Str) : qi K H (.str x) (.type "str")
 | flt (x : UInt64) : qi K H (.flt x) (.type "float")
 | lst {a : Addr} {xs : List V} (e : H a = some (.lst xs)) : qi K H (.ref a) (.type "list")
 | frz {a : Addr} {o : Obj} {xs : List V} (e : H a = some (.frz o (.lst xs))) : qi K H (.ref a) (.type "list")
 | tup {a : Addr} {xs : List V} (e : H a = some (.tup xs)) : qi K H (.ref a) (.type "tuple")
 | dK {a : Addr} {kvs : List (Key × V)} (e : H a = some (.dK kvs)) : qi K H (.ref a) (.type "dict")
 | dT {a : Addr} {kvs : List (List Key × V)} (e : H a = some (.dT kvs)) : qi K H (.ref a) (.type "dict")
 | ins {a C dx : Addr} {fs : List (Str × V)} (e : H a = some (.ins C dx fs)) (cl : Cls K C) (ha : PySem.W.findIn K (.ref C) "__class__" = some (some (.builtin "object.__class__")))
   (hn : PySem.W.specialIn K (.builtin "object.__class__") "__get__" = some (some (.builtin "getset_descriptor.__get__"))) (htk : PySem.W.takesIn K (.builtin "object.__class__") = some true)
   (hm : PySem.W.mroIn K C (.type "object") = some true) : qi K H (.ref a) (.ref C)
theorem Ks {x : V} {u t : Value} (I : Inv X pins σ H s) (rx : RelV x u) (ty : qi X.K H x t) (e : PySem.W.kitOne X.K t c = some b) (h : ∀ tk, Q (.bool b) { s with toks := tk }) :
  wpAny (model X.prog X.w) A (call (.builtin "isinstance") [u, c]) Q E s := by
 cases ty with
 | non => cases (show u = Value.none from rx); exact PySem.W.kia_one PySem.W.kitx_none I.kIn True.intro e (fun z => nomatch z) h
 | bl y => cases (show u = Value.bool y from rx); exact PySem.W.kia_one PySem.W.kitx_bool I.kIn True.intro e (fun z => nomatch z) h
 | int i => obtain ⟨t, q⟩ := (show ∃ t, u = Value.int i t from rx); cases q; exact PySem.W.kia_one PySem.W.kitx_int I.kIn True.intro e (fun z => nomatch z) h
 | str y => obtain ⟨t, q⟩ := (show ∃ t, u = Value.str y t from rx); cases q; exact PySem.W.kia_one PySem.W.kitx_str I.kIn True.intro e (fun z => nomatch z) h
 | flt y => obtain ⟨t, q⟩ := (show ∃ t, u = Value.float y t from rx); cases q; exact PySem.W.kia_one PySem.W.kitx_float I.kIn True.intro e (fun z => nomatch z) h
 | @lst a xs ea =>
  cases (show u = Value.ref a from rx)
  obtain ⟨_, _, n, _, h1⟩ := (show cQ X.prog X.w H s.heap a (.lst xs) from I.hok a _ ea)
  exact PySem.W.kia_one PySem.W.kitx_list I.kIn ⟨_, h1, rfl⟩ e (fun z => nomatch z) h
 | @frz a ob xs ea =>
  cases (show u = Value.ref a from rx)
  obtain ⟨_, _, _, n, _, h1⟩ := (show cQ X.prog X.w H s.heap a (.frz ob (.lst xs)) from I.hok a _ ea)
  exact PySem.W.kia_one PySem.W.kitx_list I.kIn ⟨_, h1, rfl⟩ e (fun z => nomatch z) h
 | @tup a xs ea =>
  cases (show u = Value.ref a from rx)
  obtain ⟨_, _, _, p⟩ := (show cQ X.prog X.w H s.heap a (.tup xs) from I.hok a _ ea)
  obtain ⟨o, h1, h2, _⟩ := p
  exact PySem.W.kia_one PySem.W.kitx_tuple I.kIn ⟨o, h1, h2⟩ e (fun z => nomatch z) h
 | @dK a kvs ea =>
  cases (show u = Value.ref a from rx)
  obtain ⟨_, _, vs, _, p⟩ := (show cQ X.prog X.w H s.heap a (.dK kvs) from I.hok a _ ea)
  obtain ⟨o, es, ep, h1, h2, _⟩ := p
  exact PySem.W.kia_one PySem.W.kitx_dict I.kIn ⟨o, h1, h2.1⟩ e (fun z => nomatch z) h
 | @dT a kvs ea =>
  cases (show u = Value.ref a from rx)
  obtain ⟨_, _, xs, _, o, es, ep, h1, h2, _⟩ := (show cQ X.prog X.w H s.heap a (.dT kvs) from I.hok a _ ea)
  exact PySem.W.kia_one PySem.W.kitx_dict I.kIn ⟨o, h1, h2.1⟩ e (fun z => nomatch z) h
 | @ins a C dx fs ea cl ha hn htk hm =>
  cases (show u = Value.ref a from rx)
  obtain ⟨mA, O, _⟩ := VN I.hok ea
  obtain ⟨od, J, _⟩ := O.look
  exact PySem.W.kia_one (PySem.W.kitx_own (cl.get _) cl.hd ha hn htk hm) I.kIn J e (fun z => nomatch z) h
end
structure gB (k : Nat) (A : Around) : Prop where
 hd : A.handled = none
 dp : A.depth + 3 * k + 5 < recursionLimit
 un : A.units + 16 * k + 200 < cLine
 gd : A.guards = some []
theorem gB.mono {j k : Nat} {A : Around} (r : gB k A) (h : j <= k) : gB j A := ⟨r.hd, by have := r.dp; omega, by have := r.un; omega, r.gd⟩
theorem gB.deeper {k : Nat} {A : Around} (r : gB (k + 1) A) (env : Env) : gB k (A.deeper env) :=
 ⟨r.hd, by have := r.dp; show A.depth + 1 + 3 * k + 5 < _; omega, by have := r.un; show A.units + 3 + 16 * k + 200 < _; omega, r.gd⟩
theorem Gf {A : Around} {C : Addr} {us : List Value} {kw : List (Str × Value)} : (A.under (.builtin "type.__call__" ⟨.ref C :: us, kw⟩)).depth = A.depth + 1 := by
 first | rfl | simp [Around.under, Code.weight, Code.isCreation, Code.isGuard, Code.isCaller, Code.frames, Code.isFrame, guardIds]
theorem Ge {A : Around} {C : Addr} {us : List Value} {kw : List (Str × Value)} : (A.under (.builtin "type.__call__" ⟨.ref C :: us, kw⟩)).units = A.units + 1 := by
 first | rfl | simp [Around.under, Code.cUnits, Code.frames, Code.isFrame]
theorem gB.make {k : Nat} {A : Around} (r : gB (k + 1) A) (C : Addr) (us : List Value) (kw : List (Str × Value)) : gB k (A.under (.builtin "type.__call__" ⟨.ref C :: us, kw⟩)) :=
 ⟨r.hd, by have := r.dp; rw [Gf]; omega, by have := r.un; rw [Ge]; omega, by have := r.gd; first | exact this | simpa [Around.under, Code.guards, Code.isGuard, pushGuards, guardIds] using this⟩
theorem gB.depth {k : Nat} {A : Around} (r : gB k A) : A.depth < recursionLimit := by have := r.dp; omega
theorem gB.bM {k : Nat} {A : Around} (r : gB k A) : A.units < cLine := by have := r.un; omega
def xZ : TA := fun _ H Q => Q [] H
def jL (ta : TE) (tr : TA) : TA := fun σ H Q => ta σ H fun x H1 => tr σ H1 fun xs H2 => Q (x :: xs) H2
section
variable {X : Cx} {e : Expr} {es : List Expr} {te : TE} {t : TA} {pos : Pos}
theorem Yp : PA X [] xZ := fun _ _ _ _ H Q I h => Calls.spliced_nil ⟨[], H, I, .nil, h⟩
theorem U4 (ha : PE X e te) (hr : PA X es t) (hs : starEach (e :: es) X.env = (false, eval e X.env) :: starEach es X.env := by rfl) : PA X (e :: es) (jL te t) := by
 intro pos pins s σ H Q I h
 rw [hs]
 show wpAny _ _ (spliced ((false, eval e X.env) :: backTo pos (starEach es X.env))) _ _ s
 refine Calls.spliced_cons (thE (ha pins s σ H _ I h) fun u s1 x H1 I1 r1 q1 => ?_)
 exact thA (hr pos pins s1 σ H1 _ I1 q1) fun us s2 xs H2 I2 r2 q2 => ⟨x :: xs, H2, I2, .cons r1 r2, q2⟩
def R8 (t : TA) : TE := fun σ H Q => t σ H fun xs H1 => xs.length <= sizeLine /\ ∀ p, H1 p = none -> Q (.ref p) (upd H1 p (.tup xs))
def Xd (t : TA) : TE := fun σ H Q => t σ H fun xs H1 => xs.length <= sizeLine /\ ∀ p, H1 p = none -> Q (.ref p) (upd H1 p (.lst xs))
theorem Ye {x1} (h : PA X es t) : PE X (.Tuple es x1 pos) (R8 t) := by
 intro pins s σ H Q I hq
 refine wpAny_Tuple_spliced (thn (h pos pins s σ H _ I hq) fun us s1 ⟨xs, H1, I1, r, z, q⟩ => ⟨by rw [<- r.length]; exact z, ?_⟩)
 have hf : H1 s1.heap.objs.size = none := I1.hok.fresh (Nat.le_refl _)
 refine ⟨.ref s1.heap.objs.size, upd H1 s1.heap.objs.size (.tup xs), I1.laid (t' := s1.toks) (fun b u e => Heap.get?_push_of_some _ e) (Nat.le_refl _) ?_, rfl, q _ hf⟩
 exact ⟨z, us, r, ⟨_, Heap.get?_push_size _ rfl, rfl, _, rfl⟩⟩
theorem Yk (h : PA X es t) : PE X (.List es pos) (Xd t) := by
 intro pins s σ H Q I hq
 refine wpAny_List_spliced (thn (h pos pins s σ H _ I hq) fun us s1 ⟨xs, H1, I1, r, z, q⟩ => ⟨by rw [<- r.length]; exact z, ?_⟩)
 have hf : H1 s1.heap.objs.size = none := I1.hok.fresh (Nat.le_refl _)
 refine ⟨.ref s1.heap.objs.size, upd H1 s1.heap.objs.size (.lst xs), I1.laid (t' := s1.toks) (fun b u e => Heap.get?_push_of_some _ e) (Nat.le_refl _) ?_, rfl, q _ hf⟩
 exact ⟨z, us, 0, r, Heap.get?_push_size _ rfl⟩
end
abbrev Sp := List V -> Hp -> VK -> XK -> Prop
abbrev CXT := List Env -> Hp -> Shared -> XK -> Value -> Shared -> Prop
structure G6 (P : Program) (w : World) (K : PySem.W.Frag) (mg : Str -> Option Value) (base : Heap) (A : Around) (outer : List Env) (s : Shared) (H : Hp) : Prop where
 frames : A.frames = some outer
 mod : Mod K mg base
 bs : ∀ b o, base.get? b = some o -> s.heap.get? b = some o /\ H b = none
 bsz : base.objs.size <= s.heap.objs.size
 pB : s.heap.FunFrames base outer
 frf : ∀ b ∈ frs outer, H b = none
 hok : HOk P w H s.heap
 bare : AllBare s.gens
def CE (outer : List Env) (P : Program) (w : World) (H : Hp) (s : Shared) (Q : VK) (u : Value) (s' : Shared) : Prop :=
 ∃ v H', s'.os = s.os /\ AllBare s'.gens /\ Un (frs outer) [] H H' s.heap s'.heap /\ HOk P w H' s'.heap /\ RelV v u /\ Q v H'
def CR (CX : CXT) (outer : List Env) (P : Program) (w : World) (H : Hp) (s : Shared) (Q : VK) (E : XK) (r : Result) (s' : Shared) : Prop :=
 match r with
 | .ok (.ret u) => CE outer P w H s Q u s'
 | .ok _ => False
 | .error e => CX outer H s E e s'
structure dh (P : Program) (w : World) (K : PySem.W.Frag) (mg : Str -> Option Value) (base : Heap) (CX : CXT) (k : Nat) (f : Addr) (fd : FuncData) (ps : List Str) (sp : Sp) : Prop where
 len : ∀ vs H Q E, sp vs H Q E -> vs.length = ps.length
 run : ∀ (A : Around) (outer : List Env) (s : Shared) (H : Hp) (args : Args) (us : List Value) (vs : List V) (Q : VK) (E : XK), gB k A -> G6 P w K mg base A outer s H -> BindsTo s fd args (ps.zip us) -> Vals vs us -> sp vs H Q E ->
  codeAny (model P w) A (.call (.ref f) args) (CR CX outer P w H s Q E) s
theorem G6.make {P : Program} {w : World} {K : PySem.W.Frag} {mg : Str -> Option Value} {base : Heap} {A : Around} {outer : List Env} {s : Shared} {H : Hp} (e : G6 P w K mg base A outer s H) (C : Addr) (us : List Value) (kw : List (Str × Value)) :
  G6 P w K mg base (A.under (.builtin "type.__call__" ⟨.ref C :: us, kw⟩)) outer s H := ⟨by first | exact e.frames | (simpa [Around.under, Code.envs, Code.isFrame, pushEnvs] using e.frames), e.mod, e.bs, e.bsz, e.pB, e.frf, e.hok, e.bare⟩
section
variable {X : Cx} {pins : List (Addr × Obj)} {σ : St} {H : Hp} {s s' : Shared}
theorem Inv.env0 (I : Inv X pins σ H s) : G6 X.prog X.w X.K X.mg X.base X.A X.stack s H :=
 ⟨I.ok.frames, I.ok.mod, I.bs, Nat.le_trans I.ok.bsz I.sz, I.stack, I.vq, I.hok, I.bare⟩
theorem Inv.after {Q : VK} {u : Value} (I : Inv X pins σ H s) (h : CE X.stack X.prog X.w H s Q u s') : EP X pins σ Q u s' := by
 obtain ⟨v, H', os, bare, un, hok, r, q⟩ := h
 obtain ⟨hh, g, d, t, os'⟩ := s'
 obtain rfl : os' = s.os := os
 exact ⟨v, H', I.call (h' := hh) (g' := g) (d' := d) (t' := t) (ch := []) un hok bare (fun b z => absurd z (by simp)), r, q⟩
end
def nQ (sp : Sp) (dvs : List V) (E : XK) (t : TA) : TE := fun σ H Q => t σ H fun vs H1 => sp (vs ++ dvs) H1 Q E
def Binds (K : PySem.W.Frag) (fd : FuncData) (ps : List Str) (ds : List Value) : Prop :=
 ∀ (s : Shared) (us : List Value), K.In s.heap -> (us ++ ds).length = ps.length -> BindsTo s fd ⟨us, []⟩ (ps.zip (us ++ ds))
theorem Binds.all {K : PySem.W.Frag} {fd : FuncData} {ps : List Str} (h : ∀ us : List Value, us.length = ps.length -> bindArgs fd ⟨us, []⟩ = pure (ps.zip us)) : Binds K fd ps [] := fun s us _ hl => by
 rw [List.append_nil] at hl |-
 exact .of_eq (h us hl)
def qW (CX : CXT) (X : Cx) (E : XK) : Prop := ∀ (pins : List (Addr × Obj)) (σ : St) (H : Hp) (s : Shared) (e : Value) (s' : Shared), Inv X pins σ H s -> CX X.stack H s E e s' -> X.xe e s'
section
variable {X : Cx} {CX : CXT} {k : Nat} {f C : Addr} {fd : FuncData} {ps : List Str} {sp : Sp} {dvs : List V} {ds : List Value} {E : XK} {x m : Str} {p pos apos : Pos} {e o : Expr} {es : List Expr} {ta : TE} {t : TA}
theorem Xj {pins : List (Addr × Obj)} {σ : St} {H : Hp} {s : Shared} {Q : VK} {us : List Value} {vs : List V} (F : dh X.prog X.w X.K X.mg X.base CX k f fd ps sp) (hr : gB k X.A) (hb : Binds X.K fd ps ds) (hd : Vals dvs ds) (hx : qW CX X E)
  (I : Inv X pins σ H s) (r : Vals vs us) (h : sp (vs ++ dvs) H Q E) : wpAny (model X.prog X.w) X.A (call (.ref f) us) (EP X pins σ Q) X.xe s := by
 have r2 : Vals (vs ++ dvs) (us ++ ds) := r.append hd
 have hl : (us ++ ds).length = ps.length := by rw [<- r2.length]; exact F.len _ _ _ _ h
 refine wpAny_call (codeAny_mono (F.run X.A X.stack s H ⟨us, []⟩ (us ++ ds) (vs ++ dvs) Q E hr I.env0 (hb s us I.kIn hl) r2 h) fun r s' hq => ?_)
 cases r with
 | error e => exact hx pins σ H s e s' I hq
 | ok fl =>
  cases fl with
  | ret u => exact I.after hq
  | next => exact False.elim hq
  | brk => exact False.elim hq
  | cont => exact False.elim hq
theorem Ie (F : dh X.prog X.w X.K X.mg X.base CX k f fd ps sp) (hr : gB k X.A) (hg : Gl X x) (hm : X.mg x = some (.ref f)) (hk : PySem.W.keepIn X.K (.ref f) = true) (hb : Binds X.K fd ps ds) (hd : Vals dvs ds) (hx : qW CX X E)
  (ha : PA X (e :: es) t) (hdb : (x == ("__debug__" : Str)) = false := by decide) (he : starEach (e :: es) X.env = (false, eval e X.env) :: starEach es X.env := by rfl) (hpl : (backTo pos (starEach es X.env)).any (·.1) = false := by rfl) :
  PE X (.Call (.Name x p) (e :: es) [] pos) (nQ sp dvs E t) := by
 intro pins s σ H Q I h
 refine wpAny_Call_Name_kw (vG I hg hm ?_ hdb)
 refine PySem.W.callWith_K (h₀ := X.base) I.ok.mod.kin hk (thA (ha pos pins s σ H _ I h) fun us s1 vs H1 I1 r q => ⟨I1.kIn, ?_⟩) he hpl
 exact Xj F hr hb hd hx I1 r q
end
def PK (X : Cx) (kws : List Keyword) (t : TA) : Prop :=
 ∀ (pos : Pos) (pins : List (Addr × Obj)) (s : Shared) (σ : St) (H : Hp) (Q : List V -> Hp -> Prop), Inv X pins σ H s -> t σ H Q -> wpAny (model X.prog X.w) X.A (evalAll ((backToKw pos (keywordEach kws X.env)).map (·.2))) (AP X pins σ Q) X.xe s
section
variable {X : Cx} {CX : CXT} {k : Nat} {f C : Addr} {fd : FuncData} {ps ks : List Str} {sp : Sp} {E : XK} {x m : Str} {p pos apos kpos : Pos} {e o : Expr} {es : List Expr} {kws : List Keyword} {te ta : TE} {t tk : TA} {nm : Option Str}
theorem X7 : PK X [] xZ := fun _ _ _ _ H Q I h => wpAny_evalAll_nil ⟨[], H, I, .nil, h⟩
theorem Uo (ha : PE X e te) (hr : PK X kws t) : PK X (⟨nm, e, kpos⟩ :: kws) (jL te t) := by
 intro pos pins s σ H Q I h
 show wpAny _ _ (evalAll ((do let v <- eval e X.env; standAt pos; pure v) :: (backToKw pos (keywordEach kws X.env)).map (·.2))) _ _ s
 refine wpAny_evalAll_cons (wpAny_bind (thE (ha pins s σ H _ I h) fun u s1 x H1 I1 r1 q1 => wpAny_bind (wpAny_standAt (wpAny_pure ?_))))
 exact thA (hr pos pins s1 σ H1 _ I1 q1) fun us s2 xs H2 I2 r2 q2 => ⟨x :: xs, H2, I2, .cons r1 r2, q2⟩
variable {g : List Value -> List Value -> List Value} {gV : List V -> List V -> List V}
end
structure bF (N P : List Str) (sc : Scope) : Prop where
 kind : sc.kind = .function
 co : sc.isCoroutine = false
 gen : sc.isGenerator = false
 nd : N.Nodup
 pre : N.take P.length = P
 par : ∀ x ∈ P, sc.names.lookup x = some .local \/ sc.names.lookup x = some .cell
 nofree : ∀ y ∈ sc.names, y.2 ≠ .free
theorem zT {kindOf : Str -> Option NameKind} {x : Str} : ∀ {binds : List (Str × Value)} {m : Str -> Option Value}, (∀ v, (x, v) ∉ binds) -> bindL kindOf binds m x = m x
 | [], _, _ => rfl
 | (n, v) :: r, m, h => by
  unfold bindL
  rw [zT fun w hw => h w (List.mem_cons_of_mem _ hw)]
  split
  ·have : x ≠ n := by rintro rfl; exact h v List.mem_cons_self
   simp [this]
  ·rfl
theorem zV {kindOf : Str -> Option NameKind} {x : Str} : ∀ {binds : List (Str × Value)} {m : Str -> Option Value}, (∀ v, (x, v) ∉ binds) -> bindC kindOf binds m x = m x
 | [], _, _ => rfl
 | (n, v) :: r, m, h => by
  unfold bindC
  rw [zV fun w hw => h w (List.mem_cons_of_mem _ hw)]
  split
  ·rfl
  ·have : x ≠ n := by rintro rfl; exact h v List.mem_cons_self
   simp [this]
theorem zU {kindOf : Str -> Option NameKind} {x : Str} {v : Value} : ∀ {P : List Str} {vs : List Value} {i : Nat} {m : Str -> Option Value}, P.Nodup -> P[i]? = some x -> vs[i]? = some v -> kindOf x = some .local ->
  bindL kindOf (P.zip vs) m x = some v
 | [], _, _, _, _, h, _, _ => by simp at h
 | _ :: _, [], _, _, _, _, h, _ => by simp at h
 | p :: P, w :: vs, 0, m, nd, h1, h2, hk => by
  simp at h1 h2; subst h1; subst h2
  show bindL kindOf ((p, w) :: P.zip vs) m p = _
  unfold bindL
  rw [zT fun v hv => (List.nodup_cons.mp nd).1 (List.of_mem_zip hv).1, if_pos hk]
  simp
 | p :: P, w :: vs, i + 1, m, nd, h1, h2, hk => by
  show bindL kindOf ((p, w) :: P.zip vs) m x = _
  unfold bindL
  exact zU (i := i) (List.nodup_cons.mp nd).2 (by simpa using h1) (by simpa using h2) hk
theorem zW {kindOf : Str -> Option NameKind} {x : Str} {v : Value} : ∀ {P : List Str} {vs : List Value} {i : Nat} {m : Str -> Option Value}, P.Nodup -> P[i]? = some x -> vs[i]? = some v -> kindOf x ≠ some .local ->
  bindC kindOf (P.zip vs) m x = some v
 | [], _, _, _, _, h, _, _ => by simp at h
 | _ :: _, [], _, _, _, _, h, _ => by simp at h
 | p :: P, w :: vs, 0, m, nd, h1, h2, hk => by
  simp at h1 h2; subst h1; subst h2
  show bindC kindOf ((p, w) :: P.zip vs) m p = _
  unfold bindC
  rw [zV fun v hv => (List.nodup_cons.mp nd).1 (List.of_mem_zip hv).1, if_neg hk]
  simp
 | p :: P, w :: vs, i + 1, m, nd, h1, h2, hk => by
  show bindC kindOf ((p, w) :: P.zip vs) m x = _
  unfold bindC
  exact zW (i := i) (List.nodup_cons.mp nd).2 (by simpa using h1) (by simpa using h2) hk
def start (N : List Str) (vs : List V) : St := vs.map some ++ List.replicate (N.length - vs.length) none
def yE (CX : CXT) (P : Program) (w : World) (K : PySem.W.Frag) (mg : Str -> Option Value) (base : Heap) (N : List Str) (qual : Str) (scope : Scope) (f : Addr) (cd : Value) (A : Around) (outer : List Env) (s : Shared) (H : Hp) (E : XK) : Cx where
 prog := P
 w := w
 K := K
 mg := mg
 base := base
 A := A.deeper (envOfC qual scope s.heap.objs.size f cd)
 N := N
 s₀ := s
 H₀ := H
 env := envOfC qual scope s.heap.objs.size f cd
 outer := outer
 stack := envOfC qual scope s.heap.objs.size f cd :: outer
 ex := []
 calm := true
 fn := fun _ => true
 pn := []
 xe := fun e s' => wpAny (model P w) (A.deeper (envOfC qual scope s.heap.objs.size f cd)) (leaving (envOfC qual scope s.heap.objs.size f cd) e) (fun _ s'' => CX outer H s E e s'') (fun e' s'' => CX outer H s E e' s'') s'
theorem DY {sc : Scope} {n : Nat} {x : Str} (h : sc.names.lookup x = some .cell) : ∃ c, (cellsFrom n sc.names []).lookup x = some c := by
 have q := PySem.W.cellsFrom_some sc.names n [] (.inl h)
 exact Option.isSome_iff_exists.mp q
theorem Ky {CX : CXT} {P : Program} {w : World} {K : PySem.W.Frag} {mg : Str -> Option Value} {base : Heap} {N ps : List Str} {qual : Str} {scope : Scope} {f : Addr} {cd : Value} {A : Around} {outer : List Env} {s s1 : Shared} {H : Hp} {E : XK} {us : List Value} {vs : List V}
  (S : bF N ps scope) (hd : A.handled = none) (e0 : G6 P w K mg base A outer s H) (hl : vs.length = ps.length) (r : Vals vs us)
  (x : InCallC s s.heap.objs.size (bindL (envOfC qual scope s.heap.objs.size f cd).kindOf (ps.zip us) fun _ => none) (cellsFrom (s.heap.objs.size + 1) scope.names []) (bindC (envOfC qual scope s.heap.objs.size f cd).kindOf (ps.zip us) fun _ => none) s1) :
  Inv (yE CX P w K mg base N qual scope f cd A outer s H E) [] (start N vs) H s1 := by
 have hpl : ps.length <= N.length := by have := congrArg List.length S.pre; rw [List.length_take] at this; omega
 obtain ⟨h1, tk, rfl, hk⟩ := x.done
 have noA : ∀ b : Addr, b ∉ (yE CX P w K mg base N qual scope f cd A outer s H E).ex := fun b z => absurd (show b ∈ ([] : List Addr) from z) (by simp)
 refine ⟨⟨e0.mod, S.kind, rfl, rfl, Nat.le_refl _, fun y z c h1 h2 => ?_, fun y hy => ?_, fun y c _ h => ?_, fun _ => hd, Around.frames_deeper e0.frames, .inr ⟨rfl, rfl⟩, fun b z => absurd z (noA b), e0.bs, e0.bsz, fun b _ _ => noA b, fun b z => absurd z (noA b), e0.pB, e0.frf⟩,
  rfl, e0.bare, Un.kept hk, ⟨_, x.toInCall.ns, fun i y v h1 h2 h3 => ?_⟩, fun y c h => ⟨_, x.cell y c h⟩, e0.hok.fresh (Nat.le_refl _), fun y c h => ?_, fun p hp => absurd (show p ∈ ([] : List (Addr × Obj)) from hp) (by simp), e0.hok.kept hk, ?_⟩
 ·exact name_of_addr x.apart (PySem.mem_of_lookup h1) (PySem.mem_of_lookup h2)
 ·have hy : scope.names.lookup y = some .cell \/ scope.names.lookup y = some .free := hy
  rcases hy with hy | hy
  ·exact DY hy
  ·exact absurd rfl (S.nofree _ (PySem.mem_of_lookup hy))
 ·exact Nat.le_of_lt (x.above y c (PySem.mem_of_lookup h))
 ·have hi : i < vs.length := by
   unfold start at h2
   by_cases hi : i < vs.length
   ·exact hi
   ·rw [List.getElem?_append_right (by simpa using hi)] at h2
    rw [List.getElem?_replicate] at h2
    split at h2 <;> cases h2
  have ha : vs[i]? = some v := by
   unfold start at h2
   rw [List.getElem?_append_left (by simpa using hi), List.getElem?_map] at h2
   cases e : vs[i]? with
   | none => rw [e] at h2; cases h2
   | some a => rw [e] at h2; cases h2; rfl
  obtain ⟨u, hu, rv⟩ := r.get ha
  have hp : ps[i]? = some y := by
   rw [<- S.pre, List.getElem?_take_of_lt (by omega)]; exact h1
  have ndP : ps.Nodup := by rw [<- S.pre]; exact S.nd.sublist (List.take_sublist _ _)
  refine ⟨u, rv, ?_⟩
  rcases S.par y (List.mem_of_getElem? hp) with k | k
  ·exact .inl ⟨k, zU ndP hp hu k⟩
  ·obtain ⟨c, e⟩ := DY (n := s.heap.objs.size + 1) k
   refine .inr ⟨.inl k, c, e, ?_⟩
   have q := x.cell y c e
   rw [zW ndP hp hu (by show scope.names.lookup y ≠ _; rw [k]; decide)] at q
   exact q
 ·exact e0.hok.fresh (Nat.le_of_lt (x.above y c (PySem.mem_of_lookup h)))
 ·unfold start
  show _ = N.length
  rw [List.length_append, List.length_map, List.length_replicate]
  omega
theorem WN {CX : CXT} {P : Program} {w : World} {K : PySem.W.Frag} {mg : Str -> Option Value} {base : Heap} {k : Nat} {f : Addr} {name qual : Str} {params : Arguments} {body : List Stmt} {scope : Scope} {dV kV doc pm cdv ct oc : Value} {an od : Option Addr}
  {osl : Array (Option Value)} {N ps : List Str} {sp : Sp} (lk : K.lookup f = some ⟨oc, od, .func (PySem.W.fnOf name qual params body scope dV kV doc pm an cdv ct), osl⟩) (hcd : PySem.W.codeIn K cdv qual = true) (S : bF N ps scope)
  (len : ∀ vs H Q E, sp vs H Q E -> vs.length = ps.length)
  (hbody : ∀ (A : Around) (outer : List Env) (s : Shared) (H : Hp) (vs : List V) (Q : VK) (E : XK), gB k (A.deeper (envOfC qual scope s.heap.objs.size f cdv)) -> sp vs H Q E ->
   ∃ t, PSs (yE CX P w K mg base N qual scope f cdv A outer s H E) body t /\ t { nx := fun _ H' => Q .non H', rt := Q } (start N vs) H) :
  dh P w K mg base CX (k + 1) f (PySem.W.fnOf name qual params body scope dV kV doc pm an cdv ct) ps sp := by
 refine ⟨len, fun A outer s H args us vs Q E hr e0 hb r hsp => ?_⟩
 have hl := len _ _ _ _ hsp
 have KX : K.In s.heap := e0.mod.kin.keeps fun b o e => (e0.bs b o e).1
 have lim : s.heap.NoLimit := e0.mod.nolimit.keeps fun b o e => (e0.bs b o e).1
 have hkind : ∀ y ∈ ps.zip us, scope.names.lookup y.1 = some .local \/ (scope.names.lookup y.1 = some .cell /\ ((cellsFrom (s.heap.objs.size + 1) scope.names []).lookup y.1).isSome = true) := fun ⟨n, v⟩ hy => by
  rcases S.par n (List.of_mem_zip hy).1 with q | q
  ·exact .inl q
  ·exact .inr ⟨q, PySem.W.cellsFrom_some _ _ _ (.inl q)⟩
 refine codeAny_call_function hr.depth (KX _ _ lk) rfl S.co S.gen rfl (PySem.W.codeRec_of KX hcd) (hb _ _ _ _ ?_)
 refine wpAny_newFunctionEnv_cells S.kind hkind fun env he s1 x => ?_
 subst he
 refine ⟨lim.keeps x.toInCall.keep, codeAny_func ?_⟩
 obtain ⟨t, ht, hq⟩ := hbody A outer s H vs Q E (hr.deeper _) hsp
 have I : Inv (yE CX P w K mg base N qual scope f cdv A outer s H E) [] (start N vs) H s1 := Ky S hr.hd e0 hl r x
 refine wpAny_mono (ht [] s1 (start N vs) H _ I hq) (fun fl s' hs => ?_) fun e s' hs => hs
 have fin : ∀ {σ' : St} {H' : Hp} {v : V} {u : Value}, Inv (yE CX P w K mg base N qual scope f cdv A outer s H E) [] σ' H' s' -> RelV v u -> Q v H' -> CE outer P w H s Q u s' :=
  fun {σ' H' v u} J rv q => ⟨v, H', J.os, J.bare, J.base, J.hok, rv, q⟩
 cases fl with
 | ret u =>
  obtain ⟨v, σ', H', J, rv, q⟩ := hs
  exact fin J rv q
 | next =>
  obtain ⟨σ', H', J, q⟩ := hs
  exact fin (v := V.non) (u := Value.none) J rfl q
 | brk =>
  obtain ⟨_, _, _, q⟩ := hs
  exact False.elim q
 | cont =>
  obtain ⟨_, _, _, q⟩ := hs
  exact False.elim q
section
variable {X : Cx} {x : Str} {p pos : Pos} {e : Expr} {es : List Expr} {t : TA} {id T : String} {r : List V -> Hp -> VK -> Prop}
def tCB (r : List V -> Hp -> VK -> Prop) (t : TA) : TE := fun σ H Q => t σ H fun vs H1 => r vs H1 Q
theorem O1 (hc : dH X (.builtin id) r) (hg : Gl X x) (hm : X.mg x = none) (hv : bootBuiltins x = some (.builtin id)) (ha : PA X (e :: es) t) (hn : x ≠ "__name__" := by decide) (hdb : (x == ("__debug__" : Str)) = false := by decide)
  (he : starEach (e :: es) X.env = (false, eval e X.env) :: starEach es X.env := by rfl) (hpl : (backTo pos (starEach es X.env)).any (·.1) = false := by rfl) : PE X (.Call (.Name x p) (e :: es) [] pos) (tCB r t) := by
 intro pins s σ H Q I h
 refine wpAny_Call_Name_kw (qL I hg hm hv ?_ hn hdb)
 exact PyProof.Rows.callWith_builtin1 (thA (ha pos pins s σ H _ I h) fun us s1 vs H1 I1 r1 q1 => hc pins s1 σ H1 vs us Q I1 r1 q1) he hpl
theorem J0 (hc : dH X (.type T) r) (hg : Gl X x) (hm : X.mg x = none) (hv : bootBuiltins x = some (.type T)) (ha : PA X (e :: es) t) (hn : x ≠ "__name__" := by decide) (hdb : (x == ("__debug__" : Str)) = false := by decide)
  (he : starEach (e :: es) X.env = (false, eval e X.env) :: starEach es X.env := by rfl) (hpl : (backTo pos (starEach es X.env)).any (·.1) = false := by rfl) : PE X (.Call (.Name x p) (e :: es) [] pos) (tCB r t) := by
 intro pins s σ H Q I h
 refine wpAny_Call_Name_kw (qL I hg hm hv ?_ hn hdb)
 exact PyProof.Rows.callWith_type1 (thA (ha pos pins s σ H _ I h) fun us s1 vs H1 I1 r1 q1 => hc pins s1 σ H1 vs us Q I1 r1 q1) he hpl
end
end L2
namespace HT
open PySem PyProof.Rows
section
open PySem.SeqAt
open PySem.AutoSeq1 (wpAny_loadPart')
open PySem.MeetsSeq PySem.MeetsSeq2 PySem.MeetsSeq3
end
section
variable {prog : Program} {w : World} {A : Around} {E : Value -> Shared -> Prop} {s : Shared}
def sIx (n d : Nat) : Option Int -> Nat
 | none => d
 | some v => if v < 0 then (v + (n : Int)).toNat else min v.toNat n
theorem Xi (n d : Nat) (hd : d <= n) (o : Option Int) : sIx n d o <= n := by
 cases o with
 | none => exact hd
 | some v =>
  show (if v < 0 then (v + (n : Int)).toNat else min v.toNat n) <= n
  by_cases hv : v < 0
  ·rw [if_pos hv]; omega
  ·rw [if_neg hv]; exact Nat.min_le_right _ _
theorem Jq (v : Int) (n d : Nat) : (if v < 0 then max (v + (n : Int)) 0 else min v (n : Int)) = ((sIx n d (some v) : Nat) : Int) := by
 show (if v < 0 then max (v + (n : Int)) 0 else min v (n : Int)) = (((if v < 0 then (v + (n : Int)).toNat else min v.toNat n) : Nat) : Int)
 by_cases hv : v < 0
 ·simp only [if_pos hv]; omega
 ·simp only [if_neg hv]; omega
theorem G4 (lo hi : Option Int) (n : Nat) : Builtin.Slice.sliceAdjust lo hi 1 (n : Int) = (((sIx n 0 lo : Nat) : Int), ((sIx n n hi : Nat) : Int)) := by
 have h1 : ¬ ((1 : Int) < 0) := by omega
 unfold Builtin.Slice.sliceAdjust
 simp only [h1, if_false]
 refine Prod.ext ?_ ?_
 ·cases lo with
  | none => rfl
  | some v => exact Jq v n 0
 ·cases hi with
  | none => rfl
  | some v => exact Jq v n n
theorem Fw (i j : Nat) : Builtin.Slice.slicePlaces (i : Int) (j : Int) 1 = j - i := by
 unfold Builtin.Slice.slicePlaces
 have h1 : (1 : Int) > 0 := by omega
 simp only [h1, if_true, Int.ediv_one]
 split <;> omega
theorem vW {v : Value} {o : Option Int} {Q : Option Int -> Shared -> Prop} (p : IsPart v o) (h : Q o s) : wpAny (model prog w) A (Builtin.Slice.slicePartIndex v) Q E s := by
 cases p with
 | none => exact slicePart_none h
 | int i t => exact slicePart_int h
theorem tO {sl : Addr} {vl vu : Value} {lo hi : Option Int} {n : Nat} {Q : Int × Int × Nat -> Shared -> Prop} (hs : s.heap.IsSliceOf sl vl vu .none) (pl : IsPart vl lo) (pu : IsPart vu hi)
  (h : Q (((sIx n 0 lo : Nat) : Int), 1, sIx n n hi - sIx n 0 lo) s) : wpAny (model prog w) A (Builtin.Slice.sliceApplied (.ref sl) (pure (n : Int))) Q E s := by
 obtain ⟨os, hos, hcs, hds⟩ := id hs
 unfold Builtin.Slice.sliceApplied Builtin.Slice.sliceFields
 refine wpAny_bind (wpAny_bind (wpAny_field hos hds (x := vl) rfl (wpAny_bind (wpAny_field hos hds (x := vu) rfl (wpAny_bind (wpAny_field hos hds (x := .none) rfl (wpAny_pure ?_)))))))
 refine wpAny_bind (slicePart_none ?_)
 show wpAny _ _ (if ((1 : Int) == 0) = true then _ else _) _ _ s
 rw [if_neg (by decide)]
 refine wpAny_bind (vW pl (wpAny_bind (vW pu (wpAny_bind (wpAny_pure ?_)))))
 show wpAny _ _ (match Builtin.Slice.sliceAdjust lo hi 1 (n : Int) with | (lo, hi) => pure (lo, (1 : Int), Builtin.Slice.slicePlaces lo hi 1)) _ _ s
 rw [G4 lo hi n]
 show wpAny _ _ (pure (((sIx n 0 lo : Nat) : Int), (1 : Int), Builtin.Slice.slicePlaces ((sIx n 0 lo : Nat) : Int) ((sIx n n hi : Nat) : Int) 1)) _ _ s
 rw [Fw]
 exact wpAny_pure h
theorem Oq (xs : Array Value) (i k : Nat) : ((List.range k).filterMap fun (m : Nat) => xs[((i : Int) + (m : Int) * 1).toNat]?).toArray = ((xs.toList.drop i).take k).toArray := by
 have e : (fun (m : Nat) => xs[((i : Int) + (m : Int) * 1).toNat]?) = fun m => xs[i + m]? := by
  funext m
  have : ((i : Int) + (m : Int) * 1).toNat = i + m := by omega
  rw [this]
 rw [e]
 have := pick_run xs i k
 rw [List.filterMap_map] at this
 have e2 : ((fun x => xs[x]?) ∘ fun x => i + x) = fun m => xs[i + m]? := rfl
 rw [e2] at this
 rw [this]
theorem sI {t sl : Addr} {items : Array Value} {vl vu : Value} {lo hi : Option Int} {Q : Value -> Shared -> Prop} (ht : IsTup s.heap t items) (hs : s.heap.IsSliceOf sl vl vu .none) (pl : IsPart vl lo) (pu : IsPart vu hi)
  (hw : ¬ (sIx items.size 0 lo = 0 /\ sIx items.size items.size hi = items.size))
  (h : Q (.ref s.heap.objs.size) { s with heap := s.heap.push { cls := .type "tuple", data := .seq ((items.toList.drop (sIx items.size 0 lo)).take (sIx items.size items.size hi - sIx items.size 0 lo)).toArray } })
  (hsz : items.size <= sizeLine) : wpAny (model prog w) A (getItem (.ref t) (.ref sl)) Q E s := by
 have htake : sizeOk (.seq ((items.toList.drop (sIx items.size 0 lo)).take (sIx items.size items.size hi - sIx items.size 0 lo)).toArray) := by
  show ((items.toList.drop (sIx items.size 0 lo)).take (sIx items.size items.size hi - sIx items.size 0 lo)).toArray.size <= sizeLine
  rw [List.size_toArray, List.length_take, List.length_drop, Array.length_toList]
  omega
 have hj : sIx items.size items.size hi <= items.size := Xi _ _ (Nat.le_refl _) hi
 obtain ⟨os, hos, hcs, hds⟩ := id hs
 have hTs : s.TypeIs (.ref sl) "slice" := ⟨os, hos, hcs⟩
 unfold getItem
 try with_reducible refine wpAny_holding ?_
 first | refine wpAny_bind (wpAny_pure ?_) | skip
 refine wpAny_bind (wpAny_sequenceKey ht.typeIs (by decide) ?_)
 refine wpAny_bind (wpAny_callSpecial?_slot (name := Str.ofString "__getitem__") ht.typeIs PyProof.Rows.slot_tuple_getitem
  (wpAny_call_entry PyProof.Rows.slot_tuple_getitem ht.typeIs entry_tuple_getitem ?_ (args_tuple_getitem _ _)))
 show wpAny _ _ (Builtin.Tuple.tupleItemsOf (.ref t) >>= _) _ _ s
 refine wpAny_bind (tupleItemsOf_ ht ?_)
 refine wpAny_bind (wpAny_typeOf hTs ?_)
 rw [if_pos (by decide)]
 refine wpAny_bind (tO hs pl pu ?_)
 have hno : ¬ ((((sIx items.size 0 lo : Nat) : Int) == 0 && (1 : Int) == 1 && (sIx items.size items.size hi - sIx items.size 0 lo) == items.size) = true) := by
  intro q
  rw [Bool.and_eq_true, Bool.and_eq_true] at q
  have q1 : ((sIx items.size 0 lo : Nat) : Int) = 0 := eq_of_beq q.1.1
  have q2 : sIx items.size items.size hi - sIx items.size 0 lo = items.size := eq_of_beq q.2
  exact hw ⟨by omega, by omega⟩
 show wpAny _ _ (if (((sIx items.size 0 lo : Nat) : Int) == 0 && (1 : Int) == 1 && (sIx items.size items.size hi - sIx items.size 0 lo) == items.size) = true then _ else _) _ _ s
 rw [if_neg hno, Oq]
 first
  | exact wpAny_bind (m := Builtin.Tuple.tupleExact _) (wpAny_newObj_type (wpAny_pure ⟨_, rfl, wpAny_pure h⟩) htake)
  | exact wpAny_bind (m := Builtin.Tuple.tupleExact _) (wpAny_newObj_type (wpAny_bind (wpAny_pure (wpAny_pure ⟨_, rfl, wpAny_pure h⟩))) htake)
  | exact wpAny_bind (wpAny_bind (m := Builtin.Tuple.tupleExact _) (wpAny_newObj_type (wpAny_pure (wpAny_pure ⟨_, rfl, wpAny_pure h⟩)) htake))
  | exact wpAny_bind (wpAny_bind (m := Builtin.Tuple.tupleExact _) (wpAny_newObj_type (wpAny_pure ⟨_, rfl, wpAny_pure h⟩) htake))
end
end HT
namespace L2
open PySem PySem.Spec PyProof.Rows
abbrev TO := St -> Hp -> (Option Int -> Hp -> Prop) -> Prop
def PO (X : Cx) (e : Option Expr) (t : TO) : Prop :=
 ∀ (pins : List (Addr × Obj)) (s : Shared) (σ : St) (H : Hp) (Q : Option Int -> Hp -> Prop), Inv X pins σ H s -> t σ H Q ->
  wpAny (model X.prog X.w) X.A (evalPart e X.env) (fun u s' => ∃ o H', Inv X pins σ H' s' /\ IsPart u o /\ Q o H') X.xe s
def Ae : TO := fun _ H Q => Q none H
def Ls (t : TE) : TO := fun σ H Q => t σ H fun x H1 => ∃ i, x = .int i /\ Q (some i) H1
section
variable {X : Cx} {e : Expr} {te : TE} {lo hi : Option Expr} {tl th : TO} {pos p2 : Pos}
theorem Um : PO X none Ae := by
 intro pins s σ H Q I h
 rw [evalPart_none]
 exact wpAny_pure ⟨none, H, I, .none, h⟩
theorem Ul (h : PE X e te) : PO X (some e) (Ls te) := by
 intro pins s σ H Q I hw
 rw [evalPart_some]
 refine thE (h pins s σ H _ I hw) fun u s1 x H1 I1 r1 q1 => ?_
 obtain ⟨i, rfl, q⟩ := q1
 obtain ⟨t, rfl⟩ := r1
 exact ⟨some i, H1, I1, .int i t, q⟩
def SlR (X : Cx) (r : V -> Option Int -> Option Int -> Hp -> VK -> Prop) : Prop :=
 ∀ (pins : List (Addr × Obj)) (s : Shared) (σ : St) (H : Hp) (x : V) (v vl vu : Value) (lo hi : Option Int) (sl : Addr) (Q : VK), Inv X pins σ H s -> RelV x v -> s.heap.IsSliceOf sl vl vu .none -> IsPart vl lo -> IsPart vu hi -> r x lo hi H Q ->
  ∃ T id, typeLookup (.type T) "__getitem__" = pure (some (.builtin id)) /\ s.TypeIs v T /\ wpAny (model X.prog X.w) X.A (getItem v (.ref sl)) (EP X pins σ Q) X.xe s
def tSl (r : V -> Option Int -> Option Int -> Hp -> VK -> Prop) (te : TE) (tl th : TO) : TE := fun σ H Q => te σ H fun x H1 => tl σ H1 fun l H2 => th σ H2 fun u H3 => r x l u H3 Q
theorem Oz {r : V -> Option Int -> Option Int -> Hp -> VK -> Prop} (hr : SlR X r) (he : PE X e te) (hl : PO X lo tl) (hu : PO X hi th) : PE X (.Subscript e (.Slice lo hi none p2) pos) (tSl r te tl th) := by
 intro pins s σ H Q I h
 refine Subscript_ (thE (he pins s σ H _ I h) fun v s1 x H1 I1 r1 q1 => ?_)
 refine wpAny_Slice (thn (hl pins s1 σ H1 _ I1 q1) fun vl s2 ⟨l, H2, I2, pl, q2⟩ => thn (hu pins s2 σ H2 _ I2 q2) fun vu s3 ⟨u, H3, I3, pu, q3⟩ => ?_)
 rw [evalPart_none]
 refine wpAny_pure ?_
 have I4 : Inv X pins σ H3 { s3 with heap := s3.heap.push { cls := .type "slice", data := .fields #[vl, vu, .none] } } := I3.kept (t' := s3.toks) fun b ob q => Heap.get?_push_of_some _ q
 obtain ⟨T, id, hT, ht, hg⟩ := hr pins { s3 with heap := s3.heap.push { cls := .type "slice", data := .fields #[vl, vu, .none] } } σ H3 x v vl vu l u s3.heap.objs.size Q I4 r1 (Heap.IsSliceOf.new ..) pl pu q3
 show wpAny (model X.prog X.w) X.A (subscriptTail e (.Slice lo hi none p2) v (.ref s3.heap.objs.size)) (EP X pins σ Q) X.xe { s3 with heap := s3.heap.push { cls := .type "slice", data := .fields #[vl, vu, .none] } }
 exact tail_any (ops := [.ref s3.heap.objs.size, v]) ht hT hg (by with_unfolding_all rfl)
def j8 (xs : List V) (lo hi : Option Int) : List V := (xs.drop (HT.sIx xs.length 0 lo)).take (HT.sIx xs.length xs.length hi - HT.sIx xs.length 0 lo)
theorem uV (xs : List V) (lo hi : Option Int) : (j8 xs lo hi).length <= xs.length := by
 unfold j8
 rw [List.length_take, List.length_drop]
 omega
def aau (K : PySem.W.Frag) : V -> Option Int -> Option Int -> Hp -> VK -> Prop := fun x lo hi H Q => ∃ a xs, x = .ref a /\ SqT K H a xs /\
 ¬ (HT.sIx xs.length 0 lo = 0 /\ HT.sIx xs.length xs.length hi = xs.length) /\ ∀ p, H p = none -> Q (.ref p) (upd H p (.tup (j8 xs lo hi)))
theorem Xh : SlR X (aau X.K) := by
 intro pins s σ H x v vl vu lo hi sl Q I rx hs pl pu h
 obtain ⟨a, xs, rfl, hx, hw, q⟩ := h
 cases rx
 obtain ⟨its, r, ht, hz⟩ := I.tuple hx
 have hlen : its.toArray.size = xs.length := by rw [List.size_toArray]; exact r.length.symm
 refine ⟨"tuple", _, PyProof.Rows.slot_tuple_getitem.lookup, ht.typeIs, ?_⟩
 refine HT.sI ht hs pl pu (by rw [hlen]; exact hw) ?_ (by rw [hlen]; exact hz)
 rw [hlen]
 refine ⟨.ref s.heap.objs.size, _, I.laid (t' := s.toks) (o := .tup (j8 xs lo hi)) (fun b ob q => Heap.get?_push_of_some _ q) (Nat.le_refl _) ?_, rfl, q _ (I.hok.fresh (Nat.le_refl _))⟩
 exact ⟨Nat.le_trans (uV xs lo hi) hz, _, (r.drop (HT.sIx xs.length 0 lo)).take (HT.sIx xs.length xs.length hi - HT.sIx xs.length 0 lo), IsTup.new _ _⟩
end
def ixN (n : Nat) (i : Int) : Option Nat := if 0 <= i then (if i < n then some i.toNat else none) else if -(n : Int) <= i then some (i + n).toNat else none
def atI {α : Type} (xs : List α) (i : Int) : Option α := (ixN xs.length i).bind fun j => xs[j]?
theorem IK {n : Nat} {i : Int} {j : Nat} (h : ixN n i = some j) : seqIndex? i n = some j /\ j < n /\ -(n : Int) <= i /\ i < n := by
 unfold ixN at h
 by_cases h0 : 0 <= i
 ·rw [if_pos h0] at h
  by_cases h1 : i < n
  ·rw [if_pos h1] at h
   have e : i.toNat = j := Option.some.inj h
   exact ⟨by rw [seqIndex_of h0 h1, e], by omega, by omega, h1⟩
  ·rw [if_neg h1] at h; cases h
 ·rw [if_neg h0] at h
  by_cases h1 : -(n : Int) <= i
  ·rw [if_pos h1] at h
   have e : (i + n).toNat = j := Option.some.inj h
   exact ⟨by rw [seqIndex_neg (by omega) h1, e], by omega, h1, by omega⟩
  ·rw [if_neg h1] at h; cases h
theorem BX {α : Type} {xs : List α} {i : Int} {v : α} (h : atI xs i = some v) : ∃ j, seqIndex? i xs.length = some j /\ xs[j]? = some v /\ j < xs.length /\ -(xs.length : Int) <= i /\ i < xs.length := by
 unfold atI at h
 cases e : ixN xs.length i with
 | none => rw [e] at h; cases h
 | some j =>
  rw [e] at h
  obtain ⟨h1, h2, h3, h4⟩ := IK e
  exact ⟨j, h1, h, h2, h3, h4⟩
theorem cT {α : Type} {xs : List α} {j : Nat} {v : α} (h : xs[j]? = some v) : atI xs (j : Int) = some v := by
 have hj : j < xs.length := (List.getElem?_eq_some_iff.mp h).1
 have e : ixN xs.length (j : Int) = some j := by
  unfold ixN
  rw [if_pos (by omega), if_pos (by omega)]; simp
 unfold atI; rw [e]; exact h
def Js (b : Expr) : Prop := ∀ o i, subscripted b false o i = operate [o, i] (getItem o i)
def IxR (X : Cx) (r : R2) : Prop :=
 ∀ (value slice : Expr) (pins : List (Addr × Obj)) (s : Shared) (σ : St) (H : Hp) (x y : V) (v u : Value) (Q : VK), Inv X pins σ H s -> RelV x v -> RelV y u -> r x y H Q ->
  subscripted slice false v u = operate [v, u] (getItem v u) -> wpAny (model X.prog X.w) X.A (subscriptTail value slice v u) (EP X pins σ Q) X.xe s
def MtR (X : Cx) (id : String) (r : V -> List V -> Hp -> VK -> Prop) : Prop :=
 ∀ (pins : List (Addr × Obj)) (s : Shared) (σ : St) (H : Hp) (x : V) (xs : List V) (v : Value) (us : List Value) (Q : VK), Inv X pins σ H s -> RelV x v -> Vals xs us -> r x xs H Q ->
  wpAny (model X.prog X.w) X.A (call (.builtin id) (v :: us)) (EP X pins σ Q) X.xe s
section
variable {X : Cx} {a b : Expr} {ta tb : TE} {pos : Pos}
theorem ZR {r : R2} (hr : IxR X r) (ha : PE X a ta) (hb : PE X b tb) (hs : Js b) : PE X (.Subscript a b pos) (tOp r ta tb) := by
 intro pins s σ H Q I h
 exact Subscript_ (Zc ha hb I h fun v u s2 x y H2 I2 rx ry q => hr a b pins s2 σ H2 x y v u Q I2 rx ry q (hs _ _))
def Zw (K : PySem.W.Frag) : R2 := fun x y H Q => ∃ p xs i v, x = .ref p /\ y = .int i /\ SqL K H p xs /\ atI xs i = some v /\ Q v H
def aax (K : PySem.W.Frag) : R2 := fun x y H Q => ∃ p xs i v, x = .ref p /\ y = .int i /\ SqT K H p xs /\ atI xs i = some v /\ Q v H
def aay : R2 := fun x y H Q => ∃ z i c, x = .str z /\ y = .int i /\ z.length <= sizeLine /\ atI z.cps.toList i = some c /\ Q (.str ⟨#[c]⟩) H
theorem Iw : IxR X (Zw X.K) := by
 intro value slice pins s σ H x y v u Q I rx ry h hs
 obtain ⟨p, xs, i, z, rfl, rfl, hq, he, q⟩ := h
 cases rx
 obtain ⟨t, rfl⟩ := ry
 obtain ⟨its, r, pl, hz⟩ := I.list hq
 obtain ⟨j, h1, h2, h3, h4, h5⟩ := BX he
 obtain ⟨w, ew, rw'⟩ := r.get h2
 have hl := r.length
 have hn := oV
 have fin : EP X pins σ Q w s := ⟨z, H, I, rw', q⟩
 by_cases h0 : 0 <= i
 ·have hj : i.toNat = j := by
   rw [seqIndex_of h0 h5] at h1
   exact Option.some.inj h1
  exact item_listR pl.isList h0 (by omega) (by rw [hj]; simpa using ew) fin hs
 ·have hj : (i + (its.toArray.size : Int)).toNat = j := by
   rw [seqIndex_neg (by omega) h4] at h1
   rw [List.size_toArray, <- hl]
   exact Option.some.inj h1
  exact subscriptTail_builtinR (x := w) pl.isList.typeIs slot_list_getitem.lookup
   (wpAny_getItem_list_neg (Q := fun r s' => r = w /\ EP X pins σ Q r s') pl.isList (by omega) (by rw [List.size_toArray] <;> omega) (by omega) (by rw [hj]; simpa using ew) ⟨rfl, fin⟩) hs
theorem YX : IxR X (aax X.K) := by
 intro value slice pins s σ H x y v u Q I rx ry h hs
 obtain ⟨p, xs, i, z, rfl, rfl, hq, he, q⟩ := h
 cases rx
 obtain ⟨t, rfl⟩ := ry
 obtain ⟨its, r, pl, hz⟩ := I.tuple hq
 obtain ⟨j, h1, h2, h3, h4, h5⟩ := BX he
 obtain ⟨w, ew, rw'⟩ := r.get h2
 have hl := r.length
 have hn := oV
 have fin : EP X pins σ Q w s := ⟨z, H, I, rw', q⟩
 exact subscriptTail_builtinR (x := w) pl.typeIs slot_tuple_getitem.lookup
  (getItem_tuple (j := j) (Q := fun r s' => r = w /\ EP X pins σ Q r s') pl (by omega) (by omega) (by rw [List.size_toArray, <- hl]; exact h1) (by simpa using ew) ⟨rfl, fin⟩) hs
theorem YZ : IxR X aay := by
 intro value slice pins s σ H x y v u Q I rx ry h hs
 obtain ⟨z, i, c, rfl, rfl, hz, he, q⟩ := h
 obtain ⟨t, rfl⟩ := rx
 obtain ⟨t', rfl⟩ := ry
 obtain ⟨j, h1, h2, h3, h4, h5⟩ := BX he
 have hl : z.cps.toList.length = z.length := by simp [Str.length]
 rw [hl] at h1 h4 h5
 have hn := oV
 exact tail_any (typeIs_str s z t) slot_str_getitem.lookup (getItem_str (c := c) (by
  have e1 : decide (i < -(2 ^ 63 : Int)) = false := decide_eq_false (by omega)
  have e2 : decide (i ≥ 2 ^ 63) = false := decide_eq_false (by omega)
  rw [e1, e2, Bool.or_false]) (by rw [h1]; simpa using h2) ⟨.str ⟨#[c]⟩, H, I.tok _, ⟨_, rfl⟩, q⟩) hs
theorem Gd (its : List Value) (n j : Nat) (u : Value) : Obj.mapSeq (·.setIfInBounds j u) { cls := .type "list", data := .seq its.toArray n } = { cls := .type "list", data := .seq (its.set j u).toArray n } := by
 simp [Obj.mapSeq]
theorem Inv.lst {pins : List (Addr × Obj)} {σ : St} {H : Hp} {s : Shared} {p : Addr} {xs : List V} (I : Inv X pins σ H s) (h : H p = some (.lst xs)) :
  ∃ (its : List Value) (n : Nat), Vals xs its /\ s.heap.get? p = some { cls := .type "list", data := .seq its.toArray n } /\ xs.length <= sizeLine := by
 obtain ⟨z, its, n, r, e⟩ := I.hok p _ h
 exact ⟨its, n, r, e, z⟩
theorem Inv.YJ {pins : List (Addr × Obj)} {σ : St} {H : Hp} {s : Shared} {p : Addr} {xs ys : List V} {its its' : List Value} {n n' : Nat} {f : Obj -> Obj} (I : Inv X pins σ H s) (h : H p = some (.lst xs))
  (ho : s.heap.get? p = some { cls := .type "list", data := .seq its.toArray n }) (hf : f { cls := .type "list", data := .seq its.toArray n } = { cls := .type "list", data := .seq its'.toArray n' }) (r : Vals ys its') (hz : ys.length <= sizeLine) (t : Nat) :
  Inv X pins σ (upd H p (.lst ys)) { s with heap := s.heap.update p f, toks := t } := by
 have e : (s.heap.update p f).get? p = some { cls := .type "list", data := .seq its'.toArray n' } := by
  rw [Heap.get?_update_self f ho (by rw [hf] <;> rfl), hf]
 refine I.write (x := p) (e := p) (by rw [h]; trivial) (.inl rfl) (fun b u hb q => (Heap.get?_update_other _ _ (Ne.symm hb)).trans q) ⟨_, e⟩ ?_
 exact ⟨hz, its', n', r, e⟩
def Zv : V -> V -> V -> Hp -> (Hp -> Prop) -> Prop := fun o i v H Q => ∃ p xs k j, o = .ref p /\ i = .int k /\ H p = some (.lst xs) /\ ixN xs.length k = some j /\ Q (upd H p (.lst (xs.set j v)))
theorem set_list : RW X Zv := by
 intro pins s σ H o i v ov iv u Q I ro ri rv h
 obtain ⟨p, xs, k, j, rfl, rfl, hp, hj, q⟩ := h
 cases ro
 obtain ⟨t, rfl⟩ := ri
 obtain ⟨its, n, r, ho, hz⟩ := I.lst hp
 obtain ⟨h1, h2, h3, h4⟩ := IK hj
 have hl := r.length
 have hn := oV
 have I' : Inv X pins σ (upd H p (.lst (xs.set j v))) { s with heap := s.heap.update p (Obj.mapSeq (·.setIfInBounds j u)) } :=
  I.YJ hp ho (Gd its n j u) (r.set rv j) (by rw [List.length_set]; exact hz) s.toks
 by_cases h0 : 0 <= k
 ·have hk : k.toNat = j := by
   rw [seqIndex_of h0 h4] at h1
   exact Option.some.inj h1
  exact PySem.W.ki_setAt ho h0 (by omega) (by rw [List.size_toArray, <- hl]; exact h4) (by rw [hk]; exact ⟨_, I', q⟩)
 ·have hk : (k + (its.toArray.size : Int)).toNat = j := by
   rw [seqIndex_neg (by omega) h3] at h1
   rw [List.size_toArray, <- hl]
   exact Option.some.inj h1
  exact PySem.W.ki_setBack ho (by omega) (by rw [List.size_toArray, <- hl]; exact h3) (by omega) (by rw [hk]; exact ⟨_, I', q⟩)
theorem Ah (lo hi : Option Int) (n : Nat) : (sliceBounds lo hi none n).1 = ((HT.sIx n 0 lo : Nat) : Int) /\ (sliceBounds lo hi none n).2.1 = ((HT.sIx n n hi : Nat) : Int) /\ (sliceBounds lo hi none n).2.2 = 1 := by
 refine ⟨?_, ?_, rfl⟩
 ·cases lo with
  | none => simp [sliceBounds, HT.sIx]
  | some i =>
   simp only [sliceBounds, HT.sIx, Option.getD_none, show (1 : Int) > 0 by decide, if_true]
   by_cases h : i < 0
   ·simp only [h, if_true] <;> omega
   ·simp only [h, if_false] <;> omega
 ·cases hi with
  | none => simp [sliceBounds, HT.sIx]
  | some i =>
   simp only [sliceBounds, HT.sIx, Option.getD_none, show (1 : Int) > 0 by decide, if_true]
   by_cases h : i < 0
   ·simp only [h, if_true] <;> omega
   ·simp only [h, if_false] <;> omega
theorem yd (its : List Value) (lo hi : Option Int) : slicePick its.toArray lo hi none = ((its.drop (HT.sIx its.length 0 lo)).take (HT.sIx its.length its.length hi - HT.sIx its.length 0 lo)).toArray := by
 obtain ⟨h1, h2, h3⟩ := Ah lo hi its.toArray.size
 unfold slicePick
 rw [h1, h2, h3]
 simp only [sliceRange_one, pick_run, List.size_toArray] <;> rfl
def aav (K : PySem.W.Frag) : V -> Option Int -> Option Int -> Hp -> VK -> Prop := fun x lo hi H Q => ∃ a xs, x = .ref a /\ SqL K H a xs /\ ∀ p, H p = none -> Q (.ref p) (upd H p (.lst (j8 xs lo hi)))
theorem Sv : SlR X (aav X.K) := by
 intro pins s σ H x v vl vu lo hi sl Q I rx hs pl pu h
 obtain ⟨a, xs, rfl, hx, q⟩ := h
 cases rx
 obtain ⟨its, r, ht, hz⟩ := I.list hx
 have hlen := r.length
 refine ⟨"list", _, slot_list_getitem.lookup, ht.isList.typeIs, ?_⟩
 refine wpAny_getItem_list_slice ht.isList hs pl pu .none (by simp) ?_ (by rw [List.size_toArray] <;> omega)
 rw [yd, <- hlen]
 refine ⟨.ref s.heap.objs.size, _, I.laid (t' := s.toks) (o := .lst (j8 xs lo hi)) (fun b ob q => Heap.get?_push_of_some _ q) (Nat.le_refl _) ?_, rfl, q _ (I.hok.fresh (Nat.le_refl _))⟩
 exact ⟨Nat.le_trans (uV xs lo hi) hz, _, 0, (r.drop (HT.sIx xs.length 0 lo)).take (HT.sIx xs.length xs.length hi - HT.sIx xs.length 0 lo), Heap.get?_push_size _ rfl⟩
def gW : V -> Bool
 | .non => true
 | .bl _ => true
 | .int _ => true
 | .str _ => true
 | _ => false
def eqV : V -> V -> Bool
 | .non, .non => true
 | .bl a, .bl b => a == b
 | .bl a, .int b => (if a then 1 else 0) == b
 | .int a, .bl b => a == (if b then 1 else 0)
 | .int a, .int b => a == b
 | .str a, .str b => a == b
 | _, _ => false
theorem Rn {A : Around} {s : Shared} {y x : V} {u v : Value} (ry : RelV y u) (rx : RelV x v) (fy : gW y = true) (fx : gW x = true) : SeqAt.EqAt A s u v (eqV y x) := by
 cases y with
 | non =>
  cases ry
  cases x with
  | non => cases rx; exact SeqAt.EqAt.same _
  | bl b => cases rx; exact SeqAt.EqAt.none_bool b
  | int b => obtain ⟨t, rfl⟩ := rx; exact SeqAt.EqAt.none_int b t
  | str b => obtain ⟨t, rfl⟩ := rx; exact SeqAt.EqAt.none_str b t
  | _ => exact absurd (show false = true from fx) Bool.false_ne_true
 | bl a =>
  cases ry
  cases x with
  | non => cases rx; exact SeqAt.EqAt.bool_none a
  | bl b => cases rx; exact SeqAt.EqAt.bool_bool a b
  | int b => obtain ⟨t, rfl⟩ := rx; exact SeqAt.EqAt.bool_int a b t
  | str b => obtain ⟨t, rfl⟩ := rx; exact SeqAt.EqAt.bool_str a b t
  | _ => exact absurd (show false = true from fx) Bool.false_ne_true
 | int a =>
  obtain ⟨t', rfl⟩ := ry
  cases x with
  | non => cases rx; exact SeqAt.EqAt.int_none a t'
  | bl b => cases rx; exact SeqAt.EqAt.int_bool a t' b
  | int b => obtain ⟨t, rfl⟩ := rx; exact SeqAt.EqAt.int_int a t' b t
  | str b => obtain ⟨t, rfl⟩ := rx; exact SeqAt.EqAt.int_str a t' b t
  | _ => exact absurd (show false = true from fx) Bool.false_ne_true
 | str a =>
  obtain ⟨t', rfl⟩ := ry
  cases x with
  | non => cases rx; exact SeqAt.EqAt.str_none a t'
  | bl b => cases rx; exact SeqAt.EqAt.str_bool a t' b
  | int b => obtain ⟨t, rfl⟩ := rx; exact SeqAt.EqAt.str_int a t' b t
  | str b => obtain ⟨t, rfl⟩ := rx; exact SeqAt.EqAt.str_str a t' b t
  | _ => exact absurd (show false = true from fx) Bool.false_ne_true
 | _ => exact absurd (show false = true from fy) Bool.false_ne_true
def eqU (x : V) (u : Value) : Bool := match u with
 | .none => eqV .non x
 | .bool b => eqV (.bl b) x
 | .int i _ => eqV (.int i) x
 | .str z _ => eqV (.str z) x
 | _ => false
theorem Rm {x y : V} {u : Value} (r : RelV y u) (f : gW y = true) : eqU x u = eqV y x := by
 cases y with
 | non => cases r; rfl
 | bl b => cases r; rfl
 | int i => obtain ⟨t, rfl⟩ := r; rfl
 | str z => obtain ⟨t, rfl⟩ := r; rfl
 | _ => exact absurd (show false = true from f) Bool.false_ne_true
theorem tG {x : V} : ∀ {xs : List V} {us : List Value}, Vals xs us -> xs.all gW = true -> us.any (eqU x) = xs.any fun y => eqV y x
 | _, _, .nil, _ => rfl
 | y :: xs, u :: us, .cons r t, f => by
  rw [List.all_cons, Bool.and_eq_true] at f
  rw [List.any_cons, List.any_cons, Rm r f.1, tG t f.2]
theorem oM {A : Around} {s : Shared} {x : V} {v : Value} (rx : RelV x v) (fx : gW x = true) : ∀ {xs : List V} {us : List Value}, Vals xs us -> xs.all gW = true -> ∀ u ∈ us, SeqAt.EqAt A s u v (eqU x u)
 | _, _, .nil, _ => fun u hu => by cases hu
 | y :: xs, u :: us, .cons r t, f => fun u' hu => by
  rw [List.all_cons, Bool.and_eq_true] at f
  rcases List.mem_cons.mp hu with rfl | hu
  ·rw [Rm r f.1]; exact Rn r rx f.1 fx
  ·exact oM rx fx t f.2 u' hu
def inV (x : V) (xs : List V) : Bool := xs.any fun y => eqV y x
def rIn (K : PySem.W.Frag) (neg : Bool) : R2 := fun x y H Q => ∃ p xs, y = .ref p /\ (SqL K H p xs \/ SqT K H p xs) /\ gW x = true /\ xs.all gW = true /\ Q (.bl (if neg then !inV x xs else inV x xs)) H
theorem J2 : OpR X (compareOp .In) (rIn X.K false) := by
 intro pins s σ H x y v u Q I rx ry h
 obtain ⟨p, xs, rfl, hq, fx, fs, q⟩ := h
 cases ry
 rcases hq with hq | hq
 ·obtain ⟨its, r, pl, hz⟩ := I.list hq
  refine SeqAt.in_listAt (eqU x) pl.isList (fun w hw => oM rx fx r fs w (by simpa using hw)) ⟨.bl _, H, I, rfl, ?_⟩
  rw [show its.toArray.any (eqU x) = its.any (eqU x) by simp, tG r fs]
  exact q
 ·obtain ⟨its, r, pl, hz⟩ := I.tuple hq
  refine SeqAt.in_tupleAt (eqU x) pl (fun w hw => oM rx fx r fs w (by simpa using hw)) ⟨.bl _, H, I, rfl, ?_⟩
  rw [show its.toArray.any (eqU x) = its.any (eqU x) by simp, tG r fs]
  exact q
theorem Bf : OpR X (compareOp .NotIn) (rIn X.K true) := by
 intro pins s σ H x y v u Q I rx ry h
 obtain ⟨p, xs, rfl, hq, fx, fs, q⟩ := h
 cases ry
 rcases hq with hq | hq
 ·obtain ⟨its, r, pl, hz⟩ := I.list hq
  refine SeqAt.notIn_listAt (eqU x) pl.isList (fun w hw => oM rx fx r fs w (by simpa using hw)) ⟨.bl _, H, I, rfl, ?_⟩
  rw [show its.toArray.any (eqU x) = its.any (eqU x) by simp, tG r fs]
  exact q
 ·obtain ⟨its, r, pl, hz⟩ := I.tuple hq
  refine SeqAt.notIn_tupleAt (eqU x) pl (fun w hw => oM rx fx r fs w (by simpa using hw)) ⟨.bl _, H, I, rfl, ?_⟩
  rw [show its.toArray.any (eqU x) = its.any (eqU x) by simp, tG r fs]
  exact q
theorem jG : dH X (.builtin "len") (fun xs H Q => ∃ p ys, xs = [.ref p] /\ (SqL X.K H p ys \/ SqT X.K H p ys) /\ Q (.int ys.length) H) := by
 intro pins s σ H xs us Q I r h
 obtain ⟨p, ys, rfl, hq, q⟩ := h
 obtain ⟨u, rfl, rx⟩ := vals1 r
 cases rx
 have hn := oV
 rcases hq with hq | hq
 ·obtain ⟨its, r', pl, hz⟩ := I.list hq
  have hlen := r'.length
  exact Calls.call_len_list pl.isList (by simp only [List.size_toArray] <;> omega) ⟨.int ys.length, H, I.tok _, ⟨s.toks + 1, by rw [List.size_toArray, hlen]⟩, q⟩
 ·obtain ⟨its, r', pl, hz⟩ := I.tuple hq
  have hlen := r'.length
  exact len_tuple pl (by simp only [List.size_toArray] <;> omega) ⟨.int ys.length, H, I.tok _, ⟨s.toks + 1, by rw [List.size_toArray, hlen]⟩, q⟩
theorem BV : dH X (.builtin "len") (fun xs H Q => ∃ z, xs = [.str z] /\ z.length <= sizeLine /\ Q (.int z.length) H) := by
 intro pins s σ H xs us Q I r h
 obtain ⟨z, rfl, hz, q⟩ := h
 obtain ⟨u, rfl, t, rfl⟩ := vals1 r
 have hn := oV
 exact len_str (by omega) ⟨.int z.length, H, I.tok _, ⟨_, rfl⟩, q⟩
theorem BR : dH X (.type "list") (fun xs H Q => ∃ p ys, xs = [.ref p] /\ (SqL X.K H p ys \/ SqT X.K H p ys) /\ ∀ l, H l = none -> Q (.ref l) (upd H l (.lst ys))) := by
 intro pins s σ H xs us Q I r h
 obtain ⟨p, ys, rfl, hq, q⟩ := h
 obtain ⟨u, rfl, rx⟩ := vals1 r
 cases rx
 have fin : ∀ (its : List Value), Vals ys its -> ys.length <= sizeLine -> ∀ (h' : Heap) (c' : Nat), (∀ b o', s.heap.get? b = some o' -> h'.get? b = some o') ->
   h'.get? s.heap.objs.size = some { cls := .type "list", dict := none, data := .seq its.toArray c', slots := #[] } -> EP X pins σ Q (.ref s.heap.objs.size) { s with heap := h' } := fun its r' hz h' c' kp e =>
  ⟨.ref s.heap.objs.size, _, I.laid (t' := s.toks) kp (Nat.le_refl _) (show cQ X.prog X.w _ h' _ (.lst ys) from ⟨hz, its, c', r', e⟩), rfl, q _ (I.hok.fresh (Nat.le_refl _))⟩
 rcases hq with hq | hq
 ·obtain ⟨its, r', pl, hz⟩ := I.list hq
  have hlen := r'.length
  obtain ⟨o, ho, hc, n, hd⟩ := pl.isList
  exact call_list_seq p (.inl rfl) ho hc hd (fun h' c' kp e => fin its r' hz h' c' kp e) (by simp only [List.size_toArray] <;> omega)
 ·obtain ⟨its, r', pl, hz⟩ := I.tuple hq
  have hlen := r'.length
  obtain ⟨o, ho, hc, n, hd⟩ := pl
  exact call_list_seq p (.inr rfl) ho hc hd (fun h' c' kp e => fin its r' hz h' c' kp e) (by simp only [List.size_toArray] <;> omega)
def tyV (K : PySem.W.Frag) (T : String) (x : V) (H : Hp) : Prop := match x with
 | .str _ => T = "str"
 | .int _ => T = "int"
 | .ref p => (T = "list" /\ ∃ xs, SqL K H p xs) \/ (T = "tuple" /\ ∃ o, K.lookup p = some o /\ o.cls = .type "tuple" /\ o.dict = none) \/
   (T = "dict" /\ ((∃ kvs, H p = some (.dK kvs)) \/ ∃ kvs, H p = some (.dT kvs))) \/ (T = "set" /\ ∃ S n, H p = some (.set S n))
 | _ => False
theorem Ac {pins : List (Addr × Obj)} {σ : St} {H : Hp} {s : Shared} {T : String} {x : V} {v : Value} (I : Inv X pins σ H s) (r : RelV x v) (ty : tyV X.K T x H) :
  s.TypeIs v T /\ ∀ a, v = .ref a -> ∃ ob, s.heap.get? a = some ob /\ ob.dict = none := by
 cases x with
 | str z =>
  obtain ⟨t, rfl⟩ := r
  cases (show T = "str" from ty)
  exact ⟨typeIs_str s z t, fun _ e => nomatch e⟩
 | int i =>
  obtain ⟨t, rfl⟩ := r
  cases (show T = "int" from ty)
  exact ⟨typeIs_int s i t, fun _ e => nomatch e⟩
 | ref p =>
  cases r
  rcases ty with ⟨rfl, xs, hq⟩ | ⟨rfl, o, hk, hc, hd⟩ | ⟨rfl, hk⟩ | ⟨rfl, S, n, hk⟩
  ·obtain ⟨its, _, pl, _⟩ := I.list hq
   refine ⟨pl.isList.typeIs, fun a e => ?_⟩
   cases e
   obtain ⟨o, n, e, c, hd, _⟩ := pl
   exact ⟨o, e, hd⟩
  ·refine ⟨⟨o, I.kIn p o hk, hc⟩, fun a e => ?_⟩
   cases e
   exact ⟨o, I.kIn _ o hk, hd⟩
  ·have z : ∃ o, s.heap.get? p = some o /\ o.ExactDict := by
    rcases hk with ⟨kvs, hk⟩ | ⟨kvs, hk⟩
    ·obtain ⟨_, _, _, _, o, _, _, e, ex, _⟩ := I.hok p _ hk
     exact ⟨o, e, ex⟩
    ·obtain ⟨_, _, _, _, o, _, _, e, ex, _⟩ := I.hok p _ hk
     exact ⟨o, e, ex⟩
   obtain ⟨o, e, ex⟩ := z
   refine ⟨⟨o, e, ex.1⟩, fun a e2 => ?_⟩
   cases e2
   exact ⟨o, e, ex.2.1⟩
  ·obtain ⟨o, _, _, _, e, ex, _⟩ := I.hok p _ hk
   refine ⟨⟨o, e, ex.1⟩, fun a e2 => ?_⟩
   cases e2
   exact ⟨o, e, ex.2.1⟩
 | _ => exact False.elim ty
def tBM (K : PySem.W.Frag) (T : String) (r : V -> List V -> Hp -> VK -> Prop) (to : TE) (t : TA) : TE := fun σ H Q => to σ H fun x H1 => tyV K T x H1 /\ t σ H1 fun xs H2 => r x xs H2 Q
variable {o e : Expr} {es : List Expr} {to : TE} {t : TA} {name : Str} {apos cpos : Pos} {T id : String} {r : V -> List V -> Hp -> VK -> Prop}
theorem Z0 (pa : PlainAttrs T) (slot : Slot T name id) (hty : typeOf (.builtin id) = pure (.type "method_descriptor")) (hm : MtR X id r) (ho : PE X o to) (ha : PA X (e :: es) t)
  (hbase : attributeBase o name X.env (eval o X.env) = eval o X.env := by rfl)
  (hfew : ((backTo cpos (starEach (e :: es) X.env)).all (fun x => !x.1) && (backToKw cpos (keywordEach [] X.env)).all (fun x => x.1.isSome)
   && decide ((e :: es).length + ([] : List Keyword).length + (if ([] : List Keyword).isEmpty then 0 else 1) < 30)) = true := by rfl)
  (hline : (apos.endLine == cpos.line) = true := by rfl) (hs : starEach (e :: es) X.env = (false, eval e X.env) :: starEach es X.env := by rfl) (hplain : (backTo cpos (starEach es X.env)).any (·.1) = false := by rfl) :
  PE X (.Call (.Attribute o name apos) (e :: es) [] cpos) (tBM X.K T r to t) := by
 intro pins s σ H Q I h
 refine wpAny_Call_method_late hbase hfew hline rfl (thn (ho pins s σ H _ I h) fun v s1 ⟨x, H1, I1, r1, ty, q1⟩ => ?_)
 obtain ⟨h1, h2⟩ := Ac I1 r1 ty
 refine ⟨T, id, pa, slot, hty, h1, h2, ?_⟩
 have hA := ha cpos pins s1 σ H1 _ I1 q1
 rw [hs] at hA |-
 refine Calls.callWith_builtin (by show (false || (backTo cpos (starEach es X.env)).any (·.1)) = false; rw [hplain] <;> rfl) (Calls.evalArgs_plain ?_)
 exact thA hA fun us s2 vs H2 I2 r2 q2 => hm pins s2 σ H2 x vs v us Q I2 r1 r2 q2
end
def MtM (X : Cx) (id : String) (r : V -> List V -> Hp -> VK -> Prop) : Prop :=
 ∀ (pins : List (Addr × Obj)) (s : Shared) (σ : St) (H : Hp) (x : V) (xs : List V) (v : Value) (us : List Value) (Q : VK), Inv X pins σ H s -> RelV x v -> Vals xs us -> r x xs H Q ->
  wpAny (model X.prog X.w) X.A (call (.builtin id) (v :: us)) (EP X pins σ Q) X.xe s
theorem Vals.one : ∀ {x : V} {us : List Value}, Vals [x] us -> ∃ u, us = [u] /\ RelV x u := fun h => by
 cases h with
 | cons r h =>
  cases h
  exact ⟨_, rfl, r⟩
theorem Vals.two : ∀ {x y : V} {us : List Value}, Vals [x, y] us -> ∃ u v, us = [u, v] /\ RelV x u /\ RelV y v := fun h => by
 cases h with
 | cons r h =>
  cases h with
  | cons q h =>
   cases h
   exact ⟨_, _, rfl, r, q⟩
theorem Vals.rep {xs : List V} {us : List Value} (h : Vals xs us) : ∀ k : Nat, Vals (List.replicate k xs).flatten (List.replicate k us).flatten
 | 0 => .nil
 | k + 1 => by
  rw [List.replicate_succ, List.replicate_succ, List.flatten_cons, List.flatten_cons]
  exact Vals.append h (Vals.rep h k)
theorem foldl_rep (its : List Value) : ∀ (k : Nat) (acc : List Value),
  List.foldl (fun x1 x2 => x1 ++ x2) acc.toArray (List.replicate k its.toArray) = (acc ++ (List.replicate k its).flatten).toArray
 | 0, acc => by simp
 | k + 1, acc => by
  have e : acc.toArray ++ its.toArray = (acc ++ its).toArray := by simp
  have e2 : (acc ++ its) ++ (List.replicate k its).flatten = acc ++ (List.replicate (k + 1) its).flatten := by
   rw [List.replicate_succ, List.flatten_cons, List.append_assoc]
  rw [<- e2, <- foldl_rep its k (acc ++ its), <- e, List.replicate_succ, List.foldl_cons]
section
variable {X : Cx} {pins : List (Addr × Obj)} {σ : St} {H : Hp} {s : Shared} {l b : Addr} {xs ys zs : List V}
theorem Inv.aad {its its' : List Value} {n : Nat} {f : Array Value -> Array Value} {t' : Nat} (I : Inv X pins σ H s) (hH : H l = some (.lst xs))
  (e : s.heap.get? l = some { cls := .type "list", data := .seq its.toArray n }) (hf : f its.toArray = its'.toArray) (hv : Vals ys its') (hz : ys.length <= sizeLine) :
  Inv X pins σ (upd H l (.lst ys)) { s with heap := s.heap.update l (Obj.mapSeq f), toks := t' } := by
 have q := PySem.IsL.update e f
 rw [hf] at q
 refine I.write (x := l) (e := l) (by rw [hH]; exact trivial) (.inl rfl) (fun b' u hb hu => (Heap.get?_update_other s.heap (Obj.mapSeq f) (Ne.symm hb)).trans hu) ⟨_, q⟩ ?_
 exact ⟨hz, its', _, hv, q⟩
theorem Inv.aae {its : List Value} {t' : Nat} (I : Inv X pins σ H s) (hv : Vals ys its) (hz : ys.length <= sizeLine) :
  Inv X pins σ (upd H s.heap.objs.size (.lst ys)) { s with heap := s.heap.push { cls := .type "list", data := .seq its.toArray }, toks := t' } :=
 I.laid (fun _ _ q => Heap.get?_push_of_some _ q) (Nat.le_refl _) ⟨hz, its, 0, hv, Heap.get?_push_size _ rfl⟩
theorem Inv.fresh (I : Inv X pins σ H s) : H s.heap.objs.size = none := I.hok.fresh (Nat.le_refl _)
theorem Inv.Qg (I : Inv X pins σ H s) (hH : H l = some (.lst xs)) : xs.length <= sizeLine /\ ∃ (its : List Value) (n : Nat), Vals xs its /\ xs.length = its.length /\ s.heap.get? l = some { cls := .type "list", data := .seq its.toArray n } := by
 obtain ⟨z, its, n, r, e⟩ := I.hok l _ hH
 exact ⟨z, its, n, r, r.length, e⟩
theorem Pq {n : Nat} (h : n <= sizeLine) : Builtin.List.listTooLong n = false := by
 unfold Builtin.List.listTooLong
 exact decide_eq_false (by omega)
end
section
variable {X : Cx}
def Tr : V -> List V -> Hp -> VK -> Prop := fun x vs H Q => ∃ l xs y, x = .ref l /\ vs = [y] /\ H l = some (.lst xs) /\ xs.length < sizeLine /\ Q .non (upd H l (.lst (xs ++ [y])))
theorem Kh : MtM X "list.append" Tr := by
 intro pins s σ H x vs v us Q I rx rv h
 obtain ⟨l, xs, y, rfl, rfl, hH, hz, q⟩ := h
 cases rx
 obtain ⟨u, rfl, ru⟩ := rv.one
 obtain ⟨z, its, n, r, hl, e⟩ := I.Qg hH
 refine call_meets F.slot_list_append ⟨_, e, rfl⟩ F.entry_list_append (F.args_list_append_2 _ _) (PySem.list_append l its.toArray n u (by rw [List.size_toArray]; omega)) ⟨e, ?_⟩
 refine ⟨.non, _, I.aad (its' := its ++ [u]) hH e (by simp) (r.append (.cons ru .nil)) ?_, rfl, q⟩
 rw [List.length_append, List.length_singleton]
 omega
def aaB : R2 := fun x y H Q => ∃ l b xs zs, x = .ref l /\ y = .ref b /\ H l = some (.lst xs) /\ H b = some (.lst zs) /\ xs.length + zs.length <= sizeLine /\ ∀ p, H p = none -> Q (.ref p) (upd H p (.lst (xs ++ zs)))
theorem Yu : OpR X (binaryOp .Add) aaB := by
 intro pins s σ H x y v u Q I rx ry h
 obtain ⟨l, b, xs, zs, rfl, rfl, hH, hB, hz, q⟩ := h
 cases rx
 cases ry
 obtain ⟨z, its, n, r, hl, e⟩ := I.Qg hH
 obtain ⟨z2, its2, n2, r2, hl2, e2⟩ := I.Qg hB
 refine PySem.P.add_list e e2 ?_ (by rw [List.size_toArray, List.size_toArray]; omega)
 have ea : its.toArray ++ its2.toArray = (its ++ its2).toArray := by simp
 rw [ea]
 exact ⟨.ref _, _, I.aae (t' := s.toks) (r.append r2) (by rw [List.length_append]; omega), rfl, q _ I.fresh⟩
def aaw : R2 := fun x y H Q => ∃ l k xs, x = .ref l /\ y = .int k /\ H l = some (.lst xs) /\ -(2 ^ 63) <= k /\ k < 2 ^ 63 /\ xs.length * k.toNat <= sizeLine /\
 ∀ p, H p = none -> Q (.ref p) (upd H p (.lst (List.replicate k.toNat xs).flatten))
theorem len_rep {α : Type} (xs : List α) (k : Nat) : (List.replicate k xs).flatten.length = k * xs.length := by
 induction k with
 | zero => simp
 | succ k ih => rw [List.replicate_succ, List.flatten_cons, List.length_append, ih, Nat.succ_mul, Nat.add_comm]
theorem Yq : OpR X (binaryOp .Mult) aaw := by
 intro pins s σ H x y v u Q I rx ry h
 obtain ⟨l, k, xs, rfl, rfl, hH, h1, h2, hz, q⟩ := h
 cases rx
 obtain ⟨t, rfl⟩ := ry
 obtain ⟨z, its, n, r, hl, e⟩ := I.Qg hH
 have hlen : its.toArray.size * k.toNat <= sizeLine := by rw [List.size_toArray, <- hl]; exact hz
 have hcap : ¬ its.toArray.size * k.toNat > (2 ^ 63 - 1) / 8 := by
  have : (sizeLine : Nat) <= (2 ^ 63 - 1) / 8 := by decide
  omega
 have hfit : ¬ (!Builtin.List.listFitsIndex k) = true := by
  rw [fitsIndex_both h1 h2]
  exact Bool.false_ne_true
 have hlong : ¬ Builtin.List.listTooLong (its.toArray.size * k.toNat) = true := by
  rw [Pq hlen]
  exact Bool.false_ne_true
 have hnew : List.foldl (fun x1 x2 => x1 ++ x2) #[] (List.replicate (if its.toArray.isEmpty = true then 0 else k.toNat) its.toArray) = (List.replicate k.toNat its).flatten.toArray := by
  have f0 : ∀ m : Nat, List.foldl (fun x1 x2 => x1 ++ x2) #[] (List.replicate m its.toArray) = (List.replicate m its).flatten.toArray := fun m => by
   have := foldl_rep its m []
   rw [List.nil_append] at this
   exact this
  rw [f0]
  cases its with
  | nil => simp
  | cons a r' => rw [if_neg (by simp)]
 refine wpAny_binaryOp_repeat_ref (T := "list") (U := "int") (by decide) ⟨_, e, rfl⟩ (fun s' => typeIs_int s' k t) noFill_list_mul F.fills_int_mul F.slot_int_rmul repeat_list F.slot_int_index.lookup
  (call_meets F.slot_int_rmul (typeIs_int s k t) F.entry_int_rmul (F.args_int_rmul_2 _ _) (int___rmul___int_list k t l its.toArray n)
   ⟨e, rfl, ⟨_, e, rfl⟩, call_meets F.slot_list_mul ⟨_, e, rfl⟩ F.entry_list_mul (F.args_list_mul_2 _ _) (AutoListH.list___mul___list_int_3 l its.toArray n k t hfit hcap hlong) ⟨e, ?_⟩⟩)
 rw [hnew]
 exact ⟨.ref _, _, I.aae (t' := s.toks) (r.rep k.toNat) (by rw [len_rep, Nat.mul_comm]; exact hz), rfl, q _ I.fresh⟩
end
section
variable {prog : Program} {w : World} {A : Around} {E : Value -> Shared -> Prop} {s : Shared}
end
section
variable {X : Cx}
end
end L2
namespace Att
open PySem PySem.W PySem.Calls PyProof.Rows
theorem u5 {P : Params} {h : Heap} : ∀ (ns : List Int) (vs : List Value), WellAll P h vs (ns.map WData.int) -> IntsAre vs ns := by
 intro ns
 induction ns with
 | nil =>
  intro vs w
  rw [List.map_nil] at w
  cases w
  exact .nil
 | cons n ns ih =>
  intro vs w
  rw [List.map_cons] at w
  cases w with
  | cons a b =>
   cases a
   exact .cons _ _ (ih _ b)
theorem JF {l : OpenLaw} {n : Nat} (hn : l.most = some n) {P : Params} {h : Heap} {args : List WData} {vals : List Value}
  (hpre : l.row.toRowW.claim.pre args = true) (hwl : WellAll P h vals args) :
  ∃ a vs ns, vals = [Value.ref a] /\ args = [WData.list (ns.map WData.int)] /\ h.get? a = some { cls := .type "list", data := .seq vs.toArray } /\ IntsAre vs ns /\ ns.length <= n := by
 have hsh : WShape.hasAll [] args [.list .int] = true := (pre_splitW hpre).1
 have hc : l.pre.holds [] { args := args } = true := (pre_splitW hpre).2
 obtain ⟨d, r, rfl, h1, h2⟩ := hasAllW_cons hsh
 obtain rfl := hasAllW_nil h2
 obtain ⟨xs, rfl, h3⟩ := hasW_list h1
 obtain ⟨ns, rfl⟩ := items_int h3
 have hlen : ns.length <= n := by
  unfold OpenLaw.pre at hc
  have h4 : (WTm.not (.lt (.lit (.int (n : Int))) (.len (.arg 0)))).holds [] { args := [.list (ns.map .int)] } = true := by
   have h4 := (holds_andW hc).1
   rw [hn] at h4
   exact h4
  have h5 := condW_of h4 (w_not (w_lt w_lit (w_len_list (w_arg rfl))))
  rw [List.length_map] at h5
  refine Nat.le_of_not_lt fun q => ?_
  have q' : (n : Int) < ((ns.length : Nat) : Int) := by omega
  first
   | (rw [decide_eq_true q'] at h5; exact absurd h5 (by decide))
   | (simp at h5; omega)
 cases hwl with
 | cons w1 w2 =>
  cases w2
  cases w1 with
  | list ho hall => exact ⟨_, _, ns, rfl, rfl, ho, u5 ns _ hall, hlen⟩
theorem JV (l : OpenLaw) (args : List WData) : l.row.toRowW.claim.post args (.bool true) args = true :=
 postW_of (r := l.row.toRowW) (X := (true == true))
  (show WShape.has [] (.bool true) .bool = true by first | rfl | decide | simp [WShape.has, WShape.arms, WShape.armsAll])
  (show (WTm.eq .res (.lit (.bool true))).value [] { args := args, res := some (.bool true), after := args } = some (.bool (true == true)) from w_eq_bool (w_res rfl) w_lit) rfl
theorem Em {l : OpenLaw} {n : Nat} {q : Program} {loose : List Str} {XP : (Str -> Option Value) -> Heap -> Prop} {YP : World -> Heap -> Prop} {d : DefRec}
  (hn : l.most = some n) (hdf : d.params.defaults = [])
  (call : ∀ (w : World) (s₀ s₁ : Shared) (mg mb : Str -> Option Value) (fa : Addr) (o : Obj) (pm cd doc : Value) (a : Addr) (vs : List Value) (ns : List Int),
   Ground q loose [] XP w s₀ mg mb s₁.heap -> YP w s₁.heap ->
   s₁.heap.get? fa = some o -> o.data = .func (docDef d.name d.params d.body d.scope pm cd doc) -> s₁.heap.CodeRec cd d.name -> mg d.name = some (.ref fa) ->
   s₁.heap.get? a = some { cls := .type "list", data := .seq vs.toArray } -> IntsAre vs ns -> ns.length <= n -> s₁.gens = #[] ->
   codeAny (model l.prog w) callerA (.call (.ref fa) ⟨[.ref a], []⟩) (fun r s' => r = .ok (.ret (.bool true)) /\ OldK s₁.heap s'.heap /\ s'.os = s₁.os /\ AllBare s'.gens) s₁) :
  WalkO q loose XP YP l.row.toRowW d [] (fun f vs => PySem.call f vs) := by
 intro w s₀ s₁ mg mb G Y fa o pm cd doc dV kV ho hd hcd hD hmg hg args vals as hpre hlay hrd hwl hlo
 obtain rfl : dV = .none := Dflts.none hD hdf
 obtain rfl : kV = .none := Dflts.noKw hD
 obtain ⟨a, vs, ns, rfl, rfl, hobj, hints, hlen⟩ := JF hn hpre hwl
 refine enter_call (codeAny_mono (call w s₀ s₁ mg mb fa o pm cd doc a vs ns G Y ho (fd_plain hd) hcd hmg hobj hints hlen hg) fun r s' hq => ?_)
 obtain ⟨rfl, h2, h3, h4⟩ := hq
 exact ⟨.inl ⟨.bool true, .bool true, [], rfl, fun _ => rfl, .bool true, JV l _, fun _ => ⟨List.Pairwise.nil, fun _ hm => (nomatch hm)⟩⟩, h2, h3, h4⟩
section
variable {prog : Program} {w : World} {A : Around} {E : Value -> Shared -> Prop} {s : Shared} {K : Frag}
end
end Att
namespace L2
open PySem PySem.Spec PyProof.Rows
theorem yP : ∀ {vs : List Value} {ns : List Int}, IntsAre vs ns -> Vals (ns.map V.int) vs
 | _, _, .nil => .nil
 | _, _, .cons n t h => .cons ⟨t, rfl⟩ (yP h)
def Only (H : Hp) : Prop := ∀ b, H b = none \/ ∃ o xs, H b = some (.frz o (.lst xs))
theorem Qi {P : Program} {w : World} {K : PySem.W.Frag} {mg mb : Str -> Option Value} {CX : CXT} {k : Nat} {fa a : Addr} {fd : FuncData} {x : Str} {sp : Sp} {s₁ : Shared} {vs : List Value} {ns : List Int}
  (KX : K.In s₁.heap) (hns : s₁.heap.Ns mainGlobals mg) (hb : s₁.heap.Ns builtinsNs mb) (hbb : ∀ x : Str, x ≠ "__name__" -> mb x = bootBuiltins x) (hlim : s₁.heap.NoLimit) (hg : s₁.gens = #[])
  (ha : s₁.heap.get? a = some { cls := .type "list", data := .seq vs.toArray }) (hi : IntsAre vs ns) (hl : ns.length <= sizeLine) (hr : gB k callerA)
  (F : ∀ base : Heap, K.In base -> base.Ns mainGlobals mg -> dh P w K mg base CX k fa fd [x] sp) (hbind : ∀ (s : Shared) (u : Value), BindsTo s fd ⟨[u], []⟩ [(x, u)])
  (hsp : ∀ H : Hp, Only H -> SqL K H a (ns.map V.int) -> sp [.ref a] H (fun v _ => v = .bl true) fun _ _ _ => False)
  (hCX : ∀ H e s', CX [] H s₁ (fun _ _ _ => False) e s' -> False) :
  codeAny (model P w) callerA (.call (.ref fa) ⟨[.ref a], []⟩) (fun r s' => r = .ok (.ret (.bool true)) /\ OldK s₁.heap s'.heap /\ s'.os = s₁.os /\ AllBare s'.gens) s₁ := by
 have rv := yP hi
 have lenV := hi.length
 -- from an abstract heap in which nothing but the script may be tracked
 have core : ∀ H : Hp, Only H -> SqL K H a (ns.map V.int) -> HOk P w H s₁.heap -> (∀ b, H b ≠ none -> b = a) -> (H a ≠ none -> K.lookup a = none) ->
   codeAny (model P w) callerA (.call (.ref fa) ⟨[.ref a], []⟩) (fun r s' => r = .ok (.ret (.bool true)) /\ OldK s₁.heap s'.heap /\ s'.os = s₁.os /\ AllBare s'.gens) s₁ := by
  intro H hO hS hok hA hK
  have base_of : ∀ {b : Addr} {o : Obj}, s₁.heap.get? b = some o -> H b = none -> (Bq s₁.heap H).get? b = some o := fun e n => Q6 e n
  have noA : ∀ {b : Addr} {o : Obj} {es : Array DictEntry} {ep : Nat}, s₁.heap.get? b = some o -> o.data = .dict es ep -> H b = none := fun {b o es ep} e d => by
   cases q : H b with
   | none => rfl
   | some u =>
    have e' : b = a := hA b (by rw [q]; simp)
    subst e'
    rw [ha] at e; cases e
    have d' : Data.seq vs.toArray _ = Data.dict es ep := d
    cases d'
  have nsK : ∀ {b : Addr} {m : Str -> Option Value}, s₁.heap.Ns b m -> (Bq s₁.heap H).Ns b m := fun {b m} ⟨o, es, ep, e, d, r⟩ => ⟨o, es, ep, base_of e (noA e d), d, r⟩
  have hKb : K.In (Bq s₁.heap H) := fun b o e => base_of (KX b o e) (by
   cases q : H b with
   | none => rfl
   | some u =>
    have e' : b = a := hA b (by rw [q]; simp)
    subst e'
    rw [hK (by rw [q]; simp)] at e; cases e)
  have hM : Mod K mg (Bq s₁.heap H) := ⟨hKb, nsK hns, ⟨mb, nsK hb, hbb⟩, let ⟨mc, h1, h2⟩ := hlim; ⟨mc, nsK h1, h2⟩⟩
  have e0 : G6 P w K mg (Bq s₁.heap H) callerA [] s₁ H := ⟨rfl, hM, fun b o e => Vh e, Nat.le_of_eq (KC _ _), trivial, fun b hb => absurd (show b ∈ ([] : List Addr) from hb) (by simp), hok, .of_eq hg⟩
  refine codeAny_mono ((F _ hKb (nsK hns)).run callerA [] s₁ H ⟨[.ref a], []⟩ [.ref a] [.ref a] _ _ hr e0 (hbind s₁ (.ref a)) (.cons rfl .nil) (hsp H hO hS)) fun r s' h => ?_
  cases r with
  | error e => exact (hCX H e s' h).elim
  | ok fl =>
   cases fl with
   | next => exact False.elim h
   | brk => exact False.elim h
   | cont => exact False.elim h
   | ret u =>
    obtain ⟨v, H', os, bare, un, hok', r', q⟩ := h
    have q' : v = .bl true := q
    subst q'
    obtain rfl : u = Value.bool true := r'
    refine ⟨rfl, OldK.of_keep fun b o e => ?_, os, bare⟩
    cases q : H b with
    | none => exact un.keep b o e q (by intro z; exact absurd (show b ∈ ([] : List Addr) from z) (by simp)) (by simp)
    | some u =>
     rcases hO b with z | ⟨ob, xs, z⟩
     ·rw [q] at z; cases z
     ·have z2 := un.frzs b ob _ z
      obtain ⟨e1, _⟩ := hok b _ z
      obtain ⟨e2, _⟩ := hok' b _ z2
      rw [e] at e1; cases e1
      exact e2
 cases hk : K.lookup a with
 | some o =>
  -- the script is one of the module's own objects
  have e := KX a o hk
  rw [ha] at e
  cases e
  refine core (fun _ => none) (fun _ => .inl rfl) (.inr ⟨_, vs.toArray, _, hk, rfl, rfl, rfl, by rw [List.size_toArray, lenV]; exact hl, by simpa using rv⟩) (fun b u z => by have z' : (none : Option HO) = some u := z; cases z') (fun b z => absurd rfl z) fun z => absurd rfl z
 | none =>
  refine core (fun b => if b = a then some (.frz { cls := .type "list", data := .seq vs.toArray } (.lst (ns.map V.int))) else none) (fun b => ?_) (.inl (.inr ⟨{ cls := .type "list", data := .seq vs.toArray }, if_pos rfl⟩)) (fun b u z => ?_) (fun b z => ?_) fun _ => hk
  ·by_cases hb : b = a
   ·exact .inr ⟨_, _, if_pos hb⟩
   ·exact .inl (if_neg hb)
  ·by_cases hb : b = a
   ·have z' := (if_pos hb).symm.trans z
    cases z'
    subst hb
    exact ⟨ha, by rw [List.length_map]; exact hl, vs, _, rv, ha⟩
   ·have z' := (if_neg hb).symm.trans z
    cases z'
  ·by_cases hb : b = a
   ·exact hb
   ·exact absurd (if_neg hb) z
theorem RZ {l : PySem.W.OpenLaw} {n k : Nat} {q : Program} {loose : List Str} {XP : (Str -> Option Value) -> Heap -> Prop} {YP : World -> Heap -> Prop} {d : DefRec} {K : Params -> PySem.W.Frag} {CX : World -> CXT} {sp : World -> Sp} {x : Str}
  (hn : l.most = some n) (hn2 : n <= sizeLine) (hdf : d.params.defaults = []) (hr : gB k callerA)
  (hY : ∀ (w : World) (h : Heap), YP w h -> (K w.params).In h)
  (F : ∀ (w : World) (mg : Str -> Option Value) (fa : Addr) (h : Heap), (K w.params).In h -> h.Ns mainGlobals mg -> mg d.name = some (.ref fa) ->
   ∃ fd : FuncData, (∀ (s : Shared) (u : Value), BindsTo s fd ⟨[u], []⟩ [(x, u)]) /\
    ∀ base : Heap, (K w.params).In base -> base.Ns mainGlobals mg -> dh l.prog w (K w.params) mg base (CX w) k fa fd [x] (sp w))
  (hsp : ∀ (w : World) (H : Hp) (a : Addr) (ns : List Int), ns.length <= n -> Only H -> SqL (K w.params) H a (ns.map V.int) -> sp w [.ref a] H (fun v _ => v = .bl true) fun _ _ _ => False)
  (hCX : ∀ (w : World) (H : Hp) (s : Shared) (e : Value) (s' : Shared), CX w [] H s (fun _ _ _ => False) e s' -> False) :
  PySem.W.WalkO q loose XP YP l.row.toRowW d [] (fun f vs => PySem.call f vs) := by
 refine Att.Em hn hdf fun w s₀ s₁ mg mb fa o pm cd doc a vs ns G Y ho hd hcd hmg hobj hints hlen hg => ?_
 have KX := hY w _ Y
 obtain ⟨fd, hb, hF⟩ := F w mg fa _ KX G.T.g hmg
 exact Qi KX G.T.g G.T.b G.T.builtins G.T.nolimit hg hobj hints (Nat.le_trans hlen hn2) hr hF hb (fun H hO hS => hsp w H a ns hlen hO hS) fun H e s' => hCX w H s₁ e s'
def inClass (s : Stmt) (j : Nat) : Stmt := match s with
 | .ClassDef _ _ _ body _ _ _ _ _ _ _ => body.getD j (.Pass ⟨0, 0, 0, 0⟩)
 | _ => .Pass ⟨0, 0, 0, 0⟩
def bx (s : Stmt) : Arguments := match s with
 | .FunctionDef _ a _ _ _ _ _ _ _ _ => a
 | _ => { posonlyargs := [], args := [], vararg := none, kwonlyargs := [], kw_defaults := [], kwarg := none, defaults := [] }
def aZ (s : Stmt) : List Stmt := match s with
 | .FunctionDef _ _ b _ _ _ _ _ _ _ => b
 | _ => []
def aj (s : Stmt) : Scope := match s with
 | .FunctionDef _ _ _ _ _ _ sc _ _ _ => sc
 | _ => { kind := .function, names := [], isGenerator := false, isCoroutine := false }
abbrev CX0 : CXT := fun _ _ _ _ _ _ => False
abbrev E0 : XK := fun _ _ _ => False
theorem Z2 {X : Cx} : qW CX0 X E0 := fun _ _ _ _ _ _ _ h => h.elim
structure Fun (K : PySem.W.Frag) (x qual : Str) (st : Stmt) (f : Addr) (fd : FuncData) : Prop where
 ex : ∃ (oc : Value) (od : Option Addr) (kV doc pm : Value) (an : Option Addr) (cdv ct : Value) (osl : Array (Option Value)),
  fd = PySem.W.fnOf x qual (bx st) (aZ st) (aj st) .none kV doc pm an cdv ct /\ K.lookup f = some ⟨oc, od, .func fd, osl⟩ /\ PySem.W.codeIn K cdv qual = true
 kp : PySem.W.keepIn K (.ref f) = true
section
variable {P : Program} {w : World} {K : PySem.W.Frag} {mg : Str -> Option Value} {base : Heap}
theorem Fun.ok {x qual : Str} {st : Stmt} {f : Addr} {fd : FuncData} {N ps : List Str} {k : Nat} {sp : Sp} (F : Fun K x qual st f fd) (S : bF N ps (aj st)) (len : ∀ vs H Q E, sp vs H Q E -> vs.length = ps.length)
  (hbody : ∀ (cdv : Value) (A : Around) (outer : List Env) (s : Shared) (H : Hp) (vs : List V) (Q : VK) (E : XK), gB k (A.deeper (envOfC qual (aj st) s.heap.objs.size f cdv)) -> sp vs H Q E ->
   ∃ t, PSs (yE CX0 P w K mg base N qual (aj st) f cdv A outer s H E).nox (aZ st) t /\ t { nx := fun _ H' => Q .non H', rt := Q } (start N vs) H) : dh P w K mg base CX0 (k + 1) f fd ps sp := by
 obtain ⟨oc, od, kV, doc, pm, an, cdv, ct, osl, rfl, lk, hcd⟩ := F.ex
 refine WN lk hcd S len fun A outer s H vs Q E hr hsp => ?_
 obtain ⟨t, h, q⟩ := hbody cdv A outer s H vs Q E hr hsp
 exact ⟨t, h.nox, q⟩
theorem Fun.binds {x qual : Str} {st : Stmt} {f : Addr} {fd : FuncData} {ps : List Str} (F : Fun K x qual st f fd)
  (h : ∀ (kV doc pm : Value) (an : Option Addr) (cdv ct : Value) (us : List Value), us.length = ps.length -> bindArgs (PySem.W.fnOf x qual (bx st) (aZ st) (aj st) .none kV doc pm an cdv ct) ⟨us, []⟩ = pure (ps.zip us)) : Binds K fd ps [] := by
 obtain ⟨oc, od, kV, doc, pm, an, cdv, ct, osl, rfl, lk, hcd⟩ := F.ex
 exact .all (h kV doc pm an cdv ct)
theorem aR {x qual : Str} {st : Stmt} {f : Addr} {oc : Value} {od an : Option Addr} {osl : Array (Option Value)} {kV doc pm cdv ct : Value} (l : K.lookup f = some ⟨oc, od, .func (PySem.W.fnOf x qual (bx st) (aZ st) (aj st) .none kV doc pm an cdv ct), osl⟩)
  (c : PySem.W.codeIn K cdv qual = true) (k : PySem.W.keepIn K (.ref f) = true) : Fun K x qual st f (PySem.W.fnOf x qual (bx st) (aZ st) (aj st) .none kV doc pm an cdv ct) := ⟨⟨oc, od, kV, doc, pm, an, cdv, ct, osl, rfl, l, c⟩, k⟩
end
section
variable {X : Cx}
end
def Same (H H' : Hp) : Prop := ∀ b o, H b = some o -> H' b = some o
theorem Same.refl (H : Hp) : Same H H := fun _ _ h => h
theorem Same.trans {H H1 H2 : Hp} (a : Same H H1) (b : Same H1 H2) : Same H H2 := fun c o h => b c o (a c o h)
theorem Same.seq {K : PySem.W.Frag} {H H' : Hp} {a : Addr} {xs : List V} (e : Same H H') (h : SqL K H a xs) : SqL K H' a xs := by
 rcases h with (h | ⟨o, h⟩) | h
 ·exact .inl (.inl (e _ _ h))
 ·exact .inl (.inr ⟨o, e _ _ h⟩)
 ·exact .inr h
end L2
set_option maxHeartbeats 4000000
namespace L2
open PySem PySem.Spec PyProof.Rows
theorem xP {env : Env} : ∀ (names : List (Str × NameKind)) (acc : List (Str × Addr)),
  (∀ y ∈ names, y.2 = .free -> ∃ c, env.cells.lookup y.1 = some c) -> (∀ x c, acc.lookup x = some c -> env.cells.lookup x = some c) ->
  ∃ cl, (forIn names acc fun (y : Str × NameKind) (r : List (Str × Addr)) => (match y with
   | (name, kind) => if (kind == .free) = true then (do let a <- cellOf env name; pure (ForInStep.yield ((name, a) :: r))) else pure (ForInStep.yield r) : Sem (ForInStep (List (Str × Addr))))) = pure cl /\
   (∀ x c, cl.lookup x = some c -> env.cells.lookup x = some c) /\ (∀ y ∈ names, y.2 = .free -> ∃ c, cl.lookup y.1 = some c) /\ (∀ x c, acc.lookup x = some c -> ∃ c', cl.lookup x = some c')
 | [], acc, _, ha => ⟨acc, rfl, ha, fun _ h => (nomatch h), fun x c h => ⟨c, h⟩⟩
 | (n, k) :: r, acc, hf, ha => by
  have hf' : ∀ y ∈ r, y.2 = .free -> ∃ c, env.cells.lookup y.1 = some c := fun y hy => hf y (List.mem_cons_of_mem _ hy)
  by_cases hk : k = .free
  ·subst hk
   obtain ⟨c0, e0⟩ := hf (n, .free) List.mem_cons_self rfl
   have hce : cellOf env n = pure c0 := by unfold cellOf; rw [e0]
   have ha2 : ∀ x c, ((n, c0) :: acc).lookup x = some c -> env.cells.lookup x = some c := fun x c h => by
    rw [List.lookup_cons] at h
    cases hx : x == n with
    | true =>
     rw [hx] at h
     have e1 : x = n := by simpa using hx
     rw [e1, e0]
     exact h
    | false =>
     rw [hx] at h
     exact ha x c h
   obtain ⟨cl, e, h1, h2, h3⟩ := xP r ((n, c0) :: acc) hf' ha2
   refine ⟨cl, ?_, h1, fun y hy hz => ?_, fun x c h => ?_⟩
   ·rw [List.forIn_cons]
    simp only [beq_self_eq_true, if_true, hce]
    exact e
   ·rcases List.mem_cons.mp hy with q | q
    ·subst q
     exact h3 n c0 (by simp)
    ·exact h2 y q hz
   ·cases hx : x == n with
    | true => exact h3 x c0 (by rw [List.lookup_cons, hx])
    | false => exact h3 x c (by rw [List.lookup_cons, hx]; exact h)
  ·have hb : (k == NameKind.free) = false := by simpa using hk
   obtain ⟨cl, e, h1, h2, h3⟩ := xP r acc hf' ha
   refine ⟨cl, ?_, h1, fun y hy hz => ?_, h3⟩
   ·rw [List.forIn_cons]
    simp only [hb, Bool.false_eq_true, if_false]
    exact e
   ·rcases List.mem_cons.mp hy with q | q
    ·subst q
     exact absurd hz hk
    ·exact h2 y q hz
theorem Jp {env : Env} {scope : Scope} (hf : ∀ y ∈ scope.names, y.2 = .free -> ∃ c, env.cells.lookup y.1 = some c) :
  ∃ cl, closureFor scope env = pure cl /\ (∀ x c, cl.lookup x = some c -> env.cells.lookup x = some c) /\ (∀ y ∈ scope.names, y.2 = .free -> ∃ c, cl.lookup y.1 = some c) := by
 obtain ⟨cl, e, h1, h2, _⟩ := xP (env := env) scope.names [] hf (fun x c h => by simp at h)
 refine ⟨cl, ?_, h1, h2⟩
 unfold closureFor
 show (forIn scope.names [] _ >>= fun r => pure r) = _
 rw [show (forIn scope.names ([] : List (Str × Addr)) fun (y : Str × NameKind) (r : List (Str × Addr)) => (match y with
   | (name, kind) => if (kind == .free) = true then (do let a <- cellOf env name; pure (ForInStep.yield ((name, a) :: r))) else pure (ForInStep.yield r) : Sem (ForInStep (List (Str × Addr))))) = pure cl from e]
 rfl
section
variable {prog : Program} {w : World} {A : Around} {R : Result -> Shared -> Prop} {s : Shared}
theorem zL {elt tg iter : Expr} {ifs : List Expr} {scope : Scope} {pos : Pos} {it acc : Value} {env : Env} (J : Nat -> Shared -> Prop)
  (turn : ∀ n s, J n s -> wpAny (model prog w) A (pyNext it) (fun r s1 => match r with
   | none => R (.ok .next) s1
   | some v => wpAny (model prog w) A (letOwnedTupleGo tg it v) (fun _ s1' => wpAny (model prog w) A (assign tg env v) (fun _ s2 =>
     wpAny (model prog w) A (forIn ifs true fun c r => if r = true then do let ok <- isTrue c env (eval c env); pure (ForInStep.yield ok) else pure (ForInStep.yield r)) (fun ok s3 =>
      if ok = true then wpAny (model prog w) A (eval elt env) (fun x s4 =>
       wpAny (model prog w) A (call (.builtin "list.append") [acc, x]) (fun _ s5 => ∃ m, m < n /\ J m s5) (notedBy (model prog w) A env fun e z => R (.error e) z) s4) (notedBy (model prog w) A env fun e z => R (.error e) z) s3
      else ∃ m, m < n /\ J m s3) (notedBy (model prog w) A env fun e z => R (.error e) z) s2) (notedBy (model prog w) A env fun e z => R (.error e) z) s1') (notedBy (model prog w) A env fun e z => R (.error e) z) s1) (notedBy (model prog w) A env fun e z => R (.error e) z) s)
  (n : Nat) (h : J n s) : codeAny (model prog w) A (.compLoop (.ListComp elt [⟨tg, iter, ifs, 0⟩] scope pos) 0 it acc env) R s := by
 refine codeAny_loop rfl J (fun n z hJ => ?_) n h
 show wpAny _ A ((compTurn (.ListComp elt [⟨tg, iter, ifs, 0⟩] scope pos) 0 it acc env).onRaise (fun y => do noteFrame y env; theTreesLotGoes y)) _ _ z
 refine wpAny_noted ?_
 rw [compTurn_list]
 refine wpAny_bind (wpAny_standAt (wpAny_bind (wpAny_mono (turn n z hJ) (fun r s1 h1 => ?_) fun _ _ q => q)))
 cases r with
 | none => exact wpAny_pure h1
 | some v =>
  refine wpAny_bind (wpAny_mono h1 (fun _ s1' h1' => ?_) fun _ _ q => q)
  refine wpAny_bind (wpAny_mono h1' (fun _ s2 h2 => wpAny_bind (wpAny_mono h2 (fun ok s3 h3 => ?_) fun _ _ q => q)) fun _ _ q => q)
  cases ok with
  | false => exact wpAny_pure ⟨rfl, h3⟩
  | true =>
   exact wpAny_bind (wpAny_bind (wpAny_mono h3 (fun x s4 h4 => wpAny_bind (wpAny_mono h4 (fun _ s5 h5 => wpAny_pure (wpAny_pure ⟨rfl, h5⟩)) fun _ _ q => q)) fun _ _ q => q))
end
def jM (mp : List (Option Nat)) (σ : St) : St := mp.map fun o => match o with
 | some j => (σ[j]?).join
 | none => none
def cV (X : Cx) (N : List Str) (scope : Scope) (cl : List (Str × Addr)) (C : Addr) (s : Shared) (H : Hp) (fp : List Addr) : Cx :=
 { X with N := N, s₀ := s, H₀ := H, env := compEnvC scope cl C X.env, outer := X.stack, stack := X.stack, ex := fp, fn := fun _ => false, pn := [], xe := fun _ _ => False }
def qz (NX : List Str) (names : List (Str × NameKind)) : List Str -> List (Option Nat) -> Bool
 | [], [] => true
 | x :: r, o :: q => (match o with
   | none => names.lookup x == some .local
   | some j => NX[j]? == some x && names.lookup x == some .free) && qz NX names r q
 | _, _ => false
theorem zE {NX : List Str} {names : List (Str × NameKind)} : ∀ {N : List Str} {mp : List (Option Nat)} {i j : Nat} {x : Str}, qz NX names N mp = true -> N[i]? = some x -> mp[i]? = some (some j) -> NX[j]? = some x /\ names.lookup x = some .free
 | [], _, i, _, _, _, h, _ => by simp at h
 | _ :: _, [], _, _, _, h, _, _ => by simp [qz] at h
 | y :: r, o :: q, 0, j, x, h, h1, h2 => by
  simp at h1 h2
  subst h1 h2
  unfold qz at h
  simp only [Bool.and_eq_true, beq_iff_eq] at h
  exact h.1
 | y :: r, o :: q, i + 1, j, x, h, h1, h2 => by
  unfold qz at h
  rw [Bool.and_eq_true] at h
  exact zE (i := i) h.2 (by simpa using h1) (by simpa using h2)
theorem zB {NX : List Str} {names : List (Str × NameKind)} : ∀ {N : List Str} {mp : List (Option Nat)}, qz NX names N mp = true -> mp.length = N.length
 | [], [], _ => rfl
 | [], _ :: _, h => by simp [qz] at h
 | _ :: _, [], h => by simp [qz] at h
 | _ :: r, _ :: q, h => by
  unfold qz at h
  rw [Bool.and_eq_true] at h
  simp [zB h.2]
structure zZ (NX : List Str) (kX : List (Str × NameKind)) (N : List Str) (mp : List (Option Nat)) (scope : Scope) : Prop where
 kind : scope.kind = .function
 nocell : ∀ y ∈ scope.names, y.2 ≠ .cell
 locs : ∀ y ∈ scope.names, y.2 = .local -> scope.names.lookup y.1 = some .local
 fre : ∀ y ∈ scope.names, y.2 = .free -> kX.lookup y.1 = some .cell \/ kX.lookup y.1 = some .free
 map : qz NX scope.names N mp = true
def PTs (X : Cx) (cs : List Expr) (t : TT) : Prop :=
 ∀ (pins : List (Addr × Obj)) (s : Shared) (σ : St) (H : Hp) (Q : Bool -> Hp -> Prop), Inv X pins σ H s -> t σ H Q ->
  wpAny (model X.prog X.w) X.A (forIn cs true fun c r => if r = true then do let ok <- isTrue c X.env (eval c X.env); pure (ForInStep.yield ok) else pure (ForInStep.yield r)) (TP X pins σ Q) X.xe s
def Ew : TT := fun _ H Q => Q true H
theorem Ub {X : Cx} : PTs X [] Ew := fun _ _ _ H _ I h => wpAny_tests_nil ⟨H, I, h⟩
def yU (mp : List (Option Nat)) (wi : TI) (g : TG) (tc : TT) (te : TE) : TE := fun σ H Q => wi σ H fun J H1 =>
 ∃ W : Nat -> Nat -> List V -> St -> Hp -> Prop, (∃ m, W 0 m [] (jM mp σ) H1) /\ ∀ i m acc τ H2, W i m acc τ H2 ->
  (J.stop i H2 /\ ∀ d, H2 d = none -> Q (.ref d) (upd H2 d (.lst acc))) \/
  (J.go i H2 /\ acc.length < sizeLine /\ ∃ N : List V -> St -> Hp -> Prop, (∀ acc' τ' H', N acc' τ' H' -> ∃ m', m' < m /\ W (i + 1) m' acc' τ' H') /\ ∀ x H3, J.yld i H2 x H3 -> g x τ H3 fun τ1 H4 => tc τ1 H4 fun b H5 =>
   if b = true then te τ1 H5 fun v H6 => N (acc ++ [v]) τ1 H6 else N acc τ1 H5)
theorem iJ {env : Env} : ∀ {names : List (Str × NameKind)} {x : Str} {k : NameKind}, (names.map fun (n, k) => if (k == NameKind.free && env.scope.kind == .function && env.kindOf n == some .cell) then (n, NameKind.cell) else (n, k)).lookup x = some k ->
  names.lookup x = some k \/ (k = .cell /\ names.lookup x = some .free)
 | [], _, _, h => by simp at h
 | (n, k0) :: r, x, k, h => by
  have ih := @iJ env r x k
  rw [List.map_cons] at h
  by_cases hc : (k0 == NameKind.free && env.scope.kind == .function && env.kindOf n == some .cell) = true
  ·simp only [hc, if_true] at h
   cases hx : x == n with
   | true =>
    rw [List.lookup_cons, hx] at h
    have hk : k0 = .free := by
     rw [Bool.and_eq_true, Bool.and_eq_true] at hc
     simpa using hc.1.1
    right
    refine ⟨(Option.some.inj h).symm, ?_⟩
    rw [List.lookup_cons, hx, hk]
   | false =>
    rw [List.lookup_cons, hx] at h
    rw [List.lookup_cons, hx]
    exact ih h
  ·simp only [hc, if_false] at h
   cases hx : x == n with
   | true =>
    rw [if_neg (by simp), List.lookup_cons, hx] at h
    rw [List.lookup_cons, hx]
    exact .inl h
   | false =>
    rw [if_neg (by simp), List.lookup_cons, hx] at h
    rw [List.lookup_cons, hx]
    exact ih h
theorem na0 {b D E : Nat} (h : b < E) (hD : E = D) : b ≠ D := by omega
theorem na1 {b D E C : Nat} (h : b < E) (hD : E = D) (hC : C = D + 1) : b ≠ C := by omega
theorem na2 {C D : Nat} (hC : C = D + 1) : D ≠ C := by omega
theorem na3 {C D E : Nat} (hD : E = D) (hC : C = D + 1) : E <= C := by omega
theorem na4 {D E : Nat} (hD : E = D) : E <= D := by omega
section
variable {X : Cx} {NX N : List Str} {kX : List (Str × NameKind)} {mp : List (Option Nat)} {scope : Scope} {pins : List (Addr × Obj)} {σ : St} {s s' : Shared} {H : Hp} {fp : List Addr} {cl : List (Str × Addr)} {C : Addr}
theorem GP (hkX : X.env.scope.names = kX) (S : zZ NX kX N mp scope) (I : Inv X pins σ H s) (hfp : ∀ b ∈ fp, tH X pins H b) (hold : ∀ b ∈ fp, b < s.heap.objs.size) (hC : s.heap.objs.size <= C)
  (hsub : ∀ x c, cl.lookup x = some c -> X.env.cells.lookup x = some c) (hhas : ∀ y ∈ scope.names, y.2 = .free -> ∃ c, cl.lookup y.1 = some c) : (cV X N scope cl C s H fp).Ok where
 mod := I.ok.mod
 kind := S.kind
 glob := I.ok.glob
 blt := I.ok.blt
 above := hC
 inj := fun x y c h1 h2 => I.ok.inj x y c (hsub x c h1) (hsub y c h2)
 has := fun x h => by
  have key : scope.names.lookup x = some .free := by
   rcases h with h | h
   ·rcases iJ (env := X.env) (names := scope.names) h with q | ⟨_, q⟩
    ·exact absurd rfl (S.nocell _ (PySem.mem_of_lookup q))
    ·exact q
   ·rcases iJ (env := X.env) (names := scope.names) h with q | ⟨q, _⟩
    ·exact q
    ·cases q
  exact hhas _ (PySem.mem_of_lookup key) rfl
 cab := fun x c h => by cases h
 hd := I.ok.hd
 frames := I.ok.frames
 stk := .inl rfl
 exf := fun b hb => ⟨Nat.ne_of_lt (Nat.lt_of_lt_of_le (hold b hb) hC), fun x c e => (hfp b hb).2.2.2.2.1 x c (hsub x c e)⟩
 bs := I.bs
 bsz := Nat.le_trans I.ok.bsz I.sz
 noex := fun b o e hb => by
  rcases (hfp b hb).2.2.2.1 with q | q
  ·exact I.ok.noex b o e q
  ·exact absurd (Nat.lt_of_lt_of_le (Nat.lt_of_lt_of_le (Heap.lt_size e) I.ok.bsz) q) (Nat.lt_irrefl _)
 exfs := fun b hb hz => by
  obtain ⟨_, h1, h2, _⟩ := hfp b hb
  rcases List.mem_cons.mp (I.tM b hz) with q | q
  ·exact h1 q
  ·exact h2 q
 pB := I.stack
 frf := I.vq
theorem Jo (hNX : X.N = NX) (hkX : X.env.scope.names = kX) (S : zZ NX kX N mp scope) (I : Inv X pins σ H s) (hfp : ∀ b ∈ fp, tH X pins H b) (hold : ∀ b ∈ fp, b < s.heap.objs.size) (hC : s.heap.objs.size <= C)
  (hsub : ∀ x c, cl.lookup x = some c -> X.env.cells.lookup x = some c) (hhas : ∀ y ∈ scope.names, y.2 = .free -> ∃ c, cl.lookup y.1 = some c)
  (ho : s'.os = s.os) (hg : s'.gens = s.gens) (hn : ∃ m, s'.heap.Ns C m) (hk : ∀ b o, s.heap.get? b = some o -> s'.heap.get? b = some o) {pl : List (Addr × Obj)}
  (hp : ∀ p ∈ pl, s'.heap.get? p.1 = some p.2 /\ H p.1 = none /\ p.1 ≠ C /\ p.1 ∉ frs X.stack /\ ∀ v, p.2.data ≠ .cell v) :
  Inv (cV X N scope cl C s H fp) pl (jM mp σ) H s' where
 ok := GP hkX S I hfp hold hC hsub hhas
 os := ho
 bare := by rw [hg]; exact I.bare
 base := Un.kept hk
 loc := by
  obtain ⟨m, hm⟩ := hn
  refine ⟨m, hm, fun i x v h1 h2 h3 => ?_⟩
  have h2' : (mp.map fun o => match o with | some j => (σ[j]?).join | none => none)[i]? = some (some v) := h2
  rw [List.getElem?_map] at h2'
  cases e : mp[i]? with
  | none => rw [e] at h2'; cases h2'
  | some o =>
   rw [e] at h2'
   cases o with
   | none => cases h2'
   | some j =>
    have h4 : (σ[j]?).join = some v := by simpa using h2'
    have h5 : σ[j]? = some (some v) := by
     cases q : σ[j]? with
     | none => rw [q] at h4; cases h4
     | some z => rw [q] at h4; rw [show z = some v from h4]
    obtain ⟨g1, g2⟩ := zE S.map h1 e
    have fk := S.fre _ (PySem.mem_of_lookup g2) rfl
    obtain ⟨m0, _, hl⟩ := I.loc
    have vis : Vis X.env.scope x := by
     rcases fk with q | q
     ·exact .inr (.inl (by rw [hkX]; exact q))
     ·exact .inr (.inr (by rw [hkX]; exact q))
    obtain ⟨u, r, l⟩ := hl j x v (by rw [hNX]; exact g1) h5 vis
    refine ⟨u, r, .inr ?_⟩
    have l' : ∃ c, X.env.cells.lookup x = some c /\ s.heap.IsCell c (some u) := by
     rcases l with ⟨q, _⟩ | ⟨_, q⟩
     ·have q' : X.env.scope.names.lookup x = some .local := q
      rw [hkX] at q'
      rcases fk with z | z
      ·rw [q'] at z; cases z
      ·rw [q'] at z; cases z
     ·exact q
    obtain ⟨c, hc, oc, hoc, hd⟩ := l'
    obtain ⟨c', hc'⟩ := hhas _ (PySem.mem_of_lookup g2) rfl
    have ec : c' = c := by
     have := hsub x c' hc'
     rw [hc] at this
     exact (Option.some.inj this).symm
    subst ec
    refine ⟨?_, c', hc', oc, hk _ _ hoc, hd⟩
    rcases h3 with q | q | q
    ·rcases iJ (env := X.env) (names := scope.names) q with z | ⟨z, _⟩
     ·rw [g2] at z; cases z
     ·cases z
    ·exact .inl q
    ·exact .inr q
 cell := fun x c e => by
  obtain ⟨v, o, h1, h2⟩ := I.cell x c (hsub x c e)
  exact ⟨v, o, hk _ _ h1, h2⟩
 free := I.hok.fresh hC
 freeC := fun x c e => I.freeC x c (hsub x c e)
 pin := fun p hpp => hp p (by simpa [cV] using hpp)
 hok := I.hok.kept hk
 len := by
  show (mp.map _).length = N.length
  rw [List.length_map]
  exact zB S.map
set_option maxHeartbeats 8000000 in
theorem UJ {tg iter elt : Expr} {ifs : List Expr} {pos : Pos} {wi : TI} {g : TG} {tc : TT} {te : TE} (N : List Str) (mp : List (Option Nat)) (hNX : X.N = NX) (hkX : X.env.scope.names = kX) (S : zZ NX kX N mp scope) (hc : X.calm = true)
  (hi : PI X tg iter wi) (hg : ∀ cl C s H fp, PG (cV X N scope cl C s H fp) tg g) (ht : ∀ cl C s H fp, PTs (cV X N scope cl C s H fp) ifs tc) (he : ∀ cl C s H fp, PE (cV X N scope cl C s H fp) elt te)
  (hs : ∀ x, foldedSetIterable iter X.env x = pure x := by intro _; rfl) : PE X (.ListComp elt [⟨tg, iter, ifs, 0⟩] scope pos) (yU mp wi g tc te) := by
 intro pins s σ H Q I h
 obtain ⟨cl, hcl, hsub, hhas⟩ := Jp (env := X.env) (scope := scope) fun y hy hf => I.ok.has y.1 (by
  rcases S.fre y hy hf with q | q
  ·exact .inl (show X.env.scope.names.lookup y.1 = _ by rw [hkX]; exact q)
  ·exact .inr (show X.env.scope.names.lookup y.1 = _ by rw [hkX]; exact q))
 rw [eval_ListComp]
 refine wpAny_comprehension_free (use := none) rfl hs hcl S.kind S.locs ?_
 refine thn (hi pins s σ H _ I h) fun v s1 h1 => thn h1 fun itv s2 h2 => ?_
 obtain ⟨it, fp, tn, J, H2, e, I2, T, st2, f2, W, ⟨m0, w0⟩, turn⟩ := h2
 subst e
 refine wpAny_newObj_type (wpAny_newFunctionEnv S.nocell (by intro y hy; simp at hy) (fun h3 hns hsb => ?_) S.kind)
 dsimp only at hns hsb |-
 have hold : ∀ b ∈ fp, b < s2.heap.objs.size := fun b hb => by
  obtain ⟨o, q, _⟩ := T.obj _ _ st2 b hb
  exact Heap.lt_size q
 generalize hD : s2.heap.objs.size = D at hns hsb
 generalize hH2 : s2.heap.push { cls := .type "list", dict := none, data := .seq ([] : List Value).toArray } = P2 at hns hsb |-
 have hC : P2.objs.size = D + 1 := by rw [<- hH2, Heap.size_push, hD]
 generalize hC' : P2.objs.size = C at hns hsb |-
 rw [hC'] at hC
 have old : ∀ b o, s2.heap.get? b = some o -> h3.get? b = some o := fun b o q => by
  have hb := Heap.lt_size q
  exact hsb.extBut b o (na1 hb hD hC) (Heap.get?_push_of_some _ (hH2 ▸ Heap.get?_push_of_some _ q))
 have accD : h3.get? D = some { cls := .type "list", data := .seq ([] : List Value).toArray } :=
  hsb.extBut _ _ (na2 hC) (Heap.get?_push_of_some _ (by rw [<- hH2, <- hD]; exact Heap.get?_push_size _ rfl))
 have hfr : D ∉ frs X.stack := fun z => by
  rcases List.mem_cons.mp (I2.tM D z) with q | q
  ·exact na0 I2.lt hD q.symm
  ·exact I2.Yz (na4 hD) q
 have I0 : Inv (cV X N scope cl C s2 H2 fp) [(D, { cls := .type "list", data := .seq ([] : List Value).toArray })] (jM mp σ) H2 { s2 with heap := h3, toks := s2.toks + ([] : List (Str × Value)).length } :=
  Jo (s' := { s2 with heap := h3, toks := s2.toks + ([] : List (Str × Value)).length }) hNX hkX S I2 f2 hold (na3 hD hC) hsub hhas rfl rfl ⟨_, hns⟩ old fun p hp => by
   have ep := List.mem_singleton.mp hp
   subst ep
   exact ⟨accD, I2.hok.fresh (na4 hD), na2 hC, hfr, fun v z => by cases z⟩
 have T0 : tn 0 h3 := T.keep _ _ _ st2 fun b _ o q => old b o q
 have loop : ∀ z : Shared, z = { s2 with heap := h3, toks := s2.toks + ([] : List (Str × Value)).length } ->
   codeAny (model X.prog X.w) X.A (.compLoop (.ListComp elt [⟨tg, iter, ifs, 0⟩] scope pos) 0 (.ref it) (.ref D) (compEnvC scope cl C X.env))
    (compPost (model X.prog X.w) X.A X.xe none (EP X pins σ Q) (.ref D) C) z := by
  rintro z rfl
  have stat : ∀ {H' : Hp} {pl : List (Addr × Obj)}, (∀ b ∈ fp, H' b = none) -> (∀ p ∈ pl, p.1 = D) -> ∀ b ∈ fp, tH (cV X N scope cl C s2 H2 fp) pl H' b := fun hn hp b hb => by
   have hb2 := hold b hb
   refine ⟨hn b hb, na1 hb2 hD hC, (GP hkX S I2 f2 hold (na3 hD hC) hsub hhas).exfs b hb, .inl hb, fun x c q => (f2 b hb).2.2.2.2.1 x c (hsub x c q), fun p hpp => ?_⟩
   have hpD := hp p (by simpa [cV] using hpp)
   rw [hpD]
   exact (na0 hb2 hD).symm
  refine zL (env := compEnvC scope cl C X.env) (fun n z => ∃ i acc τ H' its k, Inv (cV X N scope cl C s2 H2 fp) [(D, { cls := .type "list", data := .seq (List.toArray its) k })] τ H' z /\ tn i z.heap /\ (∀ b ∈ fp, H' b = none) /\ Vals acc its /\ acc.length <= sizeLine /\ W i n acc τ H')
   ?_ m0 ⟨0, [], _, H2, [], 0, I0, T0, fun b hb => (f2 b hb).1, .nil, Nat.zero_le _, w0⟩
  rintro n s5 ⟨i, acc, τ, H5, its, k, I5, st5, fr5, va, hz, w5⟩
  rcases turn i n acc τ H5 w5 with ⟨stop, qn⟩ | ⟨go, hz2, N9, hN9, step⟩
  ·refine thn (T.done (cV X N scope cl C s2 H2 fp) rfl rfl rfl hc i _ s5 τ H5 _ I5 (stat fr5 (by simp)) st5 stop) fun r s6 ⟨hr, I6⟩ => ?_
   subst hr
   obtain ⟨m6, hn6, _⟩ := I6.loc
   refine ⟨m6, hn6, fun h' sb => ?_⟩
   obtain ⟨dD, nD, _, _, _⟩ := I6.pin (D, _) (List.mem_append_right _ (List.mem_singleton.mpr rfl))
   have U := I6.base
   have nC : H5 C = none := I6.free
   have ne : ∀ b o, s2.heap.get? b = some o -> b ≠ C /\ b ≠ D := fun b o q => by
    exact ⟨na1 (Heap.lt_size q) hD hC, na0 (Heap.lt_size q) hD⟩
   have keepC : ∀ b o, b ≠ C -> s6.heap.get? b = some o -> h'.get? b = some o := fun b o hb q => (sb.2 b hb).trans q
   have U' : Un (frs X.stack) fp H2 (upd H5 D (.lst acc)) s2.heap h' := by
    refine ⟨fun b o q n1 hb hx => keepC b o (ne b o q).1 (U.keep b o q n1 hb hx), fun b o q n1 hb hx => ?_, fun b o q n1 hx => ?_, fun b o q hx => ?_, fun b xs q => ?_, fun b o xs q => ?_, fun b ps q => ?_⟩
    ·obtain ⟨sl, z⟩ := U.slot b o q n1 hb hx
     exact ⟨sl, keepC b _ (ne b o q).1 z⟩
    ·rw [aJ (ne b o q).2]
     exact U.free b o q n1 hx
    ·obtain ⟨o', z⟩ := U.there b o q hx
     exact ⟨o', keepC b _ (ne b o q).1 z⟩
    ·have z := U.tups b xs q
     rw [aJ (aQ z nD)]
     exact z
    ·have z := U.frzs b o xs q
     rw [aJ (aQ z nD)]
     exact z
    ·obtain ⟨more, z⟩ := U.tbls b ps q
     exact ⟨more, by rw [aJ (aQ z nD)]; exact z⟩
   have hok : HOk X.prog X.w (upd H5 D (.lst acc)) h' := fun b u q => by
    by_cases hb : b = D
    ·subst hb
     rw [aB] at q
     cases q
     exact ⟨hz, its, k, va, keepC _ _ (na2 hC) dD⟩
    ·rw [aJ hb] at q
     refine (I6.hok b u q).stay (fun c v hcc z => keepC c v ?_ z) (fun c z => by rw [aJ (aQ z nD)]; exact z) fun c xs z => by rw [aJ (aQ z nD)]; exact z
     rcases hcc with z1 | z1
     ·subst z1
      exact aQ q nC
     ·exact aQ z1 nC
   have I7 : Inv X pins σ (upd H5 D (.lst acc)) { s6 with heap := h' } := I2.call' (s' := { s6 with heap := h' }) (ch := fp) I6.os U' hok I6.bare fun b hb => by
    obtain ⟨_, a2, _, a4, a5, a6⟩ := f2 b hb
    exact ⟨a4, a2, a5, a6⟩
   exact ⟨.ref D, _, I7, rfl, qn D nD⟩
  ·refine thn (T.item (cV X N scope cl C s2 H2 fp) rfl rfl rfl hc i _ s5 τ H5 _ I5 (stat fr5 (by simp)) st5 go) fun r s6 ⟨u, hr, h6⟩ => ?_
   subst hr
   refine thn h6 fun _ s7 ⟨x, H7, I7, r7, y7, st7, fr7⟩ => ?_
   have I7' := I7.pinned (stat fr7 (by simp)) (T.obj _ _ st7)
   have no : ∀ {α : Type} {t : Sem α} {Q1 Q2 : α -> Shared -> Prop} {E : Value -> Shared -> Prop} {z : Shared}, wpAny (model X.prog X.w) X.A t Q1 (fun _ _ => False) z -> (∀ a z, Q1 a z -> Q2 a z) -> wpAny (model X.prog X.w) X.A t Q2 E z :=
    fun q f => wpAny_mono q f fun _ _ z => z.elim
   refine no (hg cl C s2 H2 fp _ s7 τ H7 x u _ I7' r7 (step x H7 y7)) fun _ s8 ⟨τ1, H8, I8, q8⟩ => ?_
   refine no (ht cl C s2 H2 fp _ s8 τ1 H8 _ I8 q8) fun ok s9 ⟨H9, I9, q9⟩ => ?_
   have again : ∀ {H' : Hp} {z : Shared} {its' : List Value} {k' : Nat}, Inv (cV X N scope cl C s2 H2 fp) ([(D, { cls := .type "list", data := .seq (List.toArray its') k' })] ++ kZ fp s7.heap) τ1 H' z ->
     tn (i + 1) z.heap /\ (∀ b ∈ fp, H' b = none) /\ Inv (cV X N scope cl C s2 H2 fp) [(D, { cls := .type "list", data := .seq (List.toArray its') k' })] τ1 H' z := fun {H' z its' k'} Iz => by
    have get : ∀ b ∈ fp, ∀ o, s7.heap.get? b = some o -> z.heap.get? b = some o /\ H' b = none := fun b hb o q => by
     obtain ⟨a1, a2, _⟩ := Iz.pin (b, o) (List.mem_append_right _ (List.mem_append_right _ (mZ hb q)))
     exact ⟨a1, a2⟩
    refine ⟨T.keep _ _ _ st7 fun b hb o q => (get b hb o q).1, fun b hb => ?_, Iz.nP⟩
    obtain ⟨o, q, _⟩ := T.obj _ _ st7 b hb
    exact (get b hb o q).2
   cases ok with
   | false =>
    rw [if_neg Bool.false_ne_true] at q9 |-
    obtain ⟨m', hm, w9⟩ := hN9 _ _ _ q9
    obtain ⟨a1, a2, a3⟩ := again I9
    exact ⟨m', hm, i + 1, acc, τ1, H9, its, k, a3, a1, a2, va, hz, w9⟩
   | true =>
    rw [if_pos rfl] at q9 |-
    refine no (he cl C s2 H2 fp _ s9 τ1 H9 _ I9 q9) fun y s10 ⟨v, H10, I10, rv, q10⟩ => ?_
    obtain ⟨m', hm, w10⟩ := hN9 _ _ _ q10
    obtain ⟨a1, a2, a3⟩ := again I10
    obtain ⟨dD, nD, _, _, _⟩ := a3.pin (D, _) (List.mem_append_right _ (List.mem_singleton.mpr rfl))
    have hlen := va.length
    refine call_meets F.slot_list_append ⟨_, dD, rfl⟩ F.entry_list_append (F.args_list_append_2 _ _) (PySem.list_append D its.toArray k y (by rw [List.size_toArray]; omega)) ⟨dD, ?_⟩
    obtain ⟨k', q⟩ : ∃ k', (s10.heap.update D (Obj.mapSeq fun a => a.push y)).get? D = some { cls := .type "list", data := .seq (its ++ [y]).toArray k' } := by
     have q := PySem.IsL.update dD (fun a => a.push y)
     rw [show its.toArray.push y = (its ++ [y]).toArray by simp] at q
     exact ⟨_, q⟩
    have a4 : Inv (cV X N scope cl C s2 H2 fp) (kZ fp s7.heap) τ1 H10 s10 := I10.pU fun p hp => I10.pin p (List.mem_append_right _ (List.mem_append_right _ hp))
    have a5 : Inv (cV X N scope cl C s2 H2 fp) (kZ fp s7.heap) τ1 H10 { s10 with heap := s10.heap.update D (Obj.mapSeq fun a => a.push y), toks := s10.toks } :=
     a4.turned (it := D) (fun b o hb z => (Heap.get?_update_other _ _ (Ne.symm hb)).trans z) nD (na2 hC) (.inr (na4 hD))
      (fun x c z => by
       obtain ⟨_, o, h1, _⟩ := I2.cell x c (hsub x c z)
       exact na0 (Heap.lt_size h1) hD) fun p hp => by
       have hb := (tW (by simpa [cV] using hp)).1
       exact na0 (hold _ hb) hD
    obtain ⟨b1, b2, b3⟩ := (show tn (i + 1) (s10.heap.update D (Obj.mapSeq fun a => a.push y)) /\ (∀ b ∈ fp, H10 b = none) /\ True from
     ⟨T.keep _ _ _ a1 fun b hb o z => (Heap.get?_update_other _ _ (na0 (hold b hb) hD).symm).trans z, a2, trivial⟩)
    refine ⟨m', hm, i + 1, acc ++ [v], τ1, H10, its ++ [y], k', a5.pU fun p hp => ?_, b1, b2, va.append (.cons rv .nil), by rw [List.length_append, List.length_singleton]; omega, w10⟩
    have ep := List.mem_singleton.mp hp
    subst ep
    exact ⟨q, nD, na2 hC, hfr, fun v z => by cases z⟩
 have e1 : { newEnv scope C X.env.globals cl X.env.qual none .none (some X.env) X.env.builtins with scope := relabel scope X.env } = compEnvC scope cl C X.env := rfl
 exact codeAny_compStart_list (loop _ rfl) (T.self _ 0 _ _ _ T0 (loop _ rfl))
end
section
variable {X : Cx} {pins : List (Addr × Obj)} {σ : St} {H : Hp} {s : Shared}
theorem Inv.G9 {ch : List Addr} {h' : Heap} {t' : Nat} (I : Inv X pins σ H s) (hf : ∀ b ∈ ch, tH X pins H b) (k : ∀ b o, b ∉ ch -> s.heap.get? b = some o -> h'.get? b = some o) : Inv X pins σ H { s with heap := h', toks := t' } := by
 have nit : ∀ b u, H b = some u -> b ∉ ch := fun b u e z => by rw [(hf b z).1] at e; cases e
 refine I.step (g' := s.gens) (d' := s.drawn) (ch := ch) (fun b hb => ?_) (fun b o _ _ hc e _ => k b o hc e) (fun b o _ _ hc e _ => ⟨o.slots, k b o hc e⟩) (fun _ _ _ _ n => n)
  (fun b o hc e => ⟨o, k b o hc e⟩) (fun _ _ e => e) (fun _ _ _ e => e) (fun b ps e => ⟨#[], by rw [e]; simp⟩) (fun m hm => ?_) (fun b u e => ?_) I.bare
 ·obtain ⟨_, a2, _, a4, a5, a6⟩ := hf b hb
  exact ⟨a4, a2, a5, a6⟩
 ·obtain ⟨o, es, ep, ho, r⟩ := hm
  exact ⟨o, es, ep, k _ o (fun z => (hf _ z).2.1 rfl) ho, r⟩
 ·refine (I.hok b u e).stay (fun c v hc q => k c v ?_ q) (fun _ q => q) fun _ _ q => q
  rcases hc with z | z
  ·rw [z]; exact nit b u e
  ·exact nit c _ z
theorem Inv.G8 {ch : List Addr} {h' : Heap} {t' : Nat} {p : Addr} {o : HO} (I : Inv X pins σ H s) (hf : ∀ b ∈ ch, tH X pins H b) (k : ∀ b o, b ∉ ch -> s.heap.get? b = some o -> h'.get? b = some o) (hp : s.heap.objs.size <= p)
  (new : cQ X.prog X.w (upd H p o) h' p o) : Inv X pins σ (upd H p o) { s with heap := h', toks := t' } := by
 have hn : H p = none := I.hok.fresh hp
 have nit : ∀ b u, H b = some u -> b ∉ ch := fun b u e z => by rw [(hf b z).1] at e; cases e
 have lt : ∀ b u, s.heap.get? b = some u -> b ≠ p := fun b u e => Nat.ne_of_lt (Nat.lt_of_lt_of_le (Heap.lt_size e) hp)
 refine I.step (g' := s.gens) (d' := s.drawn) (ch := ch) (fun b hb => ?_) (fun b o _ _ hc e _ => k b o hc e) (fun b o _ _ hc e _ => ⟨o.slots, k b o hc e⟩) (fun b o _ e n => by rw [aJ (lt b o e)]; exact n)
  (fun b o hc e => ⟨o, k b o hc e⟩) (fun b xs e => by rw [aJ (aQ e hn)]; exact e) (fun b u xs e => by rw [aJ (aQ e hn)]; exact e) (fun b ps e => ⟨#[], by rw [aJ (aQ e hn), e]; simp⟩) (fun m hm => ?_) (fun b u e => ?_) I.bare
 ·obtain ⟨_, a2, _, a4, a5, a6⟩ := hf b hb
  exact ⟨a4, a2, a5, a6⟩
 ·obtain ⟨o, es, ep, ho, r⟩ := hm
  exact ⟨o, es, ep, k _ o (fun z => (hf _ z).2.1 rfl) ho, r⟩
 ·by_cases hb : b = p
  ·subst hb
   rw [aB] at e
   cases e
   exact new
  ·rw [aJ hb] at e
   refine (I.hok b u e).stay (fun c v hc q => k c v ?_ q) (fun c q => by rw [aJ (aQ q hn)]; exact q) fun c xs q => by rw [aJ (aQ q hn)]; exact q
   rcases hc with z | z
   ·rw [z]; exact nit b u e
   ·exact nit c _ z
end
def Itz (K : PySem.W.Frag) (a b : Addr) : It :=
 ⟨fun i H => ∃ xs ys x y, SqL K H a xs /\ SqL K H b ys /\ xs[i]? = some x /\ ys[i]? = some y,
  fun i H v H' => ∃ p x y, v = .ref p /\ H p = none /\ H' = upd H p (.tup [x, y]) /\ (∀ xs, SqL K H a xs -> xs[i]? = some x) /\ ∀ ys, SqL K H b ys -> ys[i]? = some y,
  fun i H => ∃ xs ys, SqL K H a xs /\ SqL K H b ys /\ (xs[i]? = none \/ ys[i]? = none)⟩
theorem Lp {P : Program} {w : World} {K : PySem.W.Frag} {es : List Expr} {kk : Nat} {tpos : Pos} {z TI TO i1 i2 l1 l2 : Addr} (D : ZipApart z TI TO i1 i2 l1 l2) :
  Turn P w K (.Tuple es kk tpos) (Itz K l1 l2) [z, TI, TO, i1, i2] z (fun i h => IsZip h z TI TO .none /\ IsPair h TI (.ref i1) (.ref i2) /\ (∃ a b, IsPair h TO a b) /\ h.IsListIter i1 l1 i /\ h.IsListIter i2 l2 i) where
 mem := by simp
 obj := fun i h st b hb => by
  obtain ⟨hz, hTI, ⟨a, b', hTO⟩, ⟨o1, e1, c1, d1⟩, ⟨o2, e2, c2, d2⟩⟩ := st
  simp only [List.mem_cons, List.not_mem_nil, or_false] at hb
  rcases hb with rfl | rfl | rfl | rfl | rfl
  ·exact ⟨_, hz, fun v q => by cases q⟩
  ·exact ⟨_, hTI, fun v q => by cases q⟩
  ·exact ⟨_, hTO, fun v q => by cases q⟩
  ·exact ⟨o1, e1, fun v q => by rw [d1] at q; cases q⟩
  ·exact ⟨o2, e2, fun v q => by rw [d2] at q; cases q⟩
 keep := fun i h h' st k => by
  obtain ⟨hz, hTI, ⟨a, b', hTO⟩, h1, h2⟩ := st
  exact ⟨k z (by simp) _ hz, k TI (by simp) _ hTI, ⟨a, b', k TO (by simp) _ hTO⟩, h1.at fun o e => k i1 (by simp) o e, h2.at fun o e => k i2 (by simp) o e⟩
 item := by
  intro X hP hw hK hc i pins s σ H E I hf st hg
  subst hP hw hK
  obtain ⟨xs, ys, x, y, q1, q2, hx, hy⟩ := hg
  obtain ⟨its1, rv1, p1, hz1⟩ := I.list q1
  obtain ⟨its2, rv2, p2, hz2⟩ := I.list q2
  obtain ⟨u1, hu1, ru1⟩ := rv1.get hx
  obtain ⟨u2, hu2, ru2⟩ := rv2.get hy
  obtain ⟨hz, hTI, ⟨a, b', hTO⟩, h1, h2⟩ := st
  refine wpAny_pyNext_zip_item D hz hTI hTO h1 h2 p1.isList p2.isList (x := u1) (y := u2) (by simpa using hu1) (by simpa using hu2) fun h' a1 a2 a3 a4 a5 a6 hk => ?_
  have new : cQ X.prog X.w (upd H s.heap.objs.size (.tup [x, y])) h' s.heap.objs.size (.tup [x, y]) := ⟨by show 2 <= sizeLine; decide, [u1, u2], .cons ru1 (.cons ru2 .nil), _, a5, rfl, _, rfl⟩
  have I1 : Inv X pins σ (upd H s.heap.objs.size (.tup [x, y])) { s with heap := h' } := I.G8 (t' := s.toks) (ch := [z, TO, i1, i2]) (fun b hb => hf b (by
   simp only [List.mem_cons, List.not_mem_nil, or_false] at hb |-
   rcases hb with r | r | r | r <;> simp [r]))
   (fun b o hb e => hk b o (fun q => hb (by simp [q])) (fun q => hb (by simp [q])) (fun q => hb (by simp [q])) (fun q => hb (by simp [q])) e) (Nat.le_refl _) new
  have hTI' : IsPair h' TI (.ref i1) (.ref i2) := hk _ _ D.TIz D.TITO D.TIi1 D.TIi2 hTI
  have hsz : ∀ b, b ∈ [z, TI, TO, i1, i2] -> b ≠ s.heap.objs.size := fun b hb => by
   obtain ⟨_, _, hlt, _⟩ := hf b hb
   have lt : ∃ o, s.heap.get? b = some o := by
    simp only [List.mem_cons, List.not_mem_nil, or_false] at hb
    rcases hb with rfl | rfl | rfl | rfl | rfl
    ·exact ⟨_, hz⟩
    ·exact ⟨_, hTI⟩
    ·exact ⟨_, hTO⟩
    ·obtain ⟨o, e, _⟩ := h1; exact ⟨o, e⟩
    ·obtain ⟨o, e, _⟩ := h2; exact ⟨o, e⟩
   obtain ⟨o, e⟩ := lt
   exact Nat.ne_of_lt (Heap.lt_size e)
  refine ⟨_, rfl, wpAny_letOwnedTupleGo_zip (s := { s with heap := h' }) a1 fun h'' z2 sb => ?_⟩
  have fz := hf z (by simp)
  have I2 : Inv X pins σ (upd H s.heap.objs.size (.tup [x, y])) { s with heap := h'' } := Inv.turned (s := { s with heap := h' }) (it := z) (t' := s.toks) I1 (fun b o hb e => (sb.2 b hb).trans e) (by rw [aJ (hsz z (by simp))]; exact fz.1) fz.2.1 fz.2.2.2.1 fz.2.2.2.2.1 fz.2.2.2.2.2
  refine ⟨.ref s.heap.objs.size, _, I2, rfl, ⟨_, x, y, rfl, I.fresh, rfl, fun xs' q => by rw [I.oU q q1]; exact hx, fun ys' q => by rw [I.oU q q2]; exact hy⟩,
   ⟨z2, (sb.2 _ D.TIz).trans hTI', ⟨_, _, (sb.2 _ D.TOz).trans a2⟩, a3.extBut sb.extBut D.i1z, a4.extBut sb.extBut D.i2z⟩, fun b hb => by rw [aJ (hsz b hb)]; exact (hf b hb).1⟩
 done := by
  intro X hP hw hK hc i pins s σ H E I hf st hg
  subst hP hw hK
  obtain ⟨xs, ys, q1, q2, hx⟩ := hg
  obtain ⟨its1, rv1, p1, hz1⟩ := I.list q1
  obtain ⟨its2, rv2, p2, hz2⟩ := I.list q2
  obtain ⟨hz, hTI, ⟨a, b', hTO⟩, h1, h2⟩ := st
  have hend : its1.toArray[i]? = none \/ its2.toArray[i]? = none := by
   rcases hx with r | r
   ·exact .inl (by simpa using rv1.none_of r)
   ·exact .inr (by simpa using rv2.none_of r)
  refine wpAny_pyNext_zip_end (I.ok.hd hc) D hz hTI hTO h1 h2 p1.isList p2.isList hend fun h' hk => ⟨rfl, ?_⟩
  exact I.G9 (t' := s.toks) (ch := [z, TO, i1, i2]) (fun b hb => hf b (by
   simp only [List.mem_cons, List.not_mem_nil, or_false] at hb |-
   rcases hb with r | r | r | r <;> simp [r]))
   (fun b o hb e => hk b o (fun q => hb (by simp [q])) (fun q => hb (by simp [q])) (fun q => hb (by simp [q])) (fun q => hb (by simp [q])) e)
 self := fun _ _ _ _ _ st h => wpAny_pyIter_zip st.1 h
section
variable {X : Cx}
end
def Ite (K : PySem.W.Frag) (a : Addr) : It :=
 ⟨fun i H => ∃ xs x, SqL K H a xs /\ xs[i]? = some x,
  fun i H v H' => ∃ p x, v = .ref p /\ H p = none /\ H' = upd H p (.tup [.int (i : Nat), x]) /\ ∀ xs, SqL K H a xs -> xs[i]? = some x,
  fun i H => ∃ xs, SqL K H a xs /\ xs[i]? = none⟩
theorem Jv {P : Program} {w : World} {K : PySem.W.Frag} {es : List Expr} {kk : Nat} {tpos : Pos} {e it l : Addr} (hne : e ≠ it) :
  Turn P w K (.Tuple es kk tpos) (Ite K l) [e, it] e (fun i h => (∃ old, IsEnum h e it ((i : Nat) : Int) old) /\ h.IsListIter it l i) where
 mem := by simp
 obj := fun i h st b hb => by
  obtain ⟨⟨old, he⟩, ⟨o1, e1, c1, d1⟩⟩ := st
  simp only [List.mem_cons, List.not_mem_nil, or_false] at hb
  rcases hb with rfl | rfl
  ·exact ⟨_, he, fun v q => by cases q⟩
  ·exact ⟨o1, e1, fun v q => by rw [d1] at q; cases q⟩
 keep := fun i h h' st k => by
  obtain ⟨⟨old, he⟩, h1⟩ := st
  exact ⟨⟨old, k e (by simp) _ he⟩, h1.at fun o q => k it (by simp) o q⟩
 item := by
  intro X hP hw hK hc i pins s σ H E I hf st hg
  subst hP hw hK
  obtain ⟨xs, x, q1, hx⟩ := hg
  obtain ⟨its1, rv1, p1, hz1⟩ := I.list q1
  obtain ⟨u1, hu1, ru1⟩ := rv1.get hx
  obtain ⟨⟨old, he⟩, h1⟩ := st
  refine wpAny_pyNext_enum_item he h1 p1.isList (x := u1) (by simpa using hu1) hne fun h' a1 a2 a3 a4 hk => ?_
  have new : cQ X.prog X.w (upd H s.heap.objs.size (.tup [.int (i : Nat), x])) h' s.heap.objs.size (.tup [.int (i : Nat), x]) := ⟨by show 2 <= sizeLine; decide, [.int (i : Nat) s.toks, u1], .cons ⟨_, rfl⟩ (.cons ru1 .nil), _, a3, rfl, _, rfl⟩
  have I1 : Inv X pins σ (upd H s.heap.objs.size (.tup [.int (i : Nat), x])) { s with heap := h', toks := s.toks + 1 } := I.G8 (ch := [e, it]) hf
   (fun b o hb q => hk b o (fun z => hb (by simp [z])) (fun z => hb (by simp [z])) q) (Nat.le_refl _) new
  have hsz : ∀ b, b ∈ [e, it] -> b ≠ s.heap.objs.size := fun b hb => by
   have lt : ∃ o, s.heap.get? b = some o := by
    simp only [List.mem_cons, List.not_mem_nil, or_false] at hb
    rcases hb with rfl | rfl
    ·exact ⟨_, he⟩
    ·obtain ⟨o, q, _⟩ := h1; exact ⟨o, q⟩
   obtain ⟨o, q⟩ := lt
   exact Nat.ne_of_lt (Heap.lt_size q)
  refine ⟨_, rfl, wpAny_letOwnedTupleGo_enum (s := { s with heap := h', toks := s.toks + 1 }) a1 fun h'' z2 sb => ?_⟩
  have fz := hf e (by simp)
  have I2 : Inv X pins σ (upd H s.heap.objs.size (.tup [.int (i : Nat), x])) { s with heap := h'', toks := s.toks + 1 } := Inv.turned (s := { s with heap := h', toks := s.toks + 1 }) (it := e) I1 (fun b o hb q => (sb.2 b hb).trans q) (by rw [aJ (hsz e (by simp))]; exact fz.1) fz.2.1 fz.2.2.2.1 fz.2.2.2.2.1 fz.2.2.2.2.2
  refine ⟨.ref s.heap.objs.size, _, I2, rfl, ⟨_, x, rfl, I.fresh, rfl, fun xs' q => by rw [I.oU q q1]; exact hx⟩,
   ⟨⟨_, by simpa using z2⟩, a2.extBut sb.extBut hne.symm⟩, fun b hb => by rw [aJ (hsz b hb)]; exact (hf b hb).1⟩
 done := by
  intro X hP hw hK hc i pins s σ H E I hf st hg
  subst hP hw hK
  obtain ⟨xs, q1, hx⟩ := hg
  obtain ⟨its1, rv1, p1, hz1⟩ := I.list q1
  obtain ⟨⟨old, he⟩, h1⟩ := st
  refine wpAny_pyNext_enum_end (I.ok.hd hc) he h1 p1.isList (by simpa using rv1.none_of hx) fun h' hk => ⟨rfl, ?_⟩
  exact I.G9 (t' := s.toks) (ch := [e, it]) hf (fun b o hb q => hk b o (fun z => hb (by simp [z])) q)
 self := fun _ _ _ _ _ st h => by
  obtain ⟨⟨old, he⟩, _⟩ := st
  exact wpAny_pyIter_enum he h
def Q5 (K : PySem.W.Frag) (ta : TA) : TI := fun σ H R => ta σ H fun vs H1 => ∃ a, vs = [.ref a] /\ (∃ xs, SqL K H1 a xs) /\ R (Ite K a) H1
section
variable {X : Cx}
theorem Us {es : List Expr} {kk : Nat} {tpos : Pos} {a : Expr} {ta : TA} {p pos : Pos} (hg : Gl X "enumerate") (hm : X.mg "enumerate" = none) (ha : PA X [a] ta) (hs : starEach [a] X.env = [(false, eval a X.env)] := by rfl) :
  PI X (.Tuple es kk tpos) (.Call (.Name "enumerate" p) [a] [] pos) (Q5 X.K ta) := by
 intro pins s σ H R I h
 refine Call_ (qL I hg hm PyProof.Rows.Boot.«enumerate» (PyProof.Rows.callWith_type1 (thA (ha pos pins s σ H _ I h) fun us s1 vs H1 I1 r1 q1 => ?_) hs rfl))
 obtain ⟨l1, e, ⟨xs, g1⟩, q⟩ := q1
 subst e
 cases r1 with
 | cons r rr =>
  cases rr
  cases r
  obtain ⟨its1, rv1, p1, hz1⟩ := I1.list g1
  refine call_enumerate_list p1.isList fun h' b1 b2 b3 hk => ?_
  refine wpAny_pyIter_enum (s := { s1 with heap := h' }) b1 ?_
  have I2 : Inv X pins σ H1 { s1 with heap := h' } := I1.kept (t' := s1.toks) hk
  refine ⟨_, _, _, _, H1, rfl, I2, Jv (Nat.ne_of_gt (Nat.lt_succ_self _)), ⟨⟨_, b1⟩, b2⟩, fun b hb => ?_, q⟩
  have hle : s1.heap.objs.size <= b := by
   simp only [List.mem_cons, List.not_mem_nil, or_false] at hb
   rcases hb with rfl | rfl <;> simp
  exact I1.GJ hle (I1.hok.fresh hle)
end
theorem Vals.bools : ∀ {bs : List Bool} {us : List Value}, Vals (bs.map V.bl) us -> us = bs.map Value.bool
 | [], _, .nil => rfl
 | _ :: _, _, .cons r t => by rw [Vals.bools t, (show _ = Value.bool _ from r)]; rfl
section
variable {X : Cx}
theorem Lb (bs : List Bool) : ((List.range bs.length).all fun i => (bs[i]?).getD true) = bs.all id := by
 rw [Bool.eq_iff_iff, List.all_eq_true, List.all_eq_true]
 constructor
 ·intro h b hb
  obtain ⟨i, hi, rfl⟩ := List.getElem_of_mem hb
  have := h i (List.mem_range.mpr hi)
  rw [List.getElem?_eq_getElem hi] at this
  exact this
 ·intro h i hi
  have hi' := List.mem_range.mp hi
  rw [List.getElem?_eq_getElem hi']
  exact h _ (List.getElem_mem hi')
theorem La (bs : List Bool) : ((List.range bs.length).any fun i => (bs[i]?).getD false) = bs.any id := by
 rw [Bool.eq_iff_iff, List.any_eq_true, List.any_eq_true]
 constructor
 ·intro ⟨i, hi, h⟩
  have hi' := List.mem_range.mp hi
  rw [List.getElem?_eq_getElem hi'] at h
  exact ⟨_, List.getElem_mem hi', h⟩
 ·intro ⟨b, hb, h⟩
  obtain ⟨i, hi, rfl⟩ := List.getElem_of_mem hb
  exact ⟨i, List.mem_range.mpr hi, by rw [List.getElem?_eq_getElem hi]; exact h⟩
def Ni (K : PySem.W.Frag) (f : List Bool -> Bool) : List V -> Hp -> VK -> Prop := fun xs H Q => ∃ p bs, xs = [.ref p] /\ SqL K H p (List.map V.bl bs) /\ Q (.bl (f bs)) H
theorem Rz (hc : X.calm = true) : dH X (.builtin "all") (Ni X.K fun bs => bs.all id) := by
 intro pins s σ H xs us Q I r h
 obtain ⟨p, bs, rfl, hq, q⟩ := h
 cases r with
 | cons r rr =>
  cases rr
  cases r
  obtain ⟨its, rv, pl, hz⟩ := I.list hq
  have e := rv.bools
  subst e
  have lt : p < s.heap.objs.size := by obtain ⟨_, e, _⟩ := pl.isList; exact Heap.lt_size e
  refine call_all_walk (wpAny_pyIter_list pl.isList ?_)
  refine ⟨s.heap.objs.size, [s.heap.objs.size, p], [s.heap.objs.size], (bs.map Value.bool).toArray.size, _, _, fun i => (bs[i]?).getD true, rfl, Walks.list (A := X.A.in1) (I.ok.hd hc) _ p (Nat.ne_of_lt lt) _,
   ⟨⟨_, Heap.get?_push_size _ rfl, rfl, rfl⟩, pl.isList.push _⟩, fun i v s' Q' E' hP hQ => ?_, fun h' tk hk => ?_⟩
  ·have e : (bs.map Value.bool)[i]? = some v := by simpa using hP
   rw [List.getElem?_map] at e
   cases z : bs[i]? with
   | none => rw [z] at e; cases e
   | some b =>
    rw [z] at e
    have e' : Value.bool b = v := Option.some.inj e
    subst e'
    dsimp only at hQ
    rw [z] at hQ
    exact wpAny_truthy_bool hQ
  ·rw [List.size_toArray, List.length_map, Lb]
   refine ⟨.bl _, H, I.kept fun b o e => hk b o (fun hm => ?_) (Heap.get?_push_of_some _ e), rfl, q⟩
   rw [List.mem_singleton.mp hm] at e
   exact Nat.lt_irrefl _ (Heap.lt_size e)
theorem Ry (hc : X.calm = true) : dH X (.builtin "any") (Ni X.K fun bs => bs.any id) := by
 intro pins s σ H xs us Q I r h
 obtain ⟨p, bs, rfl, hq, q⟩ := h
 cases r with
 | cons r rr =>
  cases rr
  cases r
  obtain ⟨its, rv, pl, hz⟩ := I.list hq
  have e := rv.bools
  subst e
  have lt : p < s.heap.objs.size := by obtain ⟨_, e, _⟩ := pl.isList; exact Heap.lt_size e
  refine call_any_walk (wpAny_pyIter_list pl.isList ?_)
  refine ⟨s.heap.objs.size, [s.heap.objs.size, p], [s.heap.objs.size], (bs.map Value.bool).toArray.size, _, _, fun i => (bs[i]?).getD false, rfl, Walks.list (A := X.A.in1) (I.ok.hd hc) _ p (Nat.ne_of_lt lt) _,
   ⟨⟨_, Heap.get?_push_size _ rfl, rfl, rfl⟩, pl.isList.push _⟩, fun i v s' Q' E' hP hQ => ?_, fun h' tk hk => ?_⟩
  ·have e : (bs.map Value.bool)[i]? = some v := by simpa using hP
   rw [List.getElem?_map] at e
   cases z : bs[i]? with
   | none => rw [z] at e; cases e
   | some b =>
    rw [z] at e
    have e' : Value.bool b = v := Option.some.inj e
    subst e'
    dsimp only at hQ
    rw [z] at hQ
    exact wpAny_truthy_bool hQ
  ·rw [List.size_toArray, List.length_map, La]
   refine ⟨.bl _, H, I.kept fun b o e => hk b o (fun hm => ?_) (Heap.get?_push_of_some _ e), rfl, q⟩
   rw [List.mem_singleton.mp hm] at e
   exact Nat.lt_irrefl _ (Heap.lt_size e)
def aaz (K : PySem.W.Frag) : List V -> Hp -> VK -> Prop := fun xs H Q => ∃ x T t b, xs = [x, .ty T] /\ qi K H x t /\ PySem.W.kitOne K t (.type T) = some b /\ Q (.bl b) H
theorem Rx : dH X (.builtin "isinstance") (aaz X.K) := by
 intro pins s σ H xs us Q I r h
 obtain ⟨x, T, t, b, rfl, ty, e, q⟩ := h
 cases r with
 | cons r rr =>
  cases rr with
  | cons r' rr =>
   cases rr
   cases (show _ = Value.type T from r')
   exact Ks I r ty e fun tk => ⟨.bl b, H, I.tok tk, rfl, q⟩
def Zx (K : PySem.W.Frag) : List V -> Hp -> VK -> Prop := fun xs H Q => ∃ x p Ts t b, xs = [x, .ref p] /\ SqT K H p (List.map V.ty Ts) /\ qi K H x t /\ PySem.W.kitAny K t (Ts.map Value.type) = some b /\ Q (.bl b) H
theorem Vals.types : ∀ {bs : List String} {us : List Value}, Vals (bs.map V.ty) us -> us = bs.map Value.type
 | [], _, .nil => rfl
 | _ :: _, _, .cons r t => by rw [Vals.types t, (show _ = Value.type _ from r)]; rfl
theorem aaE {x : V} {u t : Value} {pins : List (Addr × Obj)} {σ : St} {H : Hp} {s : Shared} (I : Inv X pins σ H s) (rx : RelV x u) (ty : qi X.K H x t) (hl : ∀ a C dx fs, H a = some (.ins C dx fs) -> x ≠ .ref a) :
  ∃ Hh : Heap -> Prop, PySem.W.KitX X.K u t Hh /\ Hh s.heap /\ u ≠ .builtin "__main__.__loader__#opaque" := by
 cases ty with
 | non => cases (show u = Value.none from rx); exact ⟨_, PySem.W.kitx_none, True.intro, fun z => nomatch z⟩
 | bl y => cases (show u = Value.bool y from rx); exact ⟨_, PySem.W.kitx_bool, True.intro, fun z => nomatch z⟩
 | int i => obtain ⟨t, q⟩ := (show ∃ t, u = Value.int i t from rx); cases q; exact ⟨_, PySem.W.kitx_int, True.intro, fun z => nomatch z⟩
 | str y => obtain ⟨t, q⟩ := (show ∃ t, u = Value.str y t from rx); cases q; exact ⟨_, PySem.W.kitx_str, True.intro, fun z => nomatch z⟩
 | flt y => obtain ⟨t, q⟩ := (show ∃ t, u = Value.float y t from rx); cases q; exact ⟨_, PySem.W.kitx_float, True.intro, fun z => nomatch z⟩
 | @lst a xs ea =>
  cases (show u = Value.ref a from rx)
  obtain ⟨_, _, n, _, h1⟩ := (show cQ X.prog X.w H s.heap a (.lst xs) from I.hok a _ ea)
  exact ⟨_, PySem.W.kitx_list, ⟨_, h1, rfl⟩, fun z => nomatch z⟩
 | @frz a ob xs ea =>
  cases (show u = Value.ref a from rx)
  obtain ⟨_, _, _, n, _, h1⟩ := (show cQ X.prog X.w H s.heap a (.frz ob (.lst xs)) from I.hok a _ ea)
  exact ⟨_, PySem.W.kitx_list, ⟨_, h1, rfl⟩, fun z => nomatch z⟩
 | @tup a xs ea =>
  cases (show u = Value.ref a from rx)
  obtain ⟨_, _, _, p⟩ := (show cQ X.prog X.w H s.heap a (.tup xs) from I.hok a _ ea)
  obtain ⟨o, h1, h2, _⟩ := p
  exact ⟨_, PySem.W.kitx_tuple, ⟨o, h1, h2⟩, fun z => nomatch z⟩
 | @dK a kvs ea =>
  cases (show u = Value.ref a from rx)
  obtain ⟨_, _, vs, _, p⟩ := (show cQ X.prog X.w H s.heap a (.dK kvs) from I.hok a _ ea)
  obtain ⟨o, es, ep, h1, h2, _⟩ := p
  exact ⟨_, PySem.W.kitx_dict, ⟨o, h1, h2.1⟩, fun z => nomatch z⟩
 | @dT a kvs ea =>
  cases (show u = Value.ref a from rx)
  obtain ⟨_, _, xs, _, o, es, ep, h1, h2, _⟩ := (show cQ X.prog X.w H s.heap a (.dT kvs) from I.hok a _ ea)
  exact ⟨_, PySem.W.kitx_dict, ⟨o, h1, h2.1⟩, fun z => nomatch z⟩
 | @ins a C dx fs ea cl ha hn htk hm => exact absurd rfl (hl a C dx fs ea)
theorem K4 : dH X (.builtin "isinstance") (fun xs H Q => Zx X.K xs H Q /\ ∀ a C dx fs, H a = some (.ins C dx fs) -> xs.head? ≠ some (.ref a)) := by
 intro pins s σ H xs us Q I r h
 obtain ⟨⟨x, p, Ts, t, b, rfl, hq, ty, e, q⟩, hl⟩ := h
 cases r with
 | cons r rr =>
  cases rr with
  | cons r' rr =>
   cases rr
   cases r'
   obtain ⟨Hh, Z, hh, ne⟩ := aaE I r ty fun a C dx fs z w' => hl a C dx fs z (by rw [w']; rfl)
   obtain ⟨its, rv, ⟨o, ho, hcl, n, hd⟩, hz⟩ := I.tuple hq
   have ei := rv.types
   subst ei
   obtain ⟨c0, d0, dt0, sl0⟩ := o
   cases (show c0 = Value.type "tuple" from hcl)
   cases (show dt0 = Data.seq (List.map Value.type Ts).toArray n from hd)
   exact PySem.W.kia_tup Z I.kIn hh ho e ne fun tk => ⟨.bl b, H, I.tok tk, rfl, q⟩
end
inductive Tn (H : Hp) : V -> String -> Prop where
 | non : Tn H .non "NoneType"
 | bl (b : Bool) : Tn H (.bl b) "bool"
 | int (i : Int) : Tn H (.int i) "int"
 | str (x : Str) : Tn H (.str x) "str"
 | lst {a : Addr} {xs : List V} (e : H a = some (.lst xs)) : Tn H (.ref a) "list"
 | tup {a : Addr} {xs : List V} (e : H a = some (.tup xs)) : Tn H (.ref a) "tuple"
theorem Tn.ty {K : PySem.W.Frag} {H : Hp} {x : V} {t : String} (h : Tn H x t) : qi K H x (.type t) := by
 cases h with
 | non => exact .non
 | bl b => exact .bl b
 | int i => exact .int i
 | str x => exact .str x
 | lst e => exact .lst e
 | tup e => exact .tup e
def d8 (t T : String) : Bool := t == T || (t == "bool" && T == "int")
def eY : List String := ["NoneType", "bool", "int", "str", "list", "tuple"]
theorem Io (K : PySem.W.Frag) : ∀ t ∈ eY, ∀ T ∈ eY, PySem.W.kitOne K (.type t) (.type T) = some (d8 t T) := by
 intro t ht T hT
 simp only [eY, List.mem_cons, List.not_mem_nil, or_false] at ht hT
 rcases ht with rfl | rfl | rfl | rfl | rfl | rfl <;> rcases hT with rfl | rfl | rfl | rfl | rfl | rfl <;> first | rfl | kernel_rfl
theorem Tn.known {H : Hp} {x : V} {t : String} (h : Tn H x t) : t ∈ eY := by cases h <;> decide
section
variable {X : Cx}
theorem K7 : dH X (.builtin "isinstance") (fun xs H Q => ∃ x T t, xs = [x, .ty T] /\ Tn H x t /\ T ∈ eY /\ Q (.bl (d8 t T)) H) := by
 intro pins s σ H xs us Q I r h
 obtain ⟨x, T, t, rfl, ty, hT, q⟩ := h
 exact Rx pins s σ H _ us Q I r ⟨x, T, _, _, rfl, ty.ty, Io X.K t ty.known T hT, q⟩
theorem Ip (K : PySem.W.Frag) {t : String} (ht : t ∈ eY) : ∀ Ts : List String, (∀ T ∈ Ts, T ∈ eY) -> PySem.W.kitAny K (.type t) (Ts.map Value.type) = some (Ts.any fun T => d8 t T)
 | [], _ => rfl
 | T :: r, h => by
  have e := Io K t ht T (h T List.mem_cons_self)
  have ih := Ip K ht r fun T' h' => h T' (List.mem_cons_of_mem _ h')
  show (match PySem.W.kitOne K (.type t) (.type T) with | some true => some true | some false => PySem.W.kitAny K (.type t) (r.map Value.type) | none => none) = _
  rw [e, List.any_cons]
  cases d8 t T with
  | true => rfl
  | false => exact ih
theorem K6 : dH X (.builtin "isinstance") (fun xs H Q => ∃ x p Ts t, xs = [x, .ref p] /\ H p = some (.tup (List.map V.ty Ts)) /\ Tn H x t /\ (∀ T ∈ Ts, T ∈ eY) /\ Q (.bl (Ts.any fun T => d8 t T)) H) := by
 intro pins s σ H xs us Q I r h
 obtain ⟨x, p, Ts, t, rfl, hp, ty, hT, q⟩ := h
 refine K4 pins s σ H _ us Q I r ⟨⟨x, p, Ts, _, _, rfl, SqT.of hp, ty.ty, Ip X.K ty.known Ts hT, q⟩, fun a C dx fs e z => ?_⟩
 have z' : x = .ref a := by simpa using z
 subst z'
 cases ty with
 | lst e' => rw [e] at e'; cases e'
 | tup e' => rw [e] at e'; cases e'
def WW (i j : Int) : Prop := 0 < j /\ j < 2 ^ 70
theorem CW : OpR X (binaryOp .FloorDiv) (rI WW fun i j => .int (i / j)) := opI fun i j _ _ _ _ _ hc q => by
 have h1 : (0 : Int) < j := hc.1
 have h2 : j < 2 ^ 70 := hc.2
 refine floordiv_int (by omega) (by rw [Int.fdiv_eq_ediv_of_nonneg i (by omega)]; exact q) (.inl (PyProof.noPylong_of_log2 ?_))
 have h3 : j.natAbs ≠ 0 := by omega
 have h4 : j.natAbs.log2 < 70 := (Nat.log2_lt h3).mpr (by omega)
 omega
end
def cj (p : Addr) (H H' : Hp) : Prop := ∀ b o, b ≠ p -> H b = some o -> H' b = some o
theorem cj.refl (p : Addr) (H : Hp) : cj p H H := fun _ _ _ h => h
theorem cj.trans {p : Addr} {H H1 H2 : Hp} (a : cj p H H1) (b : cj p H1 H2) : cj p H H2 := fun c o n h => b c o n (a c o n h)
theorem cj.upd {p : Addr} {H : Hp} {o : HO} : cj p H (upd H p o) := fun b u n h => by rw [aJ n]; exact h
theorem Same.x {p : Addr} {H H' : Hp} (h : Same H H') : cj p H H' := fun b o _ q => h b o q
theorem aA {H : Hp} {p : Addr} {o : HO} (h : H p = none) : Same H (upd H p o) := fun b u q => by rw [aJ (aQ q h)]; exact q
structure Cal (P : Program) (w : World) (K : PySem.W.Frag) (mg : Str -> Option Value) (base : Heap) (x : Str) (k : Nat) (ps : List Str) (sp : Sp) : Prop where
 ex : ∃ (f : Addr) (fd : FuncData), dh P w K mg base CX0 k f fd ps sp /\ Binds K fd ps [] /\ PySem.W.keepIn K (.ref f) = true /\ mg x = some (.ref f)
section
variable {X : Cx} {k : Nat} {ps : List Str} {sp : Sp} {x : Str} {p pos : Pos} {e : Expr} {es : List Expr} {t : TA}
theorem Ym (C : Cal X.prog X.w X.K X.mg X.base x k ps sp) (hr : gB k X.A) (hg : Gl X x) (ha : PA X (e :: es) t) (hdb : (x == ("__debug__" : Str)) = false := by decide)
  (he : starEach (e :: es) X.env = (false, eval e X.env) :: starEach es X.env := by rfl) (hpl : (backTo pos (starEach es X.env)).any (·.1) = false := by rfl) : PE X (.Call (.Name x p) (e :: es) [] pos) (nQ sp [] E0 t) := by
 obtain ⟨f, fd, F, b, kp, hm⟩ := C.ex
 exact Ie F hr hg hm kp b .nil Z2 ha hdb he hpl
end
structure fH (K : PySem.W.Frag) (mg : Str -> Option Value) (x : Str) (st : Stmt) (ps : List Str) (f : Addr) (fd : FuncData) : Prop where
 fn : Fun K x x st f fd
 bd : Binds K fd ps []
 nm : mg x = some (.ref f)
theorem fH.cal {P : Program} {w : World} {K : PySem.W.Frag} {mg : Str -> Option Value} {base : Heap} {x : Str} {st : Stmt} {ps : List Str} {f : Addr} {fd : FuncData} {k : Nat} {sp : Sp} (D : fH K mg x st ps f fd) (F : dh P w K mg base CX0 k f fd ps sp) : Cal P w K mg base x k ps sp :=
 ⟨f, fd, F, D.bd, D.fn.kp, D.nm⟩
theorem lQ {k : Nat} (h : k <= 40) : (2 : Int) ^ k <= 1099511627776 := by
 have h1 : (2 : Nat) ^ k <= 2 ^ 40 := Nat.pow_le_pow_right (by decide) h
 have h2 : ((2 ^ k : Nat) : Int) = (2 : Int) ^ k := by simp
 have h3 : (2 : Nat) ^ 40 = 1099511627776 := by decide
 omega
theorem M4 (i j : Int) : JG (.int i) (.int j) = true := rfl
theorem SM (i j : Bool) : JG (.bl i) (.bl j) = true := rfl
theorem MP (i j : Str) : JG (.str i) (.str j) = true := rfl
theorem MT : JG .non .non = true := rfl
theorem aap {α : Type} (a : α) (r : List α) : atI (a :: r) 0 = some a := cT (j := 0) rfl
theorem aao {α : Type} (a b : α) (r : List α) : atI (a :: b :: r) 1 = some b := cT (j := 1) rfl
theorem aan {α : Type} (a b c : α) (r : List α) : atI (a :: b :: c :: r) 2 = some c := cT (j := 2) rfl
theorem Qs : ixN 3 0 = some 0 /\ ixN 3 1 = some 1 /\ ixN 3 2 = some 2 := ⟨by decide, by decide, by decide⟩
theorem aP {n : Nat} (h : n <= 1000000) : n <= sizeLine := Nat.le_trans h (by decide)
def ixq (o : Option HO) (i : Int) (H : Hp) (Q : VK) : Prop := match o with
 | some (.lst xs) => ∃ v, atI xs i = some v /\ Q v H
 | some (.tup xs) => ∃ v, atI xs i = some v /\ Q v H
 | _ => False
def stq (o : Option HO) (p : Addr) (k : Int) (v : V) (H : Hp) (Q : Hp -> Prop) : Prop := match o with
 | some (.lst xs) => ∃ j, ixN xs.length k = some j /\ Q (upd H p (.lst (xs.set j v)))
 | _ => False
def lnq (o : Option HO) (H : Hp) (Q : VK) : Prop := match o with
 | some (.lst ys) => Q (.int ys.length) H
 | some (.tup ys) => Q (.int ys.length) H
 | _ => False
def CN : R2 := fun x y H Q => match x, y with
 | .ref p, .int i => ixq (H p) i H Q
 | _, _ => False
def Nh : V -> V -> V -> Hp -> (Hp -> Prop) -> Prop := fun o i v H Q => match o, i with
 | .ref p, .int k => stq (H p) p k v H Q
 | _, _ => False
def HW : List V -> Hp -> VK -> Prop := fun xs H Q => match xs with
 | [.ref p] => lnq (H p) H Q
 | _ => False
theorem NT (p : Addr) (i : Int) (H : Hp) (Q : VK) : CN (.ref p) (.int i) H Q = ixq (H p) i H Q := rfl
theorem JM (p : Addr) (k : Int) (v : V) (H : Hp) (Q : Hp -> Prop) : Nh (.ref p) (.int k) v H Q = stq (H p) p k v H Q := rfl
theorem JQ (p : Addr) (H : Hp) (Q : VK) : HW [.ref p] H Q = lnq (H p) H Q := rfl
theorem Iu (xs : List V) (i : Int) (H : Hp) (Q : VK) : ixq (some (.lst xs)) i H Q = ∃ v, atI xs i = some v /\ Q v H := rfl
theorem Vq (xs : List V) (i : Int) (H : Hp) (Q : VK) : ixq (some (.tup xs)) i H Q = ∃ v, atI xs i = some v /\ Q v H := rfl
theorem Hg (xs : List V) (p : Addr) (k : Int) (v : V) (H : Hp) (Q : Hp -> Prop) : stq (some (.lst xs)) p k v H Q = ∃ j, ixN xs.length k = some j /\ Q (upd H p (.lst (xs.set j v))) := rfl
theorem Vl (xs : List V) (H : Hp) (Q : VK) : lnq (some (.lst xs)) H Q = Q (.int xs.length) H := rfl
theorem Vk (xs : List V) (H : Hp) (Q : VK) : lnq (some (.tup xs)) H Q = Q (.int xs.length) H := rfl
section
variable {X : Cx}
theorem eO : IxR X CN := by
 intro value slice pins s σ H x y v u Q I rx ry h hs
 unfold CN at h
 split at h
 ·rename_i p i
  unfold ixq at h
  split at h
  ·rename_i xs e
   obtain ⟨z, hz, q⟩ := h
   exact Iw value slice pins s σ H _ _ v u Q I rx ry ⟨p, xs, i, z, rfl, rfl, SqL.of e, hz, q⟩ hs
  ·rename_i xs e
   obtain ⟨z, hz, q⟩ := h
   exact YX value slice pins s σ H _ _ v u Q I rx ry ⟨p, xs, i, z, rfl, rfl, SqT.of e, hz, q⟩ hs
  ·exact h.elim
 ·exact h.elim
theorem HJ : RW X Nh := by
 intro pins s σ H o i v ov iv u Q I ro ri rv h
 unfold Nh at h
 split at h
 ·rename_i p k
  unfold stq at h
  split at h
  ·rename_i xs e
   obtain ⟨j, hj, q⟩ := h
   exact set_list pins s σ H _ _ v ov iv u Q I ro ri rv ⟨p, xs, k, j, rfl, rfl, e, hj, q⟩
  ·exact h.elim
 ·exact h.elim
theorem dO : dH X (.builtin "len") HW := by
 intro pins s σ H xs us Q I r h
 unfold HW at h
 split at h
 ·rename_i p
  unfold lnq at h
  split at h
  ·rename_i ys e
   exact jG pins s σ H _ us Q I r ⟨p, ys, rfl, .inl (SqL.of e), h⟩
  ·rename_i ys e
   exact jG pins s σ H _ us Q I r ⟨p, ys, rfl, .inr (SqT.of e), h⟩
  ·exact h.elim
 ·exact h.elim
end
def Ob : List V -> Hp -> VK -> Prop := fun xs H Q => match xs with
 | [.int i] => Q (.int i) H
 | [.bl k] => Q (.int (if k then 1 else 0)) H
 | _ => False
theorem Tf (k : Bool) (H : Hp) (Q : VK) : Ob [.bl k] H Q = Q (.int (if k then 1 else 0)) H := rfl
theorem qT {X : Cx} : dH X (.type "int") Ob := by
 intro pins s σ H xs us Q I r h
 unfold Ob at h
 split at h
 ·exact zP pins s σ H _ us Q I r (.inl ⟨_, rfl, h⟩)
 ·exact zP pins s σ H _ us Q I r (.inr ⟨_, rfl, h⟩)
 ·exact h.elim
theorem aK {t u : TS} {D : Ends} {σ : St} {H : Hp} (h : ∀ k, k = u D -> t { D with nx := k } σ H) : Lr t u D σ H := h _ rfl
theorem pC {wi : TI} {g : TG} {tb : TS} {D : Ends} {σ : St} {H : Hp} (h : ∀ R : It -> Hp -> Prop, R = (fun J H1 => ∃ W : Nat -> Nat -> St -> Hp -> Prop, (∃ m, W 0 m σ H1) /\ ∀ i m σ H, W i m σ H ->
  (J.stop i H /\ D.nx σ H) \/ (J.go i H /\ ∃ N : St -> Hp -> Prop, (∀ σ' H', N σ' H' -> ∃ m', m' < m /\ W (i + 1) m' σ' H') /\ ∀ x H', J.yld i H x H' -> g x σ H' fun σ2 H2 => tb { D with nx := N, ct := N, bk := D.nx } σ2 H2)) -> wi σ H R) : R9 wi g tb D σ H := h _ rfl
theorem Jd {lo : Int} {n : Nat} {g : TG} {tb : TS} {D : Ends} {σ : St} {H : Hp} {R : It -> Hp -> Prop} (hR : R = (fun J H1 => ∃ W : Nat -> Nat -> St -> Hp -> Prop, (∃ m, W 0 m σ H1) /\ ∀ i m σ H, W i m σ H ->
  (J.stop i H /\ D.nx σ H) \/ (J.go i H /\ ∃ N : St -> Hp -> Prop, (∀ σ' H', N σ' H' -> ∃ m', m' < m /\ W (i + 1) m' σ' H') /\ ∀ x H', J.yld i H x H' -> g x σ H' fun σ2 H2 => tb { D with nx := N, ct := N, bk := D.nx } σ2 H2)))
  (Pv : Nat -> St -> Hp -> Prop) (h0 : Pv 0 σ H) (hs : ∀ i σ H, i < n -> Pv i σ H -> g (.int (lo + i)) σ H fun σ2 H2 => tb { D with nx := Pv (i + 1), ct := Pv (i + 1), bk := D.nx } σ2 H2) (hd : ∀ σ H, Pv n σ H -> D.nx σ H) : R (Itr lo n) H := by
 subst hR
 exact KJ Pv h0 hs hd
theorem Rh {K : PySem.W.Frag} {a : Addr} {xs : List V} {g : TG} {tb : TS} {D : Ends} {σ : St} {H : Hp} {R : It -> Hp -> Prop} (hR : R = (fun J H1 => ∃ W : Nat -> Nat -> St -> Hp -> Prop, (∃ m, W 0 m σ H1) /\ ∀ i m σ H, W i m σ H ->
  (J.stop i H /\ D.nx σ H) \/ (J.go i H /\ ∃ N : St -> Hp -> Prop, (∀ σ' H', N σ' H' -> ∃ m', m' < m /\ W (i + 1) m' σ' H') /\ ∀ x H', J.yld i H x H' -> g x σ H' fun σ2 H2 => tb { D with nx := N, ct := N, bk := D.nx } σ2 H2)))
  (Pv : Nat -> St -> Hp -> Prop) (h0 : Pv 0 σ H) (hl : ∀ i σ H, i <= xs.length -> Pv i σ H -> SqL K H a xs) (hs : ∀ i x σ H, xs[i]? = some x -> Pv i σ H -> g x σ H fun σ2 H2 => tb { D with nx := Pv (i + 1), ct := Pv (i + 1), bk := D.nx } σ2 H2) (hd : ∀ σ H, Pv xs.length σ H -> D.nx σ H) : R (Itl K a) H := by
 subst hR
 exact Rg Pv h0 hl hs hd
def xX (mp : List (Option Nat)) (g : TG) (tc : TT) (te : TE) (σ : St) (Q : VK) (J : It) (H1 : Hp) : Prop := ∃ W : Nat -> Nat -> List V -> St -> Hp -> Prop, (∃ m, W 0 m [] (jM mp σ) H1) /\ ∀ i m acc τ H2, W i m acc τ H2 ->
  (J.stop i H2 /\ ∀ d, H2 d = none -> Q (.ref d) (upd H2 d (.lst acc))) \/
  (J.go i H2 /\ acc.length < sizeLine /\ ∃ N : List V -> St -> Hp -> Prop, (∀ acc' τ' H', N acc' τ' H' -> ∃ m', m' < m /\ W (i + 1) m' acc' τ' H') /\ ∀ x H3, J.yld i H2 x H3 -> g x τ H3 fun τ1 H4 => tc τ1 H4 fun b H5 =>
   if b = true then te τ1 H5 fun v H6 => N (acc ++ [v]) τ1 H6 else N acc τ1 H5)
theorem eH {mp : List (Option Nat)} {wi : TI} {g : TG} {tc : TT} {te : TE} {σ : St} {H : Hp} {Q : VK} (h : ∀ R : It -> Hp -> Prop, R = xX mp g tc te σ Q -> wi σ H R) : yU mp wi g tc te σ H Q := h _ rfl
theorem sW {J : It} {mp : List (Option Nat)} {g : TG} {tc : TT} {te : TE} {σ : St} {H : Hp} {Q : VK} {R : It -> Hp -> Prop} (hR : R = xX mp g tc te σ Q) (n : Nat) (hz : n <= sizeLine) (Pv : Nat -> List V -> St -> Hp -> Prop) (h0 : Pv 0 [] (jM mp σ) H)
  (hl : ∀ i acc τ H, Pv i acc τ H -> acc.length <= i) (hgo : ∀ i acc τ H, i < n -> Pv i acc τ H -> J.go i H) (hst : ∀ acc τ H, Pv n acc τ H -> J.stop n H)
  (hs : ∀ i acc τ H x H3, i < n -> Pv i acc τ H -> J.yld i H x H3 -> g x τ H3 fun τ1 H4 => tc τ1 H4 fun b H5 => if b = true then te τ1 H5 fun v H6 => Pv (i + 1) (acc ++ [v]) τ1 H6 else Pv (i + 1) acc τ1 H5)
  (hd : ∀ acc τ H d, Pv n acc τ H -> H d = none -> Q (.ref d) (upd H d (.lst acc))) : R J H := by
 subst hR
 refine ⟨fun i m acc τ H2 => m = n - i /\ i <= n /\ Pv i acc τ H2, ⟨_, rfl, Nat.zero_le _, h0⟩, ?_⟩
 rintro i m acc τ H2 ⟨rfl, hi, p⟩
 have q3 := hl i acc τ H2 p
 by_cases hlt : i < n
 ·exact .inr ⟨hgo i acc τ H2 hlt p, by omega, Pv (i + 1), fun acc' τ' H' q => ⟨_, by omega, rfl, hlt, q⟩, fun x H3 y => hs i acc τ H2 x H3 hlt p y⟩
 ·have e : i = n := by omega
  subst e
  exact .inl ⟨hst acc τ H2 p, fun d hd' => hd acc τ H2 d p hd'⟩
structure Nm (N : List Str) (sc : Scope) (i : Nat) (x : Str) : Prop where
 hN : N[i]? = some x
 hv : Loc sc x
 hd : (x == ("__debug__" : Str)) = false
 hcd : (x == ("__classdict__" : Str)) = false
def Z8 (N : List Str) (sc : Scope) (i : Nat) (x : Str) : Bool := decide (N[i]? = some x) && (decide (sc.names.lookup x = some .local) || decide (sc.names.lookup x = some .cell)) && !(x == ("__debug__" : Str)) && !(x == ("__classdict__" : Str))
theorem Nm.of {N : List Str} {sc : Scope} {i : Nat} {x : Str} (h : Z8 N sc i x = true) : Nm N sc i x := by
 unfold Z8 at h
 rw [Bool.and_eq_true, Bool.and_eq_true, Bool.and_eq_true, Bool.or_eq_true] at h
 obtain ⟨⟨⟨h1, h2⟩, h3⟩, h4⟩ := h
 exact ⟨of_decide_eq_true h1, h2.elim (fun z => .inl (of_decide_eq_true z)) (fun z => .inr (of_decide_eq_true z)), by simpa using h3, by simpa using h4⟩
structure Bn (x : Str) : Prop where
 hn : x ≠ "__name__"
 hd : (x == ("__debug__" : Str)) = false
section
variable {X : Cx} {i : Nat} {x : Str} {pos pos' p : Pos} {e : Expr} {es : List Expr} {te : TE} {t : TA} {k : Nat} {ps : List Str} {sp : Sp} {id T : String} {r : List V -> Hp -> VK -> Prop}
theorem pn (n : Nm X.N X.env.scope i x) : PE X (.Name x pos) (mO i) := Ox n.hN (n.hv.elim .inl fun z => .inr (.inl z)) n.hd n.hcd
theorem ZG (n : Nm X.N X.env.scope i x) (hN : X.N.Nodup) (he : PE X e te) (hs : swapsWith e (some (.Name x pos')) pos.line X.env = pure false := by rfl) (hf : X.fn x = true \/ X.env.scope.names.lookup x = some .local := by exact .inl rfl) :
  PS X (.Assign [.Name x pos'] e pos) (yc te (kJ i)) := XQ hN n.hN n.hv he hs hf
theorem ZK (n : Nm X.N X.env.scope i x) (hN : X.N.Nodup) (hf : X.fn x = true \/ X.env.scope.names.lookup x = some .local := by exact .inl rfl) : PG X (.Name x pos) (kJ i) := Ib hN n.hN n.hv hf
theorem ZV (C : Cal X.prog X.w X.K X.mg X.base x k ps sp) (hr : gB k X.A) (hg : Gl X x) (hdb : Bn x) (ha : PA X (e :: es) t)
  (he : starEach (e :: es) X.env = (false, eval e X.env) :: starEach es X.env := by rfl) (hpl : (backTo pos (starEach es X.env)).any (·.1) = false := by rfl) : PE X (.Call (.Name x p) (e :: es) [] pos) (nQ sp [] E0 t) :=
 Ym C hr hg ha hdb.hd he hpl
theorem ZW (hc : dH X (.builtin id) r) (hg : Gl X x) (hm : X.mg x = none) (hv : bootBuiltins x = some (.builtin id)) (b : Bn x) (ha : PA X (e :: es) t)
  (he : starEach (e :: es) X.env = (false, eval e X.env) :: starEach es X.env := by rfl) (hpl : (backTo pos (starEach es X.env)).any (·.1) = false := by rfl) : PE X (.Call (.Name x p) (e :: es) [] pos) (tCB r t) := O1 hc hg hm hv ha b.hn b.hd he hpl
theorem ZS (hc : dH X (.type T) r) (hg : Gl X x) (hm : X.mg x = none) (hv : bootBuiltins x = some (.type T)) (b : Bn x) (ha : PA X (e :: es) t)
  (he : starEach (e :: es) X.env = (false, eval e X.env) :: starEach es X.env := by rfl) (hpl : (backTo pos (starEach es X.env)).any (·.1) = false := by rfl) : PE X (.Call (.Name x p) (e :: es) [] pos) (tCB r t) := J0 hc hg hm hv ha b.hn b.hd he hpl
theorem ZX (n : String) (hg : Gl X x) (hm : X.mg x = none) (hv : bootBuiltins x = some (.type n)) (b : Bn x) : PE X (.Name x pos) (tC (.ty n)) := U0 hg hm hv rfl b.hn b.hd
end
theorem fj : Bn "len" := ⟨by decide +kernel, by decide +kernel⟩
theorem RG : Bn "abs" := ⟨by decide +kernel, by decide +kernel⟩
theorem GR : Bn "min" := ⟨by decide +kernel, by decide +kernel⟩
theorem Za : Bn "max" := ⟨by decide +kernel, by decide +kernel⟩
theorem pI : Bn "all" := ⟨by decide +kernel, by decide +kernel⟩
theorem Zb : Bn "any" := ⟨by decide +kernel, by decide +kernel⟩
theorem aO : Bn "isinstance" := ⟨by decide +kernel, by decide +kernel⟩
theorem pH : Bn "int" := ⟨by decide +kernel, by decide +kernel⟩
theorem vK : Bn "list" := ⟨by decide +kernel, by decide +kernel⟩
theorem pG : Bn "tuple" := ⟨by decide +kernel, by decide +kernel⟩
theorem jc : Bn "str" := ⟨by decide +kernel, by decide +kernel⟩
theorem sY : Bn "bool" := ⟨by decide +kernel, by decide +kernel⟩
def tyO : Option HO -> Option String
 | some (.lst _) => some "list"
 | some (.tup _) => some "tuple"
 | _ => none
def tyN (x : V) (H : Hp) : Option String := match x with
 | .non => some "NoneType"
 | .bl _ => some "bool"
 | .int _ => some "int"
 | .str _ => some "str"
 | .ref a => tyO (H a)
 | _ => none
theorem Tn.of {x : V} {H : Hp} {t : String} (h : tyN x H = some t) : Tn H x t := by
 cases x with
 | non => cases h; exact .non
 | bl b => cases h; exact .bl b
 | int i => cases h; exact .int i
 | str s => cases h; exact .str s
 | ref a =>
  have h' : tyO (H a) = some t := h
  cases e : H a with
  | none => rw [e] at h'; cases h'
  | some o =>
   rw [e] at h'
   cases o with
   | lst xs => cases h'; exact .lst e
   | tup xs => cases h'; exact .tup e
   | _ => cases h'
 | _ => cases h
def N7 : List V -> Hp -> VK -> Prop := fun xs H Q => match xs with
 | [x, .ty T] => ∃ t, tyN x H = some t /\ eY.contains T = true /\ Q (.bl (d8 t T)) H
 | _ => False
def i2q (o : Option HO) (x : V) (H : Hp) (Q : VK) : Prop := match o with
 | some (.tup [.ty T, .ty U]) => ∃ t, tyN x H = some t /\ eY.contains T = true /\ eY.contains U = true /\ Q (.bl (d8 t T || d8 t U)) H
 | _ => False
def N5 : List V -> Hp -> VK -> Prop := fun xs H Q => match xs with
 | [x, .ref p] => i2q (H p) x H Q
 | _ => False
theorem cA {X : Cx} : dH X (.builtin "isinstance") N7 := by
 intro pins s σ H xs us Q I r h
 unfold N7 at h
 split at h
 ·obtain ⟨t, e, k, q⟩ := h
  exact K7 pins s σ H _ us Q I r ⟨_, _, t, rfl, Tn.of e, by simpa using k, q⟩
 ·exact h.elim
theorem K5 {X : Cx} : dH X (.builtin "isinstance") N5 := by
 intro pins s σ H xs us Q I r h
 unfold N5 at h
 split at h
 ·rename_i x p
  unfold i2q at h
  split at h
  ·rename_i T U e
   obtain ⟨t, e1, k1, k2, q⟩ := h
   refine K6 pins s σ H _ us Q I r ⟨x, p, [T, U], t, rfl, e, Tn.of e1, fun z hz => ?_, by simpa using q⟩
   rcases List.mem_cons.mp hz with rfl | hz
   ·simpa using k1
   ·obtain rfl := List.mem_singleton.mp hz
    simpa using k2
  ·exact h.elim
 ·exact h.elim
theorem N6 (x : V) (T : String) (H : Hp) (Q : VK) : N7 [x, .ty T] H Q = ∃ t, tyN x H = some t /\ eY.contains T = true /\ Q (.bl (d8 t T)) H := rfl
theorem NZ (x : V) (p : Addr) (H : Hp) (Q : VK) : N5 [x, .ref p] H Q = i2q (H p) x H Q := rfl
theorem Y7 (x : V) (T U : String) (H : Hp) (Q : VK) : i2q (some (.tup [.ty T, .ty U])) x H Q = ∃ t, tyN x H = some t /\ eY.contains T = true /\ eY.contains U = true /\ Q (.bl (d8 t T || d8 t U)) H := rfl
theorem Vo : eY.contains "list" = true := by decide
theorem Ql : eY.contains "tuple" = true := by decide
theorem YW : eY.contains "int" = true := by decide
theorem YT : eY.contains "str" = true := by decide
theorem kc_bool : eY.contains "bool" = true := by decide
theorem ty_int (i : Int) (H : Hp) : tyN (.int i) H = some "int" := rfl
theorem Zn (i : Bool) (H : Hp) : tyN (.bl i) H = some "bool" := rfl
theorem ty_str (i : Str) (H : Hp) : tyN (.str i) H = some "str" := rfl
theorem W5 (H : Hp) : tyN .non H = some "NoneType" := rfl
theorem W4 (p : Addr) (H : Hp) : tyN (.ref p) H = tyO (H p) := rfl
theorem R5 (xs : List V) : tyO (some (.lst xs)) = some "list" := rfl
theorem R4 (xs : List V) : tyO (some (.tup xs)) = some "tuple" := rfl
theorem tV : d8 "NoneType" "bool" = false := by decide
theorem uZ : d8 "NoneType" "int" = false := by decide
theorem uY : d8 "NoneType" "str" = false := by decide
theorem tU : d8 "NoneType" "list" = false := by decide
theorem rC : d8 "NoneType" "tuple" = false := by decide
theorem Aw : d8 "bool" "bool" = true := by decide
theorem Cz : d8 "bool" "int" = true := by decide
theorem Cy : d8 "bool" "str" = false := by decide
theorem Av : d8 "bool" "list" = false := by decide
theorem yj : d8 "bool" "tuple" = false := by decide
theorem Cw : d8 "int" "bool" = false := by decide
theorem Fl : d8 "int" "int" = true := by decide
theorem Fj : d8 "int" "str" = false := by decide
theorem Cv : d8 "int" "list" = false := by decide
theorem Ar : d8 "int" "tuple" = false := by decide
theorem Cq : d8 "str" "bool" = false := by decide
theorem Fi : d8 "str" "int" = false := by decide
theorem Fg : d8 "str" "str" = true := by decide
theorem Cp : d8 "str" "list" = false := by decide
theorem Am : d8 "str" "tuple" = false := by decide
theorem Aq : d8 "list" "bool" = false := by decide
theorem Cu : d8 "list" "int" = false := by decide
theorem Cr : d8 "list" "str" = false := by decide
theorem Ao : d8 "list" "list" = true := by decide
theorem yh : d8 "list" "tuple" = false := by decide
theorem yg : d8 "tuple" "bool" = false := by decide
theorem Al : d8 "tuple" "int" = false := by decide
theorem Ak : d8 "tuple" "str" = false := by decide
theorem ye : d8 "tuple" "list" = false := by decide
theorem vY : d8 "tuple" "tuple" = true := by decide
def gtq (o : Option HO) (n : Nat) (t : TGs) (σ : St) (H : Hp) (Q : St -> Hp -> Prop) : Prop := match o with
 | some (.tup xs) => xs.length = n /\ t xs σ H Q
 | _ => False
def Jb (n : Nat) (t : TGs) : TG := fun v σ H Q => match v with
 | .ref a => gtq (H a) n t σ H Q
 | _ => False
theorem KD (n : Nat) (t : TGs) (a : Addr) (σ : St) (H : Hp) (Q : St -> Hp -> Prop) : Jb n t (.ref a) σ H Q = gtq (H a) n t σ H Q := rfl
theorem V2 (xs : List V) (n : Nat) (t : TGs) (σ : St) (H : Hp) (Q : St -> Hp -> Prop) : gtq (some (.tup xs)) n t σ H Q = (xs.length = n /\ t xs σ H Q) := rfl
def qtq (o : Option HO) (f : List Bool -> Bool) (H : Hp) (Q : VK) : Prop := match o with
 | some (.lst xs) => ∃ bs, xs = List.map V.bl bs /\ Q (.bl (f bs)) H
 | _ => False
def rE (f : List Bool -> Bool) : List V -> Hp -> VK -> Prop := fun xs H Q => match xs with
 | [.ref p] => qtq (H p) f H Q
 | _ => False
theorem CK (f : List Bool -> Bool) (p : Addr) (H : Hp) (Q : VK) : rE f [.ref p] H Q = qtq (H p) f H Q := rfl
theorem TQ (f : List Bool -> Bool) (xs : List V) (H : Hp) (Q : VK) : qtq (some (.lst xs)) f H Q = ∃ bs, xs = List.map V.bl bs /\ Q (.bl (f bs)) H := rfl
section
variable {X : Cx} {es : List Expr} {k : Nat} {t : TGs} {n : Nat} {pos : Pos}
theorem Uv (hc : X.calm = true) (h : PGs X es t) (hn : (assignEach es X.env).length = n := by rfl) (hst : (assignEach es X.env).findIdx? (·.1) = none := by rfl) : PG X (.Tuple es k pos) (Jb n t) := by
 intro pins s σ H v u Q I r hw
 unfold Jb at hw
 split at hw
 ·rename_i a
  unfold gtq at hw
  split at hw
  ·rename_i xs e
   exact Ov hc h hn hst pins s σ H _ u Q I r ⟨a, xs, rfl, SqT.of e, hw.1, hw.2⟩
  ·exact hw.elim
 ·exact hw.elim
theorem gY (hc : X.calm = true) : dH X (.builtin "all") (rE fun bs => bs.all id) := by
 intro pins s σ H xs us Q I r h
 unfold rE at h
 split at h
 ·rename_i p
  unfold qtq at h
  split at h
  ·rename_i ys e
   obtain ⟨bs, rfl, q⟩ := h
   exact Rz hc pins s σ H _ us Q I r ⟨p, bs, rfl, SqL.of e, q⟩
  ·exact h.elim
 ·exact h.elim
theorem K9 (hc : X.calm = true) : dH X (.builtin "any") (rE fun bs => bs.any id) := by
 intro pins s σ H xs us Q I r h
 unfold rE at h
 split at h
 ·rename_i p
  unfold qtq at h
  split at h
  ·rename_i ys e
   obtain ⟨bs, rfl, q⟩ := h
   exact Ry hc pins s σ H _ us Q I r ⟨p, bs, rfl, SqL.of e, q⟩
  ·exact h.elim
 ·exact h.elim
end
def Nx : List V -> Hp -> VK -> Prop := fun xs H Q => match xs with
 | [.int i, .int j] => Q (.int (if j < i then j else i)) H
 | _ => False
def Nz : List V -> Hp -> VK -> Prop := fun xs H Q => match xs with
 | [.int i, .int j] => Q (.int (if j > i then j else i)) H
 | _ => False
theorem Nv (i j : Int) (H : Hp) (Q : VK) : Nx [.int i, .int j] H Q = Q (.int (if j < i then j else i)) H := rfl
theorem Ny (i j : Int) (H : Hp) (Q : VK) : Nz [.int i, .int j] H Q = Q (.int (if j > i then j else i)) H := rfl
theorem uL {X : Cx} (hc : X.calm = true) : dH X (.builtin "min") Nx := by
 intro pins s σ H xs us Q I r h
 unfold Nx at h
 split at h
 ·exact KZ hc pins s σ H _ us Q I r ⟨_, _, rfl, h⟩
 ·exact h.elim
theorem K1 {X : Cx} (hc : X.calm = true) : dH X (.builtin "max") Nz := by
 intro pins s σ H xs us Q I r h
 unfold Nz at h
 split at h
 ·exact K3 hc pins s σ H _ us Q I r ⟨_, _, rfl, h⟩
 ·exact h.elim
structure QE (X : Cx) (e : Expr) (t : TE) : Prop where
 h : PE X e t
structure QT (X : Cx) (e : Expr) (t : TT) : Prop where
 h : PT X e t
structure QW (X : Cx) (e : Expr) (t : TT) : Prop where
 h : PW X e t
structure QA (X : Cx) (es : List Expr) (t : TA) : Prop where
 h : PA X es t
structure QS (X : Cx) (st : Stmt) (t : TS) : Prop where
 h : PS X st t
structure QB (X : Cx) (st : List Stmt) (t : TS) : Prop where
 h : PSs X st t
structure QG (X : Cx) (e : Expr) (t : TG) : Prop where
 h : PG X e t
structure QGs (X : Cx) (es : List Expr) (t : TGs) : Prop where
 h : PGs X es t
structure QI (X : Cx) (tg e : Expr) (t : TI) : Prop where
 h : PI X tg e t
structure QC (X : Cx) (cs : List Expr) (t : TT) : Prop where
 h : PTs X cs t
section
variable {X : Cx} {i : Nat} {x : Str} {pos pos' p tpos : Pos} {e a b c o : Expr} {es rest : List Expr} {te ta tb tc to ti : TE} {tA tB' : TT} {t : TA} {k n kk : Nat} {ps : List Str} {sp : Sp} {id T : String} {r : List V -> Hp -> VK -> Prop} {st : Stmt} {sts : List Stmt} {ts us : TS} {tg iter : Expr} {wi : TI} {g : TG} {gs : TGs}
theorem aq (h : Nm X.N X.env.scope i x) : QE X (.Name x pos) (mO i) := ⟨pn h⟩
theorem iQ (i : Nat) {x : Str} {pos : Pos} (hN : X.N[i]? = some x := by rfl) (hv : Vis X.env.scope x := by first | exact Or.inl rfl | exact Or.inr (Or.inl rfl) | exact Or.inr (Or.inr rfl)) (hd : (x == ("__debug__" : Str)) = false := by decide)
  (hcd : (x == ("__classdict__" : Str)) = false := by decide) : QE X (.Name x pos) (mO i) := ⟨Ox hN hv hd hcd⟩
theorem au {i j pos} : QE X (.Constant (.int i) j pos) (tC (.int i)) := ⟨Yl⟩
theorem nF {b j pos} : QE X (.Constant (.bool b) j pos) (tC (.bl b)) := ⟨Z1⟩
theorem cH {j pos} : QE X (.Constant .none j pos) (tC .non) := ⟨Yj⟩
theorem aG {x j pos} : QE X (.Constant (.str x) j pos) (tC (.str x)) := ⟨Yg⟩
theorem aH {op : Operator} {r : R2} (ho : OpR X (binaryOp op) r) (ha : QE X a ta) (hb : QE X b tb) : QE X (.BinOp a op b pos) (tOp r ta tb) := ⟨ZQ ho ha.h hb.h⟩
theorem Ia {op : UnaryOp} {r : V -> Hp -> VK -> Prop} (ho : UnR X (unaryOp op) r) (ha : QE X a ta) : QE X (.UnaryOp op a pos) (tUn r ta) := ⟨ZL ho ha.h⟩
theorem Fv (ha : QE X a ta) : QE X (.UnaryOp .Not a pos) (Lx ta) := ⟨Yi ha.h⟩
theorem fD {op : CmpOp} {r : R2} (ho : OpR X (compareOp op) r) (ha : QE X a ta) (hb : QE X b tb) (hm : behindInMarks op b = false) : QE X (.Compare a [op] [b] pos) (tOp r ta tb) := ⟨UW ho ha.h hb.h hm⟩
theorem aW {op : CmpOp} {r : R2} (ho : OpR X (compareOp op) r) (ha : QE X a ta) (hb : QE X b tb) (hm : behindInMarks op b = false) : QT X (.Compare a [op] [b] pos) (yS (tOp r ta tb)) := ⟨Uc ho ha.h hb.h hm⟩
theorem jR {op op' : CmpOp} {r r' : R2} (ho : OpR X (compareOp op) r) (ho' : OpR X (compareOp op') r') (ha : QE X a ta) (hb : QE X b tb) (hc : QE X c tc)
  (hm : lastMarks [op, op'] [b, c] = false := by with_unfolding_all rfl) : QE X (.Compare a [op, op'] [b, c] pos) (vQ r r' ta tb tc) := ⟨OJ ho ho' ha.h hb.h hc.h hm⟩
theorem rF {op op' : CmpOp} {r r' : R2} (ho : OpR X (compareOp op) r) (ho' : OpR X (compareOp op') r') (ha : QE X a ta) (hb : QE X b tb) (hc : QE X c tc)
  (hm : lastMarks [op, op'] [b, c] = false := by with_unfolding_all rfl) : QT X (.Compare a [op, op'] [b, c] pos) (yS (vQ r r' ta tb tc)) := ⟨Oj ho ho' ha.h hb.h hc.h hm⟩
theorem jq {op} (h : QE X a ta) : QE X (.BoolOp op [a] pos) ta := ⟨Yh h.h⟩
theorem iB (ha : QE X a ta) (hb : QE X (.BoolOp .And (b :: rest) pos) tb) : QE X (.BoolOp .And (a :: b :: rest) pos) (Mj ta tb) := ⟨Yn ha.h hb.h⟩
theorem Zz (ha : QE X a ta) (hb : QE X (.BoolOp .Or (b :: rest) pos) tb) : QE X (.BoolOp .Or (a :: b :: rest) pos) (Xb ta tb) := ⟨ZP ha.h hb.h⟩
theorem iR (hc : QT X c tA) (ha : QE X a ta) (hb : QE X b tb) : QE X (.IfExp c a b pos) (tIf tA ta tb) := ⟨OD hc.h ha.h hb.h⟩
theorem bR {r : R2} (hr : IxR X r) (ha : QE X a ta) (hb : QE X b tb) (hs : Js b) : QE X (.Subscript a b pos) (tOp r ta tb) := ⟨ZR hr ha.h hb.h hs⟩
theorem gP (h : QA X es t) : QE X (.List es pos) (Xd t) := ⟨Yk h.h⟩
theorem bY {x1} (h : QA X es t) : QE X (.Tuple es x1 pos) (R8 t) := ⟨Ye h.h⟩
theorem ao : QA X [] xZ := ⟨Yp⟩
theorem ak (ha : QE X e te) (hr : QA X es t) (hs : starEach (e :: es) X.env = (false, eval e X.env) :: starEach es X.env := by rfl) : QA X (e :: es) (jL te t) := ⟨U4 ha.h hr.h hs⟩
theorem bf (C : Cal X.prog X.w X.K X.mg X.base x k ps sp) (hr : gB k X.A) (hg : Gl X x) (hdb : Bn x) (ha : QA X (e :: es) t)
  (he : starEach (e :: es) X.env = (false, eval e X.env) :: starEach es X.env := by rfl) (hpl : (backTo pos (starEach es X.env)).any (·.1) = false := by rfl) : QE X (.Call (.Name x p) (e :: es) [] pos) (nQ sp [] E0 t) := ⟨ZV C hr hg hdb ha.h he hpl⟩
theorem bI (hc : dH X (.builtin id) r) (hg : Gl X x) (hm : X.mg x = none) (hv : bootBuiltins x = some (.builtin id)) (b : Bn x) (ha : QA X (e :: es) t)
  (he : starEach (e :: es) X.env = (false, eval e X.env) :: starEach es X.env := by rfl) (hpl : (backTo pos (starEach es X.env)).any (·.1) = false := by rfl) : QE X (.Call (.Name x p) (e :: es) [] pos) (tCB r t) := ⟨ZW hc hg hm hv b ha.h he hpl⟩
theorem jQ (hc : dH X (.type T) r) (hg : Gl X x) (hm : X.mg x = none) (hv : bootBuiltins x = some (.type T)) (b : Bn x) (ha : QA X (e :: es) t)
  (he : starEach (e :: es) X.env = (false, eval e X.env) :: starEach es X.env := by rfl) (hpl : (backTo pos (starEach es X.env)).any (·.1) = false := by rfl) : QE X (.Call (.Name x p) (e :: es) [] pos) (tCB r t) := ⟨ZS hc hg hm hv b ha.h he hpl⟩
theorem gD (n : String) (hg : Gl X x) (hm : X.mg x = none) (hv : bootBuiltins x = some (.type n)) (b : Bn x) : QE X (.Name x pos) (tC (.ty n)) := ⟨ZX n hg hm hv b⟩
theorem fQ (ha : QT X a tA) : QT X (.UnaryOp .Not a pos) (Xc tA) := ⟨XJ ha.h⟩
theorem cW (h : QE X e te) (he : ∀ whole, isTrue e X.env whole = (do let v <- whole; standAt e.pos; holding [v] (truthy v)) := by intro _; rfl) : QT X e (tB te) := ⟨XH h.h he⟩
theorem Ay (ha : QT X a tA) : QW X (.BoolOp .And [a] pos) tA := ⟨Ua ha.h⟩
theorem fO (ha : QT X a tA) : QW X (.BoolOp .Or [a] pos) tA := ⟨Xy ha.h⟩
theorem Ft (ha : QT X a tA) (hb : QW X (.BoolOp .And (b :: rest) pos) tB') : QW X (.BoolOp .And (a :: b :: rest) pos) (Xf tA tB') := ⟨Xz ha.h hb.h⟩
theorem fP (ha : QT X a tA) (hb : QW X (.BoolOp .Or (b :: rest) pos) tB') : QW X (.BoolOp .Or (a :: b :: rest) pos) (tOr tA tB') := ⟨ZF ha.h hb.h⟩
theorem lO (h : QW X e tA) : QT X e tA := ⟨h.h.pt⟩
theorem bJ : QB X [] Ly := ⟨Ue⟩
theorem aF (h : QS X st ts) : QB X [st] ts := ⟨Ud h.h⟩
theorem aD (h : QS X st ts) (h2 : QB X sts us) : QB X (st :: sts) (Lr ts us) := ⟨Ol h.h h2.h⟩
theorem aL (he : QE X e te) : QS X (.Return (some e) pos) (Jz te) := ⟨XS he.h⟩
theorem cg {c : Expr} {a b : List Stmt} {tc : TT} (hc : QT X c tc) (ha : QB X a ts) (hb : QB X b us) : QS X (.If c a b pos) (Xe tc ts us) := ⟨ZJ hc.h ha.h hb.h⟩
theorem j9 (he : QE X e te) (hs : swapsWith e none pos.line X.env = pure false := by rfl) : QS X (.Expr e pos) (Ma te) := ⟨Uj he.h hs⟩
theorem bL (h : Nm X.N X.env.scope i x) (hN : X.N.Nodup) (he : QE X e te) (hs : swapsWith e (some (.Name x pos')) pos.line X.env = pure false := by rfl) (hf : X.fn x = true \/ X.env.scope.names.lookup x = some .local := by exact .inl rfl) :
  QS X (.Assign [.Name x pos'] e pos) (yc te (kJ i)) := ⟨ZG h hN he.h hs hf⟩
theorem gO (he : QE X e te) (hg : QG X tg g) (hs : swapsWithSole [tg] e pos.line X.env = pure false := by rfl) (hw : swappedStores [tg] e X.env = pure none := by rfl)
  (h1 : (assignEach [tg] X.env).map (·.2) = [assign tg X.env] := by rfl) : QS X (.Assign [tg] e pos) (yc te g) := ⟨X5 he.h hg.h hs hw h1⟩
theorem Az {i j : Nat} {x y : Str} {a b : Expr} {ta : TA} {px py pt : Pos} {kt k2 pt2} (hc : X.calm = true) (hN : X.N.Nodup) (hi : X.N[i]? = some x) (hj : X.N[j]? = some y) (hij : i ≠ j)
  (hx : X.env.scope.names.lookup x = some .local) (hy : X.env.scope.names.lookup y = some .local) (ha : QA X [a, b] ta)
  (hw : swappedStores [.Tuple [.Name x px, .Name y py] kt pt] (.Tuple [a, b] k2 pt2) X.env = pure (some [x, y]))
  (hs : swapsWithSole [.Tuple [.Name x px, .Name y py] kt pt] (.Tuple [a, b] k2 pt2) pos.line X.env = pure false := by rfl) :
  QS X (.Assign [.Tuple [.Name x px, .Name y py] kt pt] (.Tuple [a, b] k2 pt2) pos) (Xa i j ta) := ⟨X3 hc hN hi hj hij hx hy ha.h hw hs⟩
theorem jP {body : List Stmt} (hp : PassesOwn (model X.prog X.w) X.A X.env X.xe) (hc : X.calm = true) (hi : QI X tg iter wi) (hg : QG X tg g) (hb : QB X body ts)
  (hs : ∀ x, foldedSetIterable iter X.env x = pure x := by intro _; rfl) : QS X (.For tg iter body [] pos) (R9 wi g ts) := ⟨X4 hp hc hi.h hg.h hb.h hs⟩
theorem cL (h : Nm X.N X.env.scope i x) (hN : X.N.Nodup) (hf : X.fn x = true \/ X.env.scope.names.lookup x = some .local := by exact .inl rfl) : QG X (.Name x pos) (kJ i) := ⟨ZK h hN hf⟩
theorem dM (i : Nat) (hN : X.N.Nodup) (hi : X.N[i]? = some x) (hx : Loc X.env.scope x) (hf : X.fn x = true \/ X.env.scope.names.lookup x = some .local := by first | exact .inl rfl | exact .inr rfl) : QG X (.Name x pos) (kJ i) := ⟨Ib hN hi hx hf⟩
theorem eU : QGs X [] Y8 := ⟨Ut⟩
theorem bh (h1 : QG X e g) (h2 : QGs X es gs) (hs : (assignEach (e :: es) X.env).map (·.2) = assign e X.env :: (assignEach es X.env).map (·.2) := by rfl) : QGs X (e :: es) (Rb g gs) := ⟨Ou h1.h h2.h hs⟩
theorem jo {n : Nat} (hc : X.calm = true) (h : QGs X es gs) (hn : (assignEach es X.env).length = n := by rfl) (hst : (assignEach es X.env).findIdx? (·.1) = none := by rfl) : QG X (.Tuple es k pos) (Jb n gs) := ⟨Uv hc h.h hn hst⟩
theorem RP (o : Expr) (c j) (p pos : Pos) (env : Env) (v : Value) : assign (.Subscript o (.Constant c j p) pos) env v = (do
   let ov <- holding [v] (eval o env)
   let iv <- holding [v, ov] (eval (.Constant c j p) env)
   standAt pos
   holding [v, ov, iv] (setItem ov iv v)
   release [v, ov, iv] []) := rfl
theorem RN (o : Expr) (y) (p pos : Pos) (env : Env) (v : Value) : assign (.Subscript o (.Name y p) pos) env v = (do
   let ov <- holding [v] (eval o env)
   let iv <- holding [v, ov] (eval (.Name y p) env)
   standAt pos
   holding [v, ov, iv] (setItem ov iv v)
   release [v, ov, iv] []) := rfl
theorem Bb {c j} {t : RT} (ho : QE X o to) (hi : QE X (.Constant c j p) ti) (hs : RW X t) : QG X (.Subscript o (.Constant c j p) pos) (V3 to ti t) := ⟨Ow ho.h hi.h hs (fun v => RP o c j p pos X.env v)⟩
theorem T5 {y} {t : RT} (ho : QE X o to) (hi : QE X (.Name y p) ti) (hs : RW X t) : QG X (.Subscript o (.Name y p) pos) (V3 to ti t) := ⟨Ow ho.h hi.h hs (fun v => RN o y p pos X.env v)⟩
theorem pQ (hg : Gl X "range") (hm : X.mg "range" = none) (ha : QA X [a] t) (hs : starEach [a] X.env = [(false, eval a X.env)] := by rfl) : QI X tg (.Call (.Name "range" p) [a] [] pos) (wW t) := ⟨JW hg hm ha.h hs⟩
theorem T4 (hg : Gl X "enumerate") (hm : X.mg "enumerate" = none) (ha : QA X [a] t) (hs : starEach [a] X.env = [(false, eval a X.env)] := by rfl) : QI X (.Tuple es kk tpos) (.Call (.Name "enumerate" p) [a] [] pos) (Q5 X.K t) := ⟨Us hg hm ha.h hs⟩
theorem fG : QC X [] Ew := ⟨Ub⟩
theorem fK {NX : List Str} {kX : List (Str × NameKind)} {scope : Scope} {elt : Expr} {ifs : List Expr} {tc : TT} (N : List Str) (mp : List (Option Nat)) (hNX : X.N = NX) (hkX : X.env.scope.names = kX) (S : zZ NX kX N mp scope) (hc : X.calm = true)
  (hi : QI X tg iter wi) (hg : ∀ cl C s H fp, QG (cV X N scope cl C s H fp) tg g) (ht : ∀ cl C s H fp, QC (cV X N scope cl C s H fp) ifs tc) (he : ∀ cl C s H fp, QE (cV X N scope cl C s H fp) elt te)
  (hs : ∀ x, foldedSetIterable iter X.env x = pure x := by intro _; rfl) : QE X (.ListComp elt [⟨tg, iter, ifs, 0⟩] scope pos) (yU mp wi g tc te) :=
 ⟨UJ N mp hNX hkX S hc hi.h (fun cl C s H fp => (hg cl C s H fp).h) (fun cl C s H fp => (ht cl C s H fp).h) (fun cl C s H fp => (he cl C s H fp).h) hs⟩
end
section
variable {P : Program} {w : World} {K : PySem.W.Frag} {mg : Str -> Option Value} {base : Heap}
theorem Fun.okq {x qual : Str} {st : Stmt} {f : Addr} {fd : FuncData} {N ps : List Str} {k : Nat} {sp : Sp} (F : Fun K x qual st f fd) (S : bF N ps (aj st)) (len : ∀ vs H Q E, sp vs H Q E -> vs.length = ps.length)
  (hbody : ∀ (cdv : Value) (A : Around) (outer : List Env) (s : Shared) (H : Hp) (vs : List V) (Q : VK) (E : XK), gB k (A.deeper (envOfC qual (aj st) s.heap.objs.size f cdv)) -> sp vs H Q E ->
   ∃ t, QB (yE CX0 P w K mg base N qual (aj st) f cdv A outer s H E).nox (aZ st) t /\ t { nx := fun _ H' => Q .non H', rt := Q } (L2.start N vs) H) : dh P w K mg base CX0 (k + 1) f fd ps sp :=
 F.ok S len fun cdv A outer s H vs Q E hr hsp => by
  obtain ⟨t, h, q⟩ := hbody cdv A outer s H vs Q E hr hsp
  exact ⟨t, h.h, q⟩
end
section
variable {X : Cx}
def adq (a b : Option HO) (H : Hp) (Q : VK) : Prop := match a, b with
 | some (.lst xs), some (.lst zs) => xs.length + zs.length <= sizeLine /\ ∀ p, H p = none -> Q (.ref p) (upd H p (.lst (xs ++ zs)))
 | _, _ => False
def zb : R2 := fun x y H Q => match x, y with
 | .int i, .int j => Q (.int (i + j)) H
 | .ref p, .ref q => adq (H p) (H q) H Q
 | _, _ => False
theorem Tz (i j : Int) (H : Hp) (Q : VK) : zb (.int i) (.int j) H Q = Q (.int (i + j)) H := rfl
theorem Tw (p q : Addr) (H : Hp) (Q : VK) : zb (.ref p) (.ref q) H Q = adq (H p) (H q) H Q := rfl
theorem xW (xs zs : List V) (H : Hp) (Q : VK) : adq (some (.lst xs)) (some (.lst zs)) H Q = (xs.length + zs.length <= sizeLine /\ ∀ p, H p = none -> Q (.ref p) (upd H p (.lst (xs ++ zs)))) := rfl
theorem cN : OpR X (binaryOp .Add) zb := by
 intro pins s σ H x y v u Q I rx ry h
 unfold zb at h
 split at h
 ·exact Yv pins s σ H _ _ v u Q I rx ry ⟨_, _, rfl, rfl, h⟩
 ·rename_i p q
  unfold adq at h
  split at h
  ·rename_i xs zs e1 e2
   exact Yu pins s σ H _ _ v u Q I rx ry ⟨p, q, xs, zs, rfl, rfl, e1, e2, h.1, h.2⟩
  ·exact h.elim
 ·exact h.elim
def eqL : List V -> List V -> Bool
 | [], [] => true
 | x :: xs, y :: ys => eqV x y && eqL xs ys
 | _, _ => false
def Z9 (a b : Option HO) (H : Hp) (Q : VK) : Prop := match a, b with
 | some (.lst xs), some (.lst zs) => xs.all gW = true /\ zs.all gW = true /\ Q (.bl (!eqL xs zs)) H
 | _, _ => False
def JN : R2 := fun x y H Q => match x, y with
 | .ref p, .ref q => Z9 (H p) (H q) H Q
 | x, y => rNe x y H Q
theorem Xn (i j : Int) (H : Hp) (Q : VK) : JN (.int i) (.int j) H Q = rNe (.int i) (.int j) H Q := rfl
theorem Xo (i j : Bool) (H : Hp) (Q : VK) : JN (.bl i) (.bl j) H Q = rNe (.bl i) (.bl j) H Q := rfl
theorem Xm (i j : Str) (H : Hp) (Q : VK) : JN (.str i) (.str j) H Q = rNe (.str i) (.str j) H Q := rfl
theorem Jg : ∀ (xs zs : List V), xs.length = zs.length -> ((List.range xs.length).all fun j => match xs[j]?, zs[j]? with | some a, some b => eqV a b | _, _ => true) = eqL xs zs
 | [], [], _ => rfl
 | [], _ :: _, h => by cases h
 | _ :: _, [], h => by cases h
 | x :: xs, z :: zs, h => by
  have ih := Jg xs zs (by simpa using h)
  rw [List.length_cons, List.range_succ_eq_map, List.all_cons, List.all_map]
  show (eqV x z && _) = (eqV x z && eqL xs zs)
  rw [<- ih]
  rfl
theorem Jf : ∀ (xs zs : List V), xs.length ≠ zs.length -> eqL xs zs = false
 | [], [], h => absurd rfl h
 | [], _ :: _, _ => rfl
 | _ :: _, [], _ => rfl
 | x :: xs, z :: zs, h => by
  show (eqV x z && eqL xs zs) = false
  rw [Jf xs zs (by simpa using h), Bool.and_false]
theorem iW (hu : X.A.units < cLine) : OpR X (compareOp .NotEq) JN := by
 intro pins s σ H x y v u Q I rx ry h
 unfold JN at h
 split at h
 ·rename_i p q
  unfold Z9 at h
  split at h
  ·rename_i xs zs e1 e2
   obtain ⟨f1, f2, q⟩ := h
   cases rx
   cases ry
   obtain ⟨its1, r1, pl1, hz1⟩ := I.list (SqL.of e1)
   obtain ⟨its2, r2, pl2, hz2⟩ := I.list (SqL.of e2)
   have l1 := r1.length
   have l2 := r2.length
   by_cases hl : xs.length = zs.length
   ·refine SeqAt.RcNeAt.lists (e := fun j => match xs[j]?, zs[j]? with | some a, some b => eqV a b | _, _ => true) pl1.isList pl2.isList (by simp only [List.size_toArray]; omega) hu (fun j h1 h2 => ?_) X.prog X.w X.xe (EP X pins σ Q) ?_
    ·have j1 : j < xs.length := by simp only [List.size_toArray] at h1; omega
     have j2 : j < zs.length := by omega
     have g1 : xs[j]? = some xs[j] := List.getElem?_eq_getElem j1
     have g2 : zs[j]? = some zs[j] := List.getElem?_eq_getElem j2
     obtain ⟨u1, hu1, ru1⟩ := r1.get g1
     obtain ⟨u2, hu2, ru2⟩ := r2.get g2
     have k1 : its1.toArray[j] = u1 := by
      have := List.getElem?_eq_some_iff.mp hu1
      obtain ⟨_, z⟩ := this
      simpa using z
     have k2 : its2.toArray[j] = u2 := by
      have := List.getElem?_eq_some_iff.mp hu2
      obtain ⟨_, z⟩ := this
      simpa using z
     rw [k1, k2, g1, g2]
     exact Rn ru1 ru2 (List.all_eq_true.mp f1 _ (List.getElem_mem j1)) (List.all_eq_true.mp f2 _ (List.getElem_mem j2))
    ·rw [show its1.toArray.size = xs.length by simp only [List.size_toArray]; omega, Jg xs zs hl]
     exact ⟨.bl _, H, I, rfl, q⟩
   ·rw [Jf xs zs hl] at q
    refine SeqAt.RcNeAt.lists_lengths pl1.isList pl2.isList (by simp only [List.size_toArray, bne_iff_ne, ne_eq]; omega) hu X.prog X.w X.xe (EP X pins σ Q) ⟨.bl _, H, I, rfl, q⟩
  ·exact h.elim
 ·exact Z5 pins s σ H _ _ v u Q I rx ry h
def inq (neg : Bool) (o : Option HO) (x : V) (H : Hp) (Q : VK) : Prop := match o with
 | some (.lst xs) => gW x = true /\ xs.all gW = true /\ Q (.bl (if neg then !inV x xs else inV x xs)) H
 | some (.tup xs) => gW x = true /\ xs.all gW = true /\ Q (.bl (if neg then !inV x xs else inV x xs)) H
 | _ => False
def Oc (neg : Bool) : R2 := fun x y H Q => match y with
 | .ref p => inq neg (H p) x H Q
 | _ => False
theorem Xv (neg : Bool) (x : V) (p : Addr) (H : Hp) (Q : VK) : Oc neg x (.ref p) H Q = inq neg (H p) x H Q := rfl
theorem aai (neg : Bool) (x : V) (xs : List V) (H : Hp) (Q : VK) : inq neg (some (.lst xs)) x H Q = (gW x = true /\ xs.all gW = true /\ Q (.bl (if neg then !inV x xs else inV x xs)) H) := rfl
theorem aah (neg : Bool) (x : V) (xs : List V) (H : Hp) (Q : VK) : inq neg (some (.tup xs)) x H Q = (gW x = true /\ xs.all gW = true /\ Q (.bl (if neg then !inV x xs else inV x xs)) H) := rfl
theorem QK {neg : Bool} {o : Option HO} {x : V} {H : Hp} {Q : VK} {p : Addr} {K : PySem.W.Frag} (e : H p = o) (h : inq neg o x H Q) : rIn K neg x (.ref p) H Q := by
 unfold inq at h
 split at h
 ·rename_i xs
  exact ⟨p, xs, rfl, .inl (SqL.of e), h.1, h.2.1, h.2.2⟩
 ·rename_i xs
  exact ⟨p, xs, rfl, .inr (SqT.of e), h.1, h.2.1, h.2.2⟩
 ·exact h.elim
theorem Fx : OpR X (compareOp .In) (Oc false) := by
 intro pins s σ H x y v u Q I rx ry h
 unfold Oc at h
 split at h
 ·exact J2 pins s σ H _ _ v u Q I rx ry (QK rfl h)
 ·exact h.elim
theorem zc : OpR X (compareOp .NotIn) (Oc true) := by
 intro pins s σ H x y v u Q I rx ry h
 unfold Oc at h
 split at h
 ·exact Bf pins s σ H _ _ v u Q I rx ry (QK rfl h)
 ·exact h.elim
end
structure bN (H : Hp) (p : Addr) (B : Int) : Prop where
 ex : ∃ a b c : Int, H p = some (.lst [.int a, .int b, .int c]) /\ 0 <= a /\ 0 <= b /\ b < 2147483629 /\ 0 <= c /\ c <= B
theorem bN.same {H H' : Hp} {p : Addr} {B : Int} (h : bN H p B) (s : Same H H') : bN H' p B := by
 obtain ⟨a, b, c, e, r⟩ := h
 exact ⟨a, b, c, s _ _ e, r⟩
theorem bN.le {H : Hp} {p : Addr} {B B' : Int} (h : bN H p B) (l : B <= B') : bN H p B' := by
 obtain ⟨a, b, c, e, r1, r2, r3, r4, r5⟩ := h
 exact ⟨a, b, c, e, r1, r2, r3, r4, by omega⟩
theorem bN.ne {H : Hp} {p q : Addr} {B : Int} (h : bN H p B) (n : H q = none) : q ≠ p := by
 obtain ⟨a, b, c, e, _⟩ := h
 exact (aQ e n).symm
theorem bN.net {H : Hp} {p q : Addr} {B : Int} {xs : List V} (h : bN H p B) (n : H q = some (.tup xs)) : q ≠ p := by
 obtain ⟨a, b, c, e, _⟩ := h
 intro z
 rw [z, e] at n
 cases n
theorem two_pow_pos (k : Nat) : (0 : Int) < 2 ^ k := Int.pow_pos (by decide)
def MF (K : PySem.W.Frag) : Sp := fun vs H Q _ => ∃ (a : Addr) (ns : List Int) (k : Int), vs = [.ref a, .int k] /\ SqL K H a (ns.map V.int) /\ 0 <= k /\ ∀ v : Int, Q (.int v) H
def Mr (K : PySem.W.Frag) : Sp := fun vs H Q _ => ∃ (a : Addr) (ns : List Int) (k : Int), vs = [.ref a, .int k] /\ SqL K H a (ns.map V.int) /\ 0 <= k /\ k <= 100 /\ ∀ p H', H p = none -> Same H H' -> bN H' p 0 -> Q (.ref p) H'
def gq (n : Nat) : Sp := fun vs H Q _ => ∃ (p : Addr) (m B : Int), vs = [.ref p, .int m] /\ bN H p B /\ B + (n : Int) <= 1000100 /\ 0 < m /\ m < 2 ^ 70 /\ 1 <= n /\ (1000000 <= m -> 2 <= n) /\
 ∀ r H', 0 <= r -> r < m -> cj p H H' -> bN H' p (B + n) -> Q (.int r) H'
theorem X6 (c : Int) : ∃ v : Int, atI [V.int 2147483587, V.int 2147483579, V.int 2147483563, V.int 2147483549, V.int 2147483543, V.int 2147483497, V.int 2147483489] (c % 7) = some (.int v) /\ 0 < v := by
 have h1 : 0 <= c % 7 := Int.emod_nonneg _ (by decide)
 have h2 : c % 7 < 7 := Int.emod_lt_of_pos _ (by decide)
 generalize c % 7 = d at h1 h2
 have h3 : d = 0 \/ d = 1 \/ d = 2 \/ d = 3 \/ d = 4 \/ d = 5 \/ d = 6 := by omega
 rcases h3 with rfl | rfl | rfl | rfl | rfl | rfl | rfl
 ·exact ⟨_, cT (j := 0) rfl, by decide⟩
 ·exact ⟨_, cT (j := 1) rfl, by decide⟩
 ·exact ⟨_, cT (j := 2) rfl, by decide⟩
 ·exact ⟨_, cT (j := 3) rfl, by decide⟩
 ·exact ⟨_, cT (j := 4) rfl, by decide⟩
 ·exact ⟨_, cT (j := 5) rfl, by decide⟩
 ·exact ⟨_, cT (j := 6) rfl, by decide⟩
def wl (w s : Int) : Int := 0 - 2 ^ (w - 1).toNat * s
theorem ur {w : Int} (h : 1 <= w) : (2 : Int) ^ w.toNat = 2 * 2 ^ (w - 1).toNat := by
 have e : w.toNat = (w - 1).toNat + 1 := by omega
 rw [e, Int.pow_succ]
 omega
theorem pL {w s : Int} (h1 : 1 <= w) (h2 : w <= 40) (hs : s = 0 \/ s = 1) : -1099511627776 <= wl w s /\ wl w s <= 0 /\ 0 < wl w s + 2 ^ w.toNat /\ wl w s + 2 ^ w.toNat <= 1099511627776 := by
 have e := ur h1
 have p := two_pow_pos (w - 1).toNat
 have q := lQ (k := w.toNat) (by omega)
 unfold wl
 rcases hs with rfl | rfl
 ·simp only [Int.mul_zero, Int.sub_zero, Int.zero_add]
  omega
 ·simp only [Int.mul_one]
  omega
def nW : Sp := fun vs H Q _ => ∃ w s, vs = [.int w, .int s] /\ 1 <= w /\ w <= 40 /\ (s = 0 \/ s = 1) /\ Q (.int (wl w s)) H
def Mt : Sp := fun vs H Q _ => ∃ (p : Addr) (B : Int), vs = [.ref p] /\ bN H p B /\ 0 <= B /\ B <= 1000050 /\
 ∀ (w s : Int) (t : Addr) H', 1 <= w -> w <= 40 -> (s = 0 \/ s = 1) -> cj p H H' -> bN H' p (B + 10) -> H' t = some (.tup [.int w, .int s]) -> Q (.ref t) H'
def Wx : Sp := fun vs H Q _ => ∃ (p : Addr) (w s o B : Int), vs = [.ref p, .int w, .int s, .int o] /\ bN H p B /\ 0 <= B /\ B <= 1000050 /\ 1 <= w /\ w <= 40 /\ (s = 0 \/ s = 1) /\
 ∀ (r : Int) H', wl w s <= r -> r < wl w s + 2 ^ w.toNat -> cj p H H' -> bN H' p (B + 10) -> Q (.int r) H'
theorem V7 {a b : V} {P : V -> V -> Prop} : (∃ v w, (a = v /\ b = w) /\ P v w) = P a b := propext ⟨fun ⟨_, _, ⟨h1, h2⟩, h⟩ => h1 ▸ h2 ▸ h, fun h => ⟨a, b, ⟨rfl, rfl⟩, h⟩⟩
theorem xU (a b : Nat) : Builtin.bitAnd (a : Int) (b : Int) = ((a &&& b : Nat) : Int) := by
 unfold Builtin.bitAnd
 simp
def isFree (m k : Nat) : Bool := !m.testBit k && (List.range k).any fun j => m.testBit j
def frees (n m : Nat) : List Nat := (List.range n).filter (isFree m)
def unset (n b m : Nat) : Nat := ((List.range n).filter fun k => decide (b <= k) && !m.testBit k).length
theorem lJ {α : Type} (p q : α -> Bool) : ∀ l : List α, (∀ x ∈ l, p x = true -> q x = true) -> (l.filter p).length <= (l.filter q).length
 | [], _ => Nat.le_refl _
 | x :: l, h => by
  have ih := lJ p q l fun y hy => h y (List.mem_cons_of_mem _ hy)
  have hx := h x List.mem_cons_self
  rw [List.filter_cons, List.filter_cons]
  cases hp : p x with
  | true =>
   rw [hx hp]
   simp only [if_true, List.length_cons]
   omega
  | false =>
   simp only [Bool.false_eq_true, if_false]
   split
   ·rw [List.length_cons]; omega
   ·exact ih
theorem Rf {n b m : Nat} (h : ∀ k, k < b -> m.testBit k = false) : (frees n m).length <= unset n b m := by
 refine lJ _ _ _ fun k hk hf => ?_
 unfold isFree at hf
 rw [Bool.and_eq_true, List.any_eq_true] at hf
 obtain ⟨h1, j, hj, hb⟩ := hf
 have hj' := List.mem_range.mp hj
 have : b <= j := by
  rcases Nat.lt_or_ge j b with z | z
  ·rw [h j z] at hb; cases hb
  ·exact z
 rw [h1, Bool.and_true]
 exact decide_eq_true (by omega)
theorem Ln (n b m : Nat) : unset n b m <= n - b := by
 have key : ∀ n, ((List.range n).filter fun k => decide (b <= k)).length <= n - b := by
  intro n
  induction n with
  | zero => exact Nat.zero_le _
  | succ n ih =>
   rw [List.range_succ, List.filter_append, List.length_append]
   by_cases h : b <= n
   ·simp only [List.filter_cons, h, decide_true, if_true, List.filter_nil, List.length_singleton]
    omega
   ·simp only [List.filter_cons, h, decide_false, Bool.false_eq_true, if_false, List.filter_nil, List.length_nil]
    omega
 refine Nat.le_trans (lJ _ _ _ fun k hk hf => ?_) (key n)
 rw [Bool.and_eq_true] at hf
 exact hf.1
theorem vN {n b m : Nat} (h : ∀ k, b <= k -> k < n -> m.testBit k = true) : unset n b m = 0 := by
 unfold unset
 rw [List.length_eq_zero_iff, List.filter_eq_nil_iff]
 intro k hk
 have hk' := List.mem_range.mp hk
 by_cases hb : b <= k
 ·simp [h k hb hk']
 ·simp [hb]
theorem Eo {n b m m' j : Nat} (h : ∀ k, m'.testBit k = (m.testBit k && !decide (k = j))) : unset n b m' <= unset n b m + 1 := by
 unfold unset
 induction n with
 | zero => exact Nat.zero_le _
 | succ n ih =>
  have one : ∀ (p : Nat -> Bool), ((List.range (n + 1)).filter p).length = ((List.range n).filter p).length + if p n then 1 else 0 := by
   intro p
   rw [List.range_succ, List.filter_append, List.length_append]
   cases hp : p n <;> simp [hp]
  rw [one, one]
  by_cases hj : n = j
  ·subst hj
   have same : ((List.range n).filter fun k => decide (b <= k) && !m'.testBit k).length = ((List.range n).filter fun k => decide (b <= k) && !m.testBit k).length := by
    have : (List.range n).filter (fun k => decide (b <= k) && !m'.testBit k) = (List.range n).filter fun k => decide (b <= k) && !m.testBit k := by
     refine List.filter_congr fun k hk => ?_
     have hk' := List.mem_range.mp hk
     rw [h k]
     have : decide (k = n) = false := decide_eq_false (by omega)
     rw [this, Bool.not_false, Bool.and_true]
    rw [this]
   rw [same]
   split <;> split <;> omega
  ·rw [h n]
   have : decide (n = j) = false := decide_eq_false hj
   rw [this, Bool.not_false, Bool.and_true]
   omega
theorem Sd {m j : Nat} (h : m.testBit j = true) : ∀ k, (m - 2 ^ j).testBit k = (m.testBit k && !decide (k = j)) := by
 intro k
 have p : 0 < 2 ^ j := Nat.pow_pos (by decide)
 have hd : m / 2 ^ j % 2 = 1 := by
  rw [Nat.testBit_eq_decide_div_mod_eq] at h
  exact of_decide_eq_true h
 -- m = 2^j * (2 * a + 1) + lo
 have e0 := Nat.div_add_mod m (2 ^ j)
 have e1 : m / 2 ^ j = 2 * (m / 2 ^ j / 2) + 1 := by omega
 generalize m / 2 ^ j / 2 = a at e1
 have lo := Nat.mod_lt m p
 generalize m % 2 ^ j = l at e0 lo
 rw [e1] at e0
 have e2 : m - 2 ^ j = 2 ^ j * (2 * a) + l := by
  rw [<- e0, Nat.mul_add, Nat.mul_one]
  omega
 rw [e2, <- e0, Nat.testBit_two_pow_mul_add _ lo, Nat.testBit_two_pow_mul_add _ lo]
 by_cases hk : k < j
 ·have : decide (k = j) = false := decide_eq_false (by omega)
  rw [if_pos hk, if_pos hk, this, Bool.not_false, Bool.and_true]
 ·rw [if_neg hk, if_neg hk]
  by_cases hkj : k = j
  ·subst hkj
   simp
  ·have : decide (k = j) = false := decide_eq_false hkj
   rw [this, Bool.not_false, Bool.and_true]
   obtain ⟨d, hd⟩ : ∃ d, k - j = d + 1 := ⟨k - j - 1, by omega⟩
   rw [hd, Nat.testBit_succ, Nat.testBit_succ]
   congr 1
   omega
theorem Wo (m j : Nat) : m &&& 2 ^ j = if m.testBit j then 2 ^ j else 0 := by
 refine Nat.eq_of_testBit_eq fun k => ?_
 rw [Nat.testBit_and, Nat.testBit_two_pow]
 by_cases hk : j = k
 ·subst hk
  cases h : m.testBit j
  ·simp
  ·simp [Nat.testBit_two_pow]
 ·have : decide (j = k) = false := decide_eq_false hk
  rw [this, Bool.and_false]
  split
  ·rw [Nat.testBit_two_pow, this]
  ·rw [Nat.zero_testBit]
theorem Qd (m j : Nat) : ∃ m' : Nat, (m : Int) - Builtin.bitAnd (m : Int) ((2 : Int) ^ j) = (m' : Int) /\ m' <= m /\ ∀ k, m'.testBit k = (m.testBit k && !decide (k = j)) := by
 have e : ((2 : Int) ^ j) = ((2 ^ j : Nat) : Int) := by simp
 rw [e, xU, Wo]
 cases h : m.testBit j with
 | true =>
  have hle : 2 ^ j <= m := Nat.ge_two_pow_of_testBit h
  refine ⟨m - 2 ^ j, ?_, Nat.sub_le _ _, Sd h⟩
  simp only [if_true]
  omega
 | false =>
  refine ⟨m, by simp, Nat.le_refl _, fun k => ?_⟩
  by_cases hk : k = j
  ·subst hk
   simp [h]
  ·simp [hk]
def vp (W b m i : Nat) : Prop := m < 2 ^ W /\ (∀ k, k < b -> m.testBit k = false) /\ unset W b m <= i
theorem vp.frees {W b m i : Nat} (h : vp W b m i) : (frees W m).length <= i := Nat.le_trans (Rf h.2.1) h.2.2
theorem pF (k : Nat) : (2 : Int) ^ k = ((2 ^ k : Nat) : Int) := by simp
theorem Qf {n k : Nat} (h : (n : Int) < 2 ^ k) : n < 2 ^ k := by
 rw [pF] at h
 omega
theorem YB {W T : Nat} (h : T <= W) : ∃ m : Nat, ((2 : Int) ^ T - 1) * 2 ^ (W - T) = (m : Int) /\ vp W (W - T) m 0 := by
 have p := Nat.pow_pos (n := T) (show 0 < 2 by decide)
 have tb : ∀ k, ((2 ^ T - 1) * 2 ^ (W - T)).testBit k = (decide (W - T <= k) && decide (k - (W - T) < T)) := fun k => by
  rw [Nat.testBit_mul_two_pow, Nat.testBit_two_pow_sub_one]
 refine ⟨(2 ^ T - 1) * 2 ^ (W - T), ?_, ?_, fun k hk => ?_, ?_⟩
 ·rw [pF, pF, Int.natCast_mul, Int.natCast_sub p]
  rfl
 ·have e : 2 ^ W = 2 ^ T * 2 ^ (W - T) := by rw [<- Nat.pow_add, Nat.add_sub_cancel' h]
  rw [e]
  exact Nat.mul_lt_mul_of_pos_right (by omega) (Nat.pow_pos (by decide))
 ·rw [tb, decide_eq_false (by omega), Bool.false_and]
 ·rw [vN fun k h1 h2 => by rw [tb, decide_eq_true h1, decide_eq_true (show k - (W - T) < T by omega)]; rfl]
  exact Nat.le_refl _
theorem YD (W : Nat) : ∃ m : Nat, (2 : Int) ^ W - 1 = (m : Int) /\ vp W 0 m 0 := by
 have p := Nat.pow_pos (n := W) (show 0 < 2 by decide)
 refine ⟨2 ^ W - 1, ?_, by omega, fun k hk => by omega, ?_⟩
 ·rw [pF]
  omega
 ·rw [vN fun k h1 h2 => by rw [Nat.testBit_two_pow_sub_one, decide_eq_true h2]]
  exact Nat.le_refl _
theorem Vj {W r : Nat} (h : 4 <= W) (hr : r < 16) : ∃ m : Nat, (r : Int) * 2 ^ (W - 4) = (m : Int) /\ vp W (W - 4) m 4 := by
 refine ⟨r * 2 ^ (W - 4), ?_, ?_, fun k hk => ?_, ?_⟩
 ·rw [pF, Int.natCast_mul]
 ·have e : 2 ^ W = 16 * 2 ^ (W - 4) := by rw [show 16 = 2 ^ 4 from rfl, <- Nat.pow_add, Nat.add_sub_cancel' h]
  rw [e]
  exact Nat.mul_lt_mul_of_pos_right hr (Nat.pow_pos (by decide))
 ·rw [Nat.testBit_mul_two_pow, decide_eq_false (by omega), Bool.false_and]
 ·have := Ln W (W - 4) (r * 2 ^ (W - 4))
  omega
theorem YC {W b m i : Nat} (h : vp W b m i) (j : Nat) : ∃ m' : Nat, (m : Int) - Builtin.bitAnd (m : Int) ((2 : Int) ^ j) = (m' : Int) /\ vp W b m' (i + 1) := by
 obtain ⟨m', e, l, tb⟩ := Qd m j
 refine ⟨m', e, Nat.lt_of_le_of_lt l h.1, fun k hk => ?_, ?_⟩
 ·rw [tb, h.2.1 k hk, Bool.false_and]
 ·exact Nat.le_trans (Eo tb) (Nat.succ_le_succ h.2.2)
theorem vp.le {W b m i j : Nat} (h : vp W b m i) (l : i <= j) : vp W b m j := ⟨h.1, h.2.1, Nat.le_trans h.2.2 l⟩
inductive It1 where
 | one (a : Int)
 | rng (a b : Int)
 | bits (m v : Nat)
def itV : It1 -> List V
 | .one a => [.str "is", .int a]
 | .rng a b => [.str "from", .int a, .int b]
 | .bits m v => [.str "bits", .int m, .int v]
theorem Vx (a : Int) : itV (.one a) = [.str "is", .int a] := rfl
theorem Vw (a b : Int) : itV (.rng a b) = [.str "from", .int a, .int b] := rfl
theorem Qw (m v : Nat) : itV (.bits m v) = [.str "bits", .int m, .int v] := rfl
structure qX (H : Hp) (t : Addr) (it : It1) : Prop where
 h : H t = some (.tup (itV it))
def lH (w s a : Int) : Prop := wl w s <= a /\ a < wl w s + 2 ^ w.toNat
def It1.Ok (w s : Int) : It1 -> Prop
 | .one a => lH w s a
 | .rng a b => lH w s a /\ lH w s b /\ a <= b
 | .bits m v => m < 2 ^ w.toNat /\ v < 2 ^ w.toNat /\ (9 <= w -> (frees w.toNat m).length <= 4)
def Yc (w : Int) (n : Int) : It1 -> Bool
 | .one a => decide (n = a)
 | .rng a b => decide (a <= n) && decide (n <= b)
 | .bits m v => decide ((n % 2 ^ w.toNat).toNat &&& m = v)
def Ms : Sp := fun vs H Q _ => ∃ (p : Addr) (w B : Int), vs = [.ref p, .int w] /\ bN H p B /\ 0 <= B /\ B <= 1000050 /\ 1 <= w /\ w <= 40 /\
 ∀ (m : Nat) H', m < 2 ^ w.toNat -> (9 <= w -> (frees w.toNat m).length <= 4) -> cj p H H' -> bN H' p (B + 20) -> Q (.int m) H'
def Mv : Sp := fun vs H Q _ => ∃ (p : Addr) (w s o B : Int), vs = [.ref p, .int w, .int s, .int o] /\ bN H p B /\ 0 <= B /\ B <= 1000000 /\ 1 <= w /\ w <= 40 /\ (s = 0 \/ s = 1) /\
 ∀ (it : It1) (t : Addr) H', It1.Ok w s it -> cj p H H' -> bN H' p (B + 60) -> qX H' t it -> Q (.ref t) H'
section
variable {mp : List (Option Nat)} {g : TG} {tc : TT} {te : TE} {σ : St} {H : Hp} {Q : VK} {R : It -> Hp -> Prop} {K : PySem.W.Frag}
theorem qQ {a : Addr} {xs : List V} (hR : R = xX mp g tc te σ Q) (hz : xs.length <= sizeLine) (Pv : Nat -> List V -> St -> Hp -> Prop) (h0 : Pv 0 [] (jM mp σ) H) (hl : ∀ i acc τ H, Pv i acc τ H -> acc.length <= i)
  (hq : ∀ i acc τ H, Pv i acc τ H -> SqL K H a xs)
  (hs : ∀ i x acc τ H, xs[i]? = some x -> Pv i acc τ H -> g x τ H fun τ1 H4 => tc τ1 H4 fun b H5 => if b = true then te τ1 H5 fun v H6 => Pv (i + 1) (acc ++ [v]) τ1 H6 else Pv (i + 1) acc τ1 H5)
  (hd : ∀ acc τ H d, Pv xs.length acc τ H -> H d = none -> Q (.ref d) (upd H d (.lst acc))) : R (Itl K a) H := by
 refine sW hR xs.length hz Pv h0 hl (fun i acc τ H hi p => ⟨xs, xs[i], hq i acc τ H p, List.getElem?_eq_getElem hi⟩) (fun acc τ H p => ⟨xs, hq _ acc τ H p, Nat.le_refl _⟩) (fun i acc τ H x H3 hi p y => ?_) hd
 obtain ⟨rfl, hx⟩ := y
 exact hs i x acc τ _ (hx xs (hq i acc τ _ p)) p
end
section
variable {X : Cx} {pos : Pos}
def Lw (i j k : Nat) (ta : TA) : TS := fun D σ H => ta σ H fun vs H1 => ∃ u v w, vs = [u, v, w] /\ D.nx (((σ.set i (some u)).set j (some v)).set k (some w)) H1
theorem Uh {i j k : Nat} {x y z : Str} {a b c : Expr} {ta : TA} {px py pz pt : Pos} {kt k2 pt2} (hc : X.calm = true) (hN : X.N.Nodup) (hi : X.N[i]? = some x) (hj : X.N[j]? = some y) (hk : X.N[k]? = some z) (hij : i ≠ j) (hik : i ≠ k) (hjk : j ≠ k)
  (hx : X.env.scope.names.lookup x = some .local) (hy : X.env.scope.names.lookup y = some .local) (hz : X.env.scope.names.lookup z = some .local) (ha : PA X [a, b, c] ta)
  (hw : swappedStores [.Tuple [.Name x px, .Name y py, .Name z pz] kt pt] (.Tuple [a, b, c] k2 pt2) X.env = pure (some [x, y, z]))
  (hs : swapsWithSole [.Tuple [.Name x px, .Name y py, .Name z pz] kt pt] (.Tuple [a, b, c] k2 pt2) pos.line X.env = pure false := by rfl) :
  PS X (.Assign [.Tuple [.Name x px, .Name y py, .Name z pz] kt pt] (.Tuple [a, b, c] k2 pt2) pos) (Lw i j k ta) := by
 intro pins s σ H D I h
 rw [exec_Assign_arm]
 refine wpAny_bind (wpAny_standAt ?_)
 rw [hs]
 refine wpAny_bind (wpAny_pure ?_)
 rw [if_neg (by decide)]
 refine wpAny_bind (Tuple_ (thA (ha _ pins s σ H _ I h) fun us s1 vs H1 I1 r1 q1 => ?_))
 obtain ⟨u, v, w, e1, q1⟩ := q1
 subst e1
 obtain ⟨u1, u2, u3, rfl, ru, rv, rw'⟩ : ∃ u1 u2 u3, us = [u1, u2, u3] /\ RelV u u1 /\ RelV v u2 /\ RelV w u3 := by
  cases r1 with
  | cons p q =>
   cases q with
   | cons p' q' =>
    cases q' with
    | cons p'' q'' =>
     cases q''
     exact ⟨_, _, _, rfl, p, p', p''⟩
 refine wpAny_newObj_type ?_ (by show 3 <= sizeLine; decide)
 have I2 : Inv X pins σ H1 { s1 with heap := s1.heap.push { cls := .type "tuple", data := .seq [u1, u2, u3].toArray } } := I1.kept (t' := s1.toks) fun b o e => Heap.get?_push_of_some _ e
 rw [hw]
 refine wpAny_bind (wpAny_pure ?_)
 show wpAny (model X.prog X.w) X.A (do rule "assign.swapped-stores"; let items <- unpackItems (.ref s1.heap.objs.size) 3 none; assignInOrder [fun v => bindName X.env z v, fun v => bindName X.env y v, fun v => bindName X.env x v] items.reverse; pure Flow.next) _ _ _
 refine wpAny_bind (wpAny_rule (wpAny_bind (unpackItems_tuple (items := #[u1, u2, u3]) (I.ok.hd hc) (IsTup.new s1.heap _) fun h' hx' => ?_)))
 have I3 := I2.kept (h' := h') (t' := s1.toks) fun b o e => hx' b o (Nat.ne_of_lt (Heap.lt_size e)) e
 show wpAny _ _ (assignInOrder [fun v => bindName X.env z v, fun v => bindName X.env y v, fun v => bindName X.env x v] [u3, u2, u1] >>= fun _ => pure Flow.next) _ _ _
 refine wpAny_bind (assignInOrder_cons (wpAny_bindName (jk I3 hN hk (.inl hz) rw' (fun s2 I4 => ?_) (.inr hz))))
 refine assignInOrder_cons (wpAny_bindName (jk I4 hN hj (.inl hy) rv (fun s3 I5 => ?_) (.inr hy)))
 refine assignInOrder_cons (wpAny_bindName (jk I5 hN hi (.inl hx) ru (fun s4 I6 => ?_) (.inr hx)))
 refine assignInOrder_nil (wpAny_pure ⟨_, H1, ?_, q1⟩)
 have e : ((σ.set k (some w)).set j (some v)).set i (some u) = ((σ.set i (some u)).set j (some v)).set k (some w) := by
  rw [List.set_comm (some v) (some u) (Ne.symm hij), List.set_comm (some w) (some u) (Ne.symm hik), List.set_comm (some w) (some v) (Ne.symm hjk)]
 rw [<- e]
 exact I6
theorem TV {i j k : Nat} {x y z : Str} {a b c : Expr} {ta : TA} {px py pz pt : Pos} {kt k2 pt2} (hc : X.calm = true) (hN : X.N.Nodup) (hi : X.N[i]? = some x) (hj : X.N[j]? = some y) (hk : X.N[k]? = some z) (hij : i ≠ j) (hik : i ≠ k) (hjk : j ≠ k)
  (hx : X.env.scope.names.lookup x = some .local) (hy : X.env.scope.names.lookup y = some .local) (hz : X.env.scope.names.lookup z = some .local) (ha : QA X [a, b, c] ta)
  (hw : swappedStores [.Tuple [.Name x px, .Name y py, .Name z pz] kt pt] (.Tuple [a, b, c] k2 pt2) X.env = pure (some [x, y, z]))
  (hs : swapsWithSole [.Tuple [.Name x px, .Name y py, .Name z pz] kt pt] (.Tuple [a, b, c] k2 pt2) pos.line X.env = pure false := by rfl) :
  QS X (.Assign [.Tuple [.Name x px, .Name y py, .Name z pz] kt pt] (.Tuple [a, b, c] k2 pt2) pos) (Lw i j k ta) := ⟨Uh hc hN hi hj hk hij hik hjk hx hy hz ha.h hw hs⟩
end
theorem Jc (g : TG) (gs : TGs) (x : V) (xs : List V) (σ : St) (H : Hp) (Q : St -> Hp -> Prop) : Rb g gs (x :: xs) σ H Q = g x σ H fun σ1 H1 => gs xs σ1 H1 Q :=
 propext ⟨fun ⟨_, _, e, h⟩ => by cases e; exact h, fun h => ⟨x, xs, rfl, h⟩⟩
theorem Q9 (σ : St) (H : Hp) (Q : St -> Hp -> Prop) : Y8 [] σ H Q = Q σ H := propext ⟨fun h => h.2, fun h => ⟨rfl, h⟩⟩
theorem V6 {a b c : V} {P : V -> V -> V -> Prop} : (∃ u v w, (a = u /\ b = v /\ c = w) /\ P u v w) = P a b c := propext ⟨fun ⟨_, _, _, ⟨h1, h2, h3⟩, h⟩ => h1 ▸ h2 ▸ h3 ▸ h, fun h => ⟨a, b, c, ⟨rfl, rfl, rfl⟩, h⟩⟩
theorem EY : ((("from" : Str) : Str) = ("is" : Str)) = False := eq_false (by decide +kernel)
theorem Ey : (("is" : Str) = ("from" : Str)) = False := eq_false (by decide +kernel)
theorem Ez : (("is" : Str) = ("bits" : Str)) = False := eq_false (by decide +kernel)
theorem qZ : (("from" : Str) = ("bits" : Str)) = False := eq_false (by decide +kernel)
theorem rD {p : Addr} {H H' : Hp} (h : cj p H H') (e : H p = none) : Same H H' := fun b o hb => h b o (aQ hb e) hb
section
variable {X : Cx} {e o : Expr} {te to : TE} {pos : Pos}
def apq (ob : Option HO) (l : Addr) (y : V) (H : Hp) (Q : VK) : Prop := match ob with
 | some (.lst xs) => xs.length < sizeLine /\ Q .non (upd H l (.lst (xs ++ [y])))
 | _ => False
def isq (ob : Option HO) : Prop := match ob with
 | some (.lst _) => True
 | _ => False
theorem Vz (xs : List V) : isq (some (.lst xs)) = True := rfl
theorem vL (xs : List V) (l : Addr) (y : V) (H : Hp) (Q : VK) : apq (some (.lst xs)) l y H Q = (xs.length < sizeLine /\ Q .non (upd H l (.lst (xs ++ [y])))) := rfl
def Zd (x : V) (te : TE) (σ : St) (H1 : Hp) (Q : VK) : Prop := match x with
 | .ref l => isq (H1 l) /\ te σ H1 fun y H2 => apq (H2 l) l y H2 Q
 | _ => False
def Mi (to te : TE) : TE := fun σ H Q => to σ H fun x H1 => Zd x te σ H1 Q
theorem Mh (to te : TE) (σ : St) (H : Hp) (Q : VK) : Mi to te σ H Q = to σ H fun x H1 => Zd x te σ H1 Q := rfl
theorem RQ (l : Addr) (te : TE) (σ : St) (H1 : Hp) (Q : VK) : Zd (.ref l) te σ H1 Q = (isq (H1 l) /\ te σ H1 fun y H2 => apq (H2 l) l y H2 Q) := rfl
theorem U3 {apos cpos : Pos} (ho : PE X o to) (he : PE X e te)
  (hbase : attributeBase o "append" X.env (eval o X.env) = eval o X.env := by rfl)
  (hfew : ((backTo cpos (starEach [e] X.env)).all (fun x => !x.1) && (backToKw cpos (keywordEach [] X.env)).all (fun x => x.1.isSome)
   && decide ([e].length + ([] : List Keyword).length + (if ([] : List Keyword).isEmpty then 0 else 1) < 30)) = true := by rfl)
  (hline : (apos.endLine == cpos.line) = true := by rfl) (hs : starEach [e] X.env = (false, eval e X.env) :: starEach [] X.env := by rfl) (hplain : (backTo cpos (starEach [] X.env)).any (·.1) = false := by rfl) :
  PE X (.Call (.Attribute o "append" apos) [e] [] cpos) (Mi to te) := by
 intro pins s σ H Q I h
 refine wpAny_Call_method_late hbase hfew hline rfl (thE (ho pins s σ H _ I h) fun v s1 x H1 I1 r1 q => ?_)
 cases x with
 | ref l =>
  obtain ⟨q1, q2⟩ := q
  cases el : H1 l with
  | none => rw [el] at q1; exact q1.elim
  | some ob =>
   cases ob with
   | lst xs =>
    obtain ⟨h1, h2⟩ := Ac (T := "list") I1 r1 (.inl ⟨rfl, xs, SqL.of el⟩)
    refine ⟨"list", "list.append", PySem.F.plainAttrs_list, PySem.F.slot_list_append, PySem.F.type_list_append, h1, h2, ?_⟩
    rw [hs]
    refine Calls.callWith_builtin (by show (false || (backTo cpos (starEach [] X.env)).any (·.1)) = false; rw [hplain] <;> rfl) (Calls.evalArgs_plain ?_)
    refine Calls.spliced_cons (thE (he pins s1 σ H1 _ I1 q2) fun u s2 y H2 I2 r2 q3 => Calls.spliced_nil ?_)
    replace q3 : apq (H2 l) l y H2 Q := q3
    cases el2 : H2 l with
    | none => rw [el2] at q3; exact q3.elim
    | some ob2 =>
     cases ob2 with
     | lst ys =>
      rw [el2] at q3
      exact Kh pins s2 σ H2 (.ref l) [y] v [u] Q I2 r1 (.cons r2 .nil) ⟨l, ys, y, rfl, rfl, el2, q3.1, q3.2⟩
     | _ => rw [el2] at q3; exact q3.elim
   | _ => rw [el] at q1; exact q1.elim
 | _ => exact q.elim
theorem pR {apos cpos : Pos} (ho : QE X o to) (he : QE X e te)
  (hbase : attributeBase o "append" X.env (eval o X.env) = eval o X.env := by rfl)
  (hfew : ((backTo cpos (starEach [e] X.env)).all (fun x => !x.1) && (backToKw cpos (keywordEach [] X.env)).all (fun x => x.1.isSome)
   && decide ([e].length + ([] : List Keyword).length + (if ([] : List Keyword).isEmpty then 0 else 1) < 30)) = true := by rfl)
  (hline : (apos.endLine == cpos.line) = true := by rfl) (hs : starEach [e] X.env = (false, eval e X.env) :: starEach [] X.env := by rfl) (hplain : (backTo cpos (starEach [] X.env)).any (·.1) = false := by rfl) :
  QE X (.Call (.Attribute o "append" apos) [e] [] cpos) (Mi to te) := ⟨U3 ho.h he.h hbase hfew hline hs hplain⟩
def slq (ob : Option HO) (lo hi : Option Int) (H : Hp) (Q : VK) : Prop := match ob with
 | some (.lst xs) => ∀ p, H p = none -> Q (.ref p) (upd H p (.lst (j8 xs lo hi)))
 | some (.tup xs) => ¬ (HT.sIx xs.length 0 lo = 0 /\ HT.sIx xs.length xs.length hi = xs.length) /\ ∀ p, H p = none -> Q (.ref p) (upd H p (.tup (j8 xs lo hi)))
 | _ => False
def S7 : V -> Option Int -> Option Int -> Hp -> VK -> Prop := fun x lo hi H Q => match x with
 | .ref p => slq (H p) lo hi H Q
 | _ => False
theorem Ng (p : Addr) (lo hi : Option Int) (H : Hp) (Q : VK) : S7 (.ref p) lo hi H Q = slq (H p) lo hi H Q := rfl
theorem Ss (xs : List V) (lo hi : Option Int) (H : Hp) (Q : VK) : slq (some (.lst xs)) lo hi H Q = ∀ p, H p = none -> Q (.ref p) (upd H p (.lst (j8 xs lo hi))) := rfl
theorem Sq (xs : List V) (lo hi : Option Int) (H : Hp) (Q : VK) : slq (some (.tup xs)) lo hi H Q = (¬ (HT.sIx xs.length 0 lo = 0 /\ HT.sIx xs.length xs.length hi = xs.length) /\ ∀ p, H p = none -> Q (.ref p) (upd H p (.tup (j8 xs lo hi)))) := rfl
theorem uX : SlR X S7 := by
 intro pins s σ H x v vl vu lo hi sl Q I rx hs pl pu h
 unfold S7 at h
 split at h
 ·rename_i p
  unfold slq at h
  split at h
  ·rename_i xs e
   exact Sv pins s σ H _ v vl vu lo hi sl Q I rx hs pl pu ⟨p, xs, rfl, SqL.of e, h⟩
  ·rename_i xs e
   exact Xh pins s σ H _ v vl vu lo hi sl Q I rx hs pl pu ⟨p, xs, rfl, SqT.of e, h.1, h.2⟩
  ·exact h.elim
 ·exact h.elim
structure QO (X : Cx) (e : Option Expr) (t : TO) : Prop where
 h : PO X e t
theorem d7 : QO X none Ae := ⟨Um⟩
theorem dZ (h : QE X e te) : QO X (some e) (Ls te) := ⟨Ul h.h⟩
theorem dG {r : V -> Option Int -> Option Int -> Hp -> VK -> Prop} {lo hi : Option Expr} {tl th : TO} {p2 : Pos} (hr : SlR X r) (he : QE X e te) (hl : QO X lo tl) (hu : QO X hi th) : QE X (.Subscript e (.Slice lo hi none p2) pos) (tSl r te tl th) := ⟨Oz hr he.h hl.h hu.h⟩
def rpq (ob : Option HO) (k : Int) (H : Hp) (Q : VK) : Prop := match ob with
 | some (.lst xs) => -(2 ^ 63) <= k /\ k < 2 ^ 63 /\ xs.length * k.toNat <= sizeLine /\ ∀ p, H p = none -> Q (.ref p) (upd H p (.lst (List.replicate k.toNat xs).flatten))
 | _ => False
def Nu : R2 := fun x y H Q => match x, y with
 | .ref p, .int k => rpq (H p) k H Q
 | x, y => rI Lj (fun i j => .int (i * j)) x y H Q
theorem S8 (i j : Int) (H : Hp) (Q : VK) : Nu (.int i) (.int j) H Q = rI Lj (fun i j => .int (i * j)) (.int i) (.int j) H Q := rfl
theorem jf : OpR X (binaryOp .Mult) Nu := by
 intro pins s σ H x y v u Q I rx ry h
 unfold Nu at h
 split at h
 ·rename_i p k
  unfold rpq at h
  split at h
  ·rename_i xs e
   exact Yq pins s σ H _ _ v u Q I rx ry ⟨p, k, xs, rfl, rfl, e, h.1, h.2.1, h.2.2.1, h.2.2.2⟩
  ·exact h.elim
 ·exact Yr pins s σ H _ _ v u Q I rx ry h
def eqo (ob : Option HO) (H : Hp) (Q : VK) : Prop := match ob with
 | some (.lst _) => Q (.bl false) H
 | some (.tup _) => Q (.bl false) H
 | _ => False
def Fq : R2 := fun x y H Q => match x, y with
 | .ref p, .str _ => eqo (H p) H Q
 | x, y => rEq x y H Q
theorem Tp (i j : Int) (H : Hp) (Q : VK) : Fq (.int i) (.int j) H Q = rEq (.int i) (.int j) H Q := rfl
theorem Tq (i j : Bool) (H : Hp) (Q : VK) : Fq (.bl i) (.bl j) H Q = rEq (.bl i) (.bl j) H Q := rfl
theorem Ti (i j : Str) (H : Hp) (Q : VK) : Fq (.str i) (.str j) H Q = rEq (.str i) (.str j) H Q := rfl
theorem Tj (H : Hp) (Q : VK) : Fq .non .non H Q = rEq .non .non H Q := rfl
theorem cM (hu : X.A.units < cLine) : OpR X (compareOp .Eq) Fq := by
 intro pins s σ H x y v u Q I rx ry h
 unfold Fq at h
 split at h
 ·rename_i p z
  cases rx
  obtain ⟨t, rfl⟩ := ry
  unfold eqo at h
  split at h
  ·rename_i xs e
   obtain ⟨its, r, pl, hz⟩ := I.list (SqL.of e)
   exact SeqAt.RcAt.list_str z t pl.isList hu X.prog X.w X.xe (EP X pins σ Q) ⟨.bl false, H, I, rfl, h⟩
  ·rename_i xs e
   obtain ⟨its, r, pl, hz⟩ := I.tuple (SqT.of e)
   exact SeqAt.RcAt.tuple_str z t pl hu X.prog X.w X.xe (EP X pins σ Q) ⟨.bl false, H, I, rfl, h⟩
  ·exact h.elim
 ·exact Z6 pins s σ H _ _ v u Q I rx ry h
theorem kh {x : Str} {v : V} {u : Value} (hg : Gl X x) (hm : X.mg x = some u) (r : RelV v u) (b : Bn x) : QE X (.Name x pos) (tC v) := ⟨Ux hg hm r b.hd⟩
end
section
variable {X : Cx} {a b c d : Expr} {ta tb tc td : TE} {pos : Pos}
def Af (r r' r'' : R2) (ta tb tc td : TE) : TE := fun σ H Q => ta σ H fun x H1 => tb σ H1 fun y H2 => r x y H2 fun z H3 => ∃ k, z = .bl k /\
 (if k = true then tc σ H3 fun w H4 => r' y w H4 fun z' H5 => ∃ k', z' = .bl k' /\ (if k' = true then td σ H5 fun w' H6 => r'' w w' H6 Q else Q (.bl false) H5) else Q (.bl false) H3)
theorem JZ {op op' op'' : CmpOp} {r r' r'' : R2} (ho : OpR X (compareOp op) r) (ho' : OpR X (compareOp op') r') (ho'' : OpR X (compareOp op'') r'') (ha : PE X a ta) (hb : PE X b tb) (hc : PE X c tc) (hd : PE X d td)
  (hm : lastMarks [op, op', op''] [b, c, d] = false := by with_unfolding_all rfl) : PE X (.Compare a [op, op', op''] [b, c, d] pos) (Af r r' r'' ta tb tc td) := by
 intro pins s σ H Q I h
 refine Compare_chain (thE (ha pins s σ H _ I h) fun v s1 x H1 I1 r1 q1 => chain_link (thE (hb pins s1 σ H1 _ I1 q1) fun u s2 y H2 I2 r2 q2 =>
  thn (ho pins s2 σ H2 x y v u _ I2 r1 r2 q2) fun d s3 ⟨z, H3, I3, r3, k, e, q3⟩ => ?_)) hm
 subst e
 cases r3
 refine wpAny_truthy_bool ?_
 cases k with
 | false => exact ite_ff ⟨.bl false, H3, I3, rfl, q3⟩
 | true =>
  refine ite_tt (chain_link (thn (hc pins s3 σ H3 _ I3 q3) fun w' s4 ⟨z', H4, I4, r4, q4⟩ => thn (ho' pins s4 σ H4 y z' u w' _ I4 r2 r4 q4) fun d' s5 ⟨z5, H5, I5, r5, k', e', q5⟩ => ?_))
  subst e'
  cases r5
  refine wpAny_truthy_bool ?_
  cases k' with
  | false => exact ite_ff ⟨.bl false, H5, I5, rfl, q5⟩
  | true => exact ite_tt (chain_last (thE (hd pins s5 σ H5 _ I5 q5) fun w6 s6 z6 H6 I6 r6 q6 => ho'' pins s6 σ H6 z' z6 w' w6 Q I6 r4 r6 q6))
theorem JS {op op' op'' : CmpOp} {r r' r'' : R2} (ho : OpR X (compareOp op) r) (ho' : OpR X (compareOp op') r') (ho'' : OpR X (compareOp op'') r'') (ha : QE X a ta) (hb : QE X b tb) (hc : QE X c tc) (hd : QE X d td)
  (hm : lastMarks [op, op', op''] [b, c, d] = false := by with_unfolding_all rfl) : QE X (.Compare a [op, op', op''] [b, c, d] pos) (Af r r' r'' ta tb tc td) := ⟨JZ ho ho' ho'' ha.h hb.h hc.h hd.h hm⟩
end
mutual
inductive aX (ok : Addr -> Prop) (H : Hp) : V -> PyData -> Prop
 | non : aX ok H .non .none
 | bl (b : Bool) : aX ok H (.bl b) (.bool b)
 | int (i : Int) : aX ok H (.int i) (.int i)
 | str (x : Str) : aX ok H (.str x) (.str x)
 | lst {p : Addr} {xs : List V} {ds : List PyData} : ok p -> H p = some (.lst xs) -> xs.length <= 1000000 -> aM ok H xs ds -> aX ok H (.ref p) (.list ds)
 | tup {p : Addr} {xs : List V} {ds : List PyData} : ok p -> H p = some (.tup xs) -> xs.length <= 1000000 -> aM ok H xs ds -> aX ok H (.ref p) (.tuple ds)
inductive aM (ok : Addr -> Prop) (H : Hp) : List V -> List PyData -> Prop
 | nil : aM ok H [] []
 | cons {x : V} {d : PyData} {xs : List V} {ds : List PyData} : aX ok H x d -> aM ok H xs ds -> aM ok H (x :: xs) (d :: ds)
end
mutual
theorem aX.keep {ok ok' : Addr -> Prop} {H H' : Hp} (k : ∀ a o, ok a -> H a = some o -> ok' a /\ H' a = some o) : ∀ {v : V} {d : PyData}, aX ok H v d -> aX ok' H' v d
 | _, _, .non => .non
 | _, _, .bl b => .bl b
 | _, _, .int i => .int i
 | _, _, .str x => .str x
 | _, _, .lst o e z t => .lst (k _ _ o e).1 (k _ _ o e).2 z (aM.keep k t)
 | _, _, .tup o e z t => .tup (k _ _ o e).1 (k _ _ o e).2 z (aM.keep k t)
theorem aM.keep {ok ok' : Addr -> Prop} {H H' : Hp} (k : ∀ a o, ok a -> H a = some o -> ok' a /\ H' a = some o) : ∀ {vs : List V} {ds : List PyData}, aM ok H vs ds -> aM ok' H' vs ds
 | _, _, .nil => .nil
 | _, _, .cons t r => .cons (aX.keep k t) (aM.keep k r)
end
theorem aX.same {ok : Addr -> Prop} {H H' : Hp} {v : V} {d : PyData} (t : aX ok H v d) (s : Same H H') : aX ok H' v d := t.keep fun a o h e => ⟨h, s a o e⟩
theorem aM.same {ok : Addr -> Prop} {H H' : Hp} {v : List V} {d : List PyData} (t : aM ok H v d) (s : Same H H') : aM ok H' v d := t.keep fun a o h e => ⟨h, s a o e⟩
theorem aX.CG {p : Addr} {H H' : Hp} {v : V} {d : PyData} (t : aX (· ≠ p) H v d) (s : cj p H H') : aX (· ≠ p) H' v d := t.keep fun a o h e => ⟨h, s a o h e⟩
theorem aM.CG {p : Addr} {H H' : Hp} {v : List V} {d : List PyData} (t : aM (· ≠ p) H v d) (s : cj p H H') : aM (· ≠ p) H' v d := t.keep fun a o h e => ⟨h, s a o h e⟩
theorem aM.length {ok : Addr -> Prop} {H : Hp} : ∀ {vs : List V} {ds : List PyData}, aM ok H vs ds -> vs.length = ds.length
 | _, _, .nil => rfl
 | _, _, .cons _ r => by rw [List.length_cons, List.length_cons, r.length]
theorem aM.append {ok : Addr -> Prop} {H : Hp} : ∀ {vs ws : List V} {ds es : List PyData}, aM ok H vs ds -> aM ok H ws es -> aM ok H (vs ++ ws) (ds ++ es)
 | _, _, _, _, .nil, t => t
 | _, _, _, _, .cons h r, t => .cons h (r.append t)
theorem aM.get {ok : Addr -> Prop} {H : Hp} : ∀ {vs : List V} {ds : List PyData} {i : Nat} {v : V}, aM ok H vs ds -> vs[i]? = some v -> ∃ d, ds[i]? = some d /\ aX ok H v d
 | _, _, 0, _, .cons h _, e => by cases e; exact ⟨_, rfl, h⟩
 | _, _, i + 1, _, .cons _ r, e => aM.get r (i := i) e
section
variable {X : Cx} {pins : List (Addr × Obj)} {σ : St} {H : Hp} {s : Shared} {ok : Addr -> Prop}
end
mutual
def nodes : PyData -> Nat
 | .list ds => 1 + wg ds
 | .tuple ds => 1 + wg ds
 | _ => 1
def wg : List PyData -> Nat
 | [] => 0
 | d :: ds => nodes d + wg ds
end
mutual
def smD : PyData -> Bool
 | .none => true
 | .bool _ => true
 | .int i => decide (i.natAbs < 2 ^ 50 \/ i.natAbs = 10 ^ 20 \/ i.natAbs < 2 ^ 55)
 | .str x => decide ((reprText x).length <= 50)
 | .list ds => MJ ds
 | .tuple ds => MJ ds
 | .dict _ => false
def MJ : List PyData -> Bool
 | [] => true
 | d :: ds => smD d && MJ ds
end
theorem VG {i : Int} (h : i.natAbs < 2 ^ 70) : (Str.ofString (toString i)).length <= 71 := by
 rw [PySem.ofString_length]
 have := int_text_length_le10 (a := i) (k := 30) (by decide) (by omega)
 omega
section
variable {X : Cx} {tg l : Expr} {tl : TE}
def itq (K : PySem.W.Frag) (ob : Option HO) (a : Addr) (H : Hp) (R : It -> Hp -> Prop) : Prop := match ob with
 | some (.lst _) => R (Itl K a) H
 | some (.tup _) => R (Itt K a) H
 | _ => False
def itK (K : PySem.W.Frag) (x : V) (H : Hp) (R : It -> Hp -> Prop) : Prop := match x with
 | .ref a => itq K (H a) a H R
 | _ => False
def Q0 (K : PySem.W.Frag) (tl : TE) : TI := fun σ H R => tl σ H fun x H1 => itK K x H1 R
theorem QZ (K : PySem.W.Frag) (tl : TE) (σ : St) (H : Hp) (R : It -> Hp -> Prop) : Q0 K tl σ H R = tl σ H fun x H1 => itK K x H1 R := rfl
theorem Vy (K : PySem.W.Frag) (a : Addr) (H : Hp) (R : It -> Hp -> Prop) : itK K (.ref a) H R = itq K (H a) a H R := rfl
theorem Vt (K : PySem.W.Frag) (xs : List V) (a : Addr) (H : Hp) (R : It -> Hp -> Prop) : itq K (some (.lst xs)) a H R = R (Itl K a) H := rfl
theorem Vs (K : PySem.W.Frag) (xs : List V) (a : Addr) (H : Hp) (R : It -> Hp -> Prop) : itq K (some (.tup xs)) a H R = R (Itt K a) H := rfl
theorem Ur (hl : PE X l tl) : PI X tg l (Q0 X.K tl) := by
 intro pins s σ H R I h
 refine thn (hl pins s σ H _ I h) fun v s1 ⟨x, H1, I1, r1, q1⟩ => ?_
 cases x with
 | ref a =>
  replace q1 : itq X.K (H1 a) a H1 R := q1
  cases r1
  unfold itq at q1
  split at q1
  ·rename_i xs e
   obtain ⟨its, rv, p, hz⟩ := I1.list (SqL.of e)
   refine wpAny_pyIter_list p.isList ?_
   refine ⟨s1.heap.objs.size, [s1.heap.objs.size], _, _, H1, rfl, I1.kept (t' := s1.toks) fun b o e => Heap.get?_push_of_some _ e, Ju a _, ⟨_, Heap.get?_push_size _ rfl, rfl, rfl⟩, fun b hb => ?_, q1⟩
   have e : b = s1.heap.objs.size := by simpa using hb
   subst e
   exact I1.GJ (Nat.le_refl _) (I1.hok.fresh (Nat.le_refl _))
  ·rename_i xs e
   obtain ⟨its, rv, p, hz⟩ := I1.tuple (SqT.of e)
   refine wpAny_pyIter_tuple (show s1.heap.IsTuple a its.toArray from p) ?_
   refine ⟨s1.heap.objs.size, [s1.heap.objs.size], _, _, H1, rfl, I1.kept (t' := s1.toks) fun b o e => Heap.get?_push_of_some _ e, Er a _, ⟨_, Heap.get?_push_size _ rfl, rfl, rfl⟩, fun b hb => ?_, q1⟩
   have e : b = s1.heap.objs.size := by simpa using hb
   subst e
   exact I1.GJ (Nat.le_refl _) (I1.hok.fresh (Nat.le_refl _))
  ·exact q1.elim
 | _ => exact q1.elim
theorem dw (hl : QE X l tl) : QI X tg l (Q0 X.K tl) := ⟨Ur hl.h⟩
end
section
variable {mp : List (Option Nat)} {g : TG} {tc : TT} {te : TE} {σ : St} {H : Hp} {Q : VK} {R : It -> Hp -> Prop} {K : PySem.W.Frag}
theorem Ru {a : Addr} {xs : List V} (hR : R = xX mp g tc te σ Q) (hz : xs.length <= sizeLine) (Pv : Nat -> List V -> St -> Hp -> Prop) (h0 : Pv 0 [] (jM mp σ) H) (hl : ∀ i acc τ H, Pv i acc τ H -> acc.length <= i)
  (hq : ∀ i acc τ H, Pv i acc τ H -> SqT K H a xs)
  (hs : ∀ i x acc τ H, xs[i]? = some x -> Pv i acc τ H -> g x τ H fun τ1 H4 => tc τ1 H4 fun b H5 => if b = true then te τ1 H5 fun v H6 => Pv (i + 1) (acc ++ [v]) τ1 H6 else Pv (i + 1) acc τ1 H5)
  (hd : ∀ acc τ H d, Pv xs.length acc τ H -> H d = none -> Q (.ref d) (upd H d (.lst acc))) : R (Itt K a) H := by
 refine sW hR xs.length hz Pv h0 hl (fun i acc τ H hi p => ⟨xs, xs[i], hq i acc τ H p, List.getElem?_eq_getElem hi⟩) (fun acc τ H p => ⟨xs, hq _ acc τ H p, Nat.le_refl _⟩) (fun i acc τ H x H3 hi p y => ?_) hd
 obtain ⟨rfl, hx⟩ := y
 exact hs i x acc τ _ (hx xs (hq i acc τ _ p)) p
def BoolsTo (H0 : Hp) (f : V -> Bool) (xs : List V) (i : Nat) (acc : List V) (H' : Hp) : Prop := Same H0 H' /\ acc = ((xs.take i).map f).map V.bl
end
def uW (ok : Addr -> Prop) (H0 : Hp) : Prop := ∀ H p, Same H0 H -> H p = none -> ok p
theorem Dd {H0 : Hp} {p : Addr} {o : HO} (h : H0 p = some o) : uW (· ≠ p) H0 := fun H q s hq => (aQ (s _ _ h) hq).symm
theorem uW.same {ok : Addr -> Prop} {H0 H1 : Hp} (n : uW ok H0) (s : Same H0 H1) : uW ok H1 := fun H p s2 h => n H p (s.trans s2) h
section
variable {ok : Addr -> Prop} {σ : St} {H0 : Hp} {ta tb : TE} {tr : TA} {d e : PyData} {ds es : List PyData}
end
def rd0 := And.intro @Lr.eq_1 (And.intro @Xe.eq_1 (And.intro @yS.eq_1 (And.intro @tOp.eq_1 (And.intro @rI.eq_1 (And.intro @rI0.eq_1 (And.intro @rU.eq_1 (And.intro @tUn.eq_1 (And.intro @mO.eq_1 (And.intro @tC.eq_1 (And.intro @Jz.eq_1 (And.intro @Ly.eq_1 (And.intro @nQ.eq_1 (And.intro @jL.eq_1 (And.intro @xZ.eq_1 (And.intro @tCB.eq_1 (And.intro @tIf.eq_1 (And.intro @Xc.eq_1 (And.intro @tB.eq_1 (And.intro @Xf.eq_1 (And.intro @tOr.eq_1 (And.intro @Mj.eq_1 (And.intro @Xb.eq_1 (And.intro @Lx.eq_1 (And.intro @Xd.eq_1 (And.intro @R8.eq_1 (And.intro @yc.eq_1 (And.intro @kJ.eq_1 (And.intro @V3.eq_1 (And.intro @KD (And.intro @V2 (And.intro @CK (And.intro @Nv (And.intro @Ny (And.intro @TQ (And.intro @Ew.eq_1 (And.intro @Jc @Q9))))))))))))))))))))))))))))))))))))
def rd1 := And.intro @NT (And.intro @JM (And.intro @JQ (And.intro @Tf (And.intro @Iu (And.intro @Vq (And.intro @Hg (And.intro @Vl (And.intro @Vk (And.intro Qs.1 (And.intro Qs.2.1 (And.intro Qs.2.2 (And.intro @aap (And.intro @aao (And.intro @aan (And.intro @aB (And.intro @N6 (And.intro @NZ (And.intro @Y7 (And.intro @Vo (And.intro @Ql (And.intro @YW (And.intro @YT (And.intro @kc_bool (And.intro @ty_int (And.intro @Zn (And.intro @ty_str (And.intro @W5 (And.intro @W4 (And.intro @R5 (And.intro @R4 (And.intro @tV (And.intro @uZ (And.intro @uY (And.intro @tU (And.intro @rC (And.intro @Aw (And.intro @Cz @Cy)))))))))))))))))))))))))))))))))))))
def rd2 := And.intro @Av (And.intro @yj (And.intro @Cw (And.intro @Fl (And.intro @Fj (And.intro @Cv (And.intro @Ar (And.intro @Cq (And.intro @Fi (And.intro @Fg (And.intro @Cp (And.intro @Am (And.intro @Aq (And.intro @Cu (And.intro @Cr (And.intro @Ao (And.intro @yh (And.intro @yg (And.intro @Al (And.intro @Ak (And.intro @ye (And.intro @vY (And.intro @Bool.or_false (And.intro @Bool.or_self (And.intro @Bool.or_true (And.intro @Bool.not_true (And.intro @Bool.not_false (And.intro @Bool.false_eq_true (And.intro @if_true.{1} (And.intro @if_false.{1} (And.intro @decide_true (And.intro @decide_false (And.intro @Ma.eq_1 (And.intro @rEq.eq_1 (And.intro @rNe.eq_1 @Tz))))))))))))))))))))))))))))))))))
def rd3 := And.intro @Tw (And.intro @xW (And.intro @Xn (And.intro @Xo (And.intro @Xm (And.intro @Xv (And.intro @aai (And.intro @aah (And.intro @Xa.eq_1 (And.intro @vQ.eq_1 (And.intro @M4 (And.intro @SM (And.intro @MP (And.intro @MT (And.intro @Lj.eq_1 (And.intro @Ws.eq_1 (And.intro @WW.eq_1 (And.intro @L2.start.eq_1 (And.intro @List.map_cons.{0,0} (And.intro @List.map_nil.{0,0} (And.intro @List.length_cons.{0} (And.intro @List.length_nil.{0} (And.intro @List.cons_append.{0} (And.intro @List.nil_append.{0} (And.intro @List.replicate_succ.{0} (And.intro @List.replicate_zero.{0} (And.intro @List.append_nil.{0} (And.intro @List.getElem?_cons_zero.{0} @List.getElem?_cons_succ.{0})))))))))))))))))))))))))))
def rd4 := And.intro @List.set_cons_zero.{0} (And.intro @List.set_cons_succ.{0} (And.intro @Nat.sub_self (And.intro @Option.some.injEq.{0} (And.intro @exists_eq_left'.{1} (And.intro @V7 (And.intro @V6 (And.intro @Lw.eq_1 (And.intro @V.int.injEq (And.intro @V.str.injEq (And.intro @EY (And.intro @Ey (And.intro @Ez (And.intro @qZ (And.intro @Vx (And.intro @Vw (And.intro @Qw (And.intro @V.bl.injEq (And.intro @V.ref.injEq (And.intro @List.cons.injEq.{0} (And.intro @and_true (And.intro @true_and (And.intro @exists_and_left.{1} (And.intro @exists_and_right.{1} (And.intro @decide_eq_true_eq (And.intro @Mh (And.intro @RQ (And.intro @Vz (And.intro @vL (And.intro @Ng (And.intro @Ss (And.intro @Sq (And.intro @tSl.eq_1 (And.intro @Ae.eq_1 @Ls.eq_1)))))))))))))))))))))))))))))))))
def rd5 := And.intro @S8 (And.intro @Tp (And.intro @Tq (And.intro @Ti (And.intro @Tj (And.intro @Af.eq_1 (And.intro @QZ (And.intro @Vy (And.intro @Vt @Vs))))))))
def bO : PyData -> Bool
 | .int _ => true
 | _ => false
def jC : PyData -> PyData -> Bool
 | .int w, .int s => (decide (1 <= w) && decide (w <= 40)) && (decide (0 <= s) && decide (s <= 1))
 | _, _ => false
def inB (w s a : Int) : Bool := decide (wl w s <= a) && decide (a < wl w s + 2 ^ w.toNat)
def upB (w a : Int) : Bool := decide (0 <= a) && decide (a < 2 ^ w.toNat)
def bK (w s : Int) : PyData -> Bool
 | .tuple [.str k, .int a] => decide (k = "is") && inB w s a
 | .tuple [.str k, .int a, .int b] => (decide (k = "from") && (inB w s a && inB w s b && decide (a <= b))) || (decide (k = "bits") && (upB w a && upB w b))
 | _ => false
def vV : Sp := fun vs H Q _ => ∃ v ok d, vs = [v] /\ aX ok H v d /\ Q (.bl (bO d)) H
def Hw : Sp := fun vs H Q _ => ∃ v v2 ok d d2, vs = [v, v2] /\ aX ok H v d /\ aX ok H v2 d2 /\ Q (.bl (jC d d2)) H
def Cj : Sp := fun vs H Q _ => ∃ w s, vs = [.int w, .int s] /\ 1 <= w /\ w <= 40 /\ (s = 0 \/ s = 1) /\ Q (.int (wl w s)) H
def Hu : Sp := fun vs H Q _ => ∃ w s, vs = [.int w, .int s] /\ 1 <= w /\ w <= 40 /\ (s = 0 \/ s = 1) /\ Q (.int (wl w s + 2 ^ w.toNat - 1)) H
def Hy : Sp := fun vs H Q _ => ∃ w s v ok d, vs = [.int w, .int s, v] /\ 1 <= w /\ w <= 40 /\ (s = 0 \/ s = 1) /\ aX ok H v d /\ ∀ H', Same H H' -> Q (.bl (bK w s d)) H'
section
variable {X : Cx} {NX N : List Str} {kX : List (Str × NameKind)} {mp : List (Option Nat)} {scope : Scope}
set_option maxHeartbeats 8000000 in
theorem Ug {tg iter elt : Expr} {ifs : List Expr} {pos pos' pos2 : Pos} {wi : TI} {g : TG} {tc : TT} {te : TE} {i : Nat} {x : Str} (N : List Str) (mp : List (Option Nat)) (hn : Nm X.N X.env.scope i x) (hNd : X.N.Nodup) (hNX : X.N = NX) (hkX : X.env.scope.names = kX) (S : zZ NX kX N mp scope) (hc : X.calm = true)
  (hi : PI X tg iter wi) (hg : ∀ cl C s H fp, PG (cV X N scope cl C s H fp) tg g) (ht : ∀ cl C s H fp, PTs (cV X N scope cl C s H fp) ifs tc) (he : ∀ cl C s H fp, PE (cV X N scope cl C s H fp) elt te)
  (hf : X.fn x = true \/ X.env.scope.names.lookup x = some .local := by exact .inl rfl)
  (hsw : swapsWithSole [.Name x pos'] (.ListComp elt [⟨tg, iter, ifs, 0⟩] scope pos) pos2.line X.env = pure true := by rfl)
  (h1 : (assignEach [.Name x pos'] X.env).map (·.2) = [assign (.Name x pos') X.env] := by rfl)
  (hs : ∀ x, foldedSetIterable iter X.env x = pure x := by intro _; rfl) : PS X (.Assign [.Name x pos'] (.ListComp elt [⟨tg, iter, ifs, 0⟩] scope pos) pos2) (yc (yU mp wi g tc te) (kJ i)) := by
 intro pins s σ H Dn I h
 rw [exec_Assign_arm]
 refine wpAny_bind (wpAny_standAt ?_)
 rw [hsw]
 refine wpAny_bind (wpAny_pure ?_)
 rw [if_pos rfl, h1]
 replace h : yU mp wi g tc te σ H (fun v H1 => Dn.nx (σ.set i (some v)) H1) := h
 obtain ⟨cl, hcl, hsub, hhas⟩ := Jp (env := X.env) (scope := scope) fun y hy hf => I.ok.has y.1 (by
  rcases S.fre y hy hf with q | q
  ·exact .inl (show X.env.scope.names.lookup y.1 = _ by rw [hkX]; exact q)
  ·exact .inr (show X.env.scope.names.lookup y.1 = _ by rw [hkX]; exact q))
 generalize hQ : (fun (v : V) (H1 : Hp) => Dn.nx (σ.set i (some v)) H1) = Q at h
 let QQ : Value -> Shared -> Prop := fun _ s' => ∃ τ H', Inv X pins τ H' s' /\ Dn.nx τ H'
 refine wpAny_bind (wpAny_bind (thn (Q := QQ) (wpAny_comprehension_free (e := .ListComp elt [⟨tg, iter, ifs, 0⟩] scope pos) (use := some fun v => assignAll v [assign (.Name x pos') X.env]) rfl hs hcl S.kind S.locs ?_) fun _ s' ⟨τ, H', I', q'⟩ => wpAny_pure (wpAny_pure ⟨τ, H', I', q'⟩)))
 refine thn (hi pins s σ H _ I h) fun v s1 h1 => thn h1 fun itv s2 h2 => ?_
 obtain ⟨it, fp, tn, J, H2, e, I2, T, st2, f2, W, ⟨m0, w0⟩, turn⟩ := h2
 subst e
 refine wpAny_newObj_type (wpAny_newFunctionEnv S.nocell (by intro y hy; simp at hy) (fun h3 hns hsb => ?_) S.kind)
 dsimp only at hns hsb |-
 have hold : ∀ b ∈ fp, b < s2.heap.objs.size := fun b hb => by
  obtain ⟨o, q, _⟩ := T.obj _ _ st2 b hb
  exact Heap.lt_size q
 generalize hD : s2.heap.objs.size = D at hns hsb
 generalize hH2 : s2.heap.push { cls := .type "list", dict := none, data := .seq ([] : List Value).toArray } = P2 at hns hsb |-
 have hC : P2.objs.size = D + 1 := by rw [<- hH2, Heap.size_push, hD]
 generalize hC' : P2.objs.size = C at hns hsb |-
 rw [hC'] at hC
 have old : ∀ b o, s2.heap.get? b = some o -> h3.get? b = some o := fun b o q => by
  have hb := Heap.lt_size q
  exact hsb.extBut b o (na1 hb hD hC) (Heap.get?_push_of_some _ (hH2 ▸ Heap.get?_push_of_some _ q))
 have accD : h3.get? D = some { cls := .type "list", data := .seq ([] : List Value).toArray } :=
  hsb.extBut _ _ (na2 hC) (Heap.get?_push_of_some _ (by rw [<- hH2, <- hD]; exact Heap.get?_push_size _ rfl))
 have hfr : D ∉ frs X.stack := fun z => by
  rcases List.mem_cons.mp (I2.tM D z) with q | q
  ·exact na0 I2.lt hD q.symm
  ·exact I2.Yz (na4 hD) q
 have I0 : Inv (cV X N scope cl C s2 H2 fp) [(D, { cls := .type "list", data := .seq ([] : List Value).toArray })] (jM mp σ) H2 { s2 with heap := h3, toks := s2.toks + ([] : List (Str × Value)).length } :=
  Jo (s' := { s2 with heap := h3, toks := s2.toks + ([] : List (Str × Value)).length }) hNX hkX S I2 f2 hold (na3 hD hC) hsub hhas rfl rfl ⟨_, hns⟩ old fun p hp => by
   have ep := List.mem_singleton.mp hp
   subst ep
   exact ⟨accD, I2.hok.fresh (na4 hD), na2 hC, hfr, fun v z => by cases z⟩
 have T0 : tn 0 h3 := T.keep _ _ _ st2 fun b _ o q => old b o q
 have loop : ∀ z : Shared, z = { s2 with heap := h3, toks := s2.toks + ([] : List (Str × Value)).length } ->
   codeAny (model X.prog X.w) X.A (.compLoop (.ListComp elt [⟨tg, iter, ifs, 0⟩] scope pos) 0 (.ref it) (.ref D) (compEnvC scope cl C X.env))
    (compPost (model X.prog X.w) X.A X.xe (some fun v => assignAll v [assign (.Name x pos') X.env]) QQ (.ref D) C) z := by
  rintro z rfl
  have stat : ∀ {H' : Hp} {pl : List (Addr × Obj)}, (∀ b ∈ fp, H' b = none) -> (∀ p ∈ pl, p.1 = D) -> ∀ b ∈ fp, tH (cV X N scope cl C s2 H2 fp) pl H' b := fun hn hp b hb => by
   have hb2 := hold b hb
   refine ⟨hn b hb, na1 hb2 hD hC, (GP hkX S I2 f2 hold (na3 hD hC) hsub hhas).exfs b hb, .inl hb, fun x c q => (f2 b hb).2.2.2.2.1 x c (hsub x c q), fun p hpp => ?_⟩
   have hpD := hp p (by simpa [cV] using hpp)
   rw [hpD]
   exact (na0 hb2 hD).symm
  refine zL (env := compEnvC scope cl C X.env) (fun n z => ∃ i acc τ H' its k, Inv (cV X N scope cl C s2 H2 fp) [(D, { cls := .type "list", data := .seq (List.toArray its) k })] τ H' z /\ tn i z.heap /\ (∀ b ∈ fp, H' b = none) /\ Vals acc its /\ acc.length <= sizeLine /\ W i n acc τ H')
   ?_ m0 ⟨0, [], _, H2, [], 0, I0, T0, fun b hb => (f2 b hb).1, .nil, Nat.zero_le _, w0⟩
  rintro n s5 ⟨i, acc, τ, H5, its, k, I5, st5, fr5, va, hz, w5⟩
  rcases turn i n acc τ H5 w5 with ⟨stop, qn⟩ | ⟨go, hz2, N9, hN9, step⟩
  ·refine thn (T.done (cV X N scope cl C s2 H2 fp) rfl rfl rfl hc i _ s5 τ H5 _ I5 (stat fr5 (by simp)) st5 stop) fun r s6 ⟨hr, I6⟩ => ?_
   subst hr
   obtain ⟨m6, hn6, _⟩ := I6.loc
   obtain ⟨dD, nD, _, _, _⟩ := I6.pin (D, _) (List.mem_append_right _ (List.mem_singleton.mpr rfl))
   have U := I6.base
   have nC : H5 C = none := I6.free
   have ne : ∀ b o, s2.heap.get? b = some o -> b ≠ C /\ b ≠ D := fun b o q => by
    exact ⟨na1 (Heap.lt_size q) hD hC, na0 (Heap.lt_size q) hD⟩
   have key : ∀ h', Heap.SameBut C s6.heap h' -> Inv X pins σ (upd H5 D (.lst acc)) { s6 with heap := h' } := fun h' sb => by
    have keepC : ∀ b o, b ≠ C -> s6.heap.get? b = some o -> h'.get? b = some o := fun b o hb q => (sb.2 b hb).trans q
    have U' : Un (frs X.stack) fp H2 (upd H5 D (.lst acc)) s2.heap h' := by
     refine ⟨fun b o q n1 hb hx => keepC b o (ne b o q).1 (U.keep b o q n1 hb hx), fun b o q n1 hb hx => ?_, fun b o q n1 hx => ?_, fun b o q hx => ?_, fun b xs q => ?_, fun b o xs q => ?_, fun b ps q => ?_⟩
     ·obtain ⟨sl, z⟩ := U.slot b o q n1 hb hx
      exact ⟨sl, keepC b _ (ne b o q).1 z⟩
     ·rw [aJ (ne b o q).2]
      exact U.free b o q n1 hx
     ·obtain ⟨o', z⟩ := U.there b o q hx
      exact ⟨o', keepC b _ (ne b o q).1 z⟩
     ·have z := U.tups b xs q
      rw [aJ (aQ z nD)]
      exact z
     ·have z := U.frzs b o xs q
      rw [aJ (aQ z nD)]
      exact z
     ·obtain ⟨more, z⟩ := U.tbls b ps q
      exact ⟨more, by rw [aJ (aQ z nD)]; exact z⟩
    have hok : HOk X.prog X.w (upd H5 D (.lst acc)) h' := fun b u q => by
     by_cases hb : b = D
     ·subst hb
      rw [aB] at q
      cases q
      exact ⟨hz, its, k, va, keepC _ _ (na2 hC) dD⟩
     ·rw [aJ hb] at q
      refine (I6.hok b u q).stay (fun c v hcc z => keepC c v ?_ z) (fun c z => by rw [aJ (aQ z nD)]; exact z) fun c xs z => by rw [aJ (aQ z nD)]; exact z
      rcases hcc with z1 | z1
      ·subst z1
       exact aQ q nC
      ·exact aQ z1 nC
    have I7 : Inv X pins σ (upd H5 D (.lst acc)) { s6 with heap := h' } := I2.call' (s' := { s6 with heap := h' }) (ch := fp) I6.os U' hok I6.bare fun b hb => by
     obtain ⟨_, a2, _, a4, a5, a6⟩ := f2 b hb
     exact ⟨a4, a2, a5, a6⟩
    exact I7
   have I7 : Inv X pins σ (upd H5 D (.lst acc)) s6 := key s6.heap (Heap.SameBut.refl _ _)
   have lC : X.env.locals ≠ C := na1 I2.lt hD hC
   have cC : ∀ y c, X.env.cells.lookup y = some c -> c ≠ C := fun y c z => by
    obtain ⟨_, o, h1, _⟩ := I2.cell y c z
    exact na1 (Heap.lt_size h1) hD hC
   show wpAny _ _ (assign (.Name x pos') X.env (.ref D)) _ _ s6
   refine wpAny_assign_Name (yW (v := .ref D) I7 hNd hn.hN hn.hv rfl (fun s7 I8 ⟨a, sa, ha⟩ => ?_) hf)
   have aC : a ≠ C := by
    rcases ha with rfl | ha
    ·exact lC
    ·exact cC _ _ ha
   obtain ⟨o6, es6, ep6, g1, g2, g3, g4⟩ := hn6
   refine ⟨m6, ⟨o6, es6, ep6, (sa.2 C (Ne.symm aC)).trans g1, g2, g3, g4⟩, fun h' sb => ?_⟩
   have q9 := qn D nD
   rw [<- hQ] at q9
   refine ⟨_, _, I8.turned (it := C) (t' := s7.toks) (fun b o hb q => (sb.2 b hb).trans q) ?_ (Ne.symm lC) (.inr (Nat.le_trans I2.sz (na3 hD hC))) cC (fun p hp => ?_), q9⟩
   ·rw [aJ (Ne.symm (na2 hC))]
    exact nC
   ·obtain ⟨h1, _⟩ := I2.pin p hp
    exact na1 (Heap.lt_size h1) hD hC
  ·refine thn (T.item (cV X N scope cl C s2 H2 fp) rfl rfl rfl hc i _ s5 τ H5 _ I5 (stat fr5 (by simp)) st5 go) fun r s6 ⟨u, hr, h6⟩ => ?_
   subst hr
   refine thn h6 fun _ s7 ⟨x, H7, I7, r7, y7, st7, fr7⟩ => ?_
   have I7' := I7.pinned (stat fr7 (by simp)) (T.obj _ _ st7)
   have no : ∀ {α : Type} {t : Sem α} {Q1 Q2 : α -> Shared -> Prop} {E : Value -> Shared -> Prop} {z : Shared}, wpAny (model X.prog X.w) X.A t Q1 (fun _ _ => False) z -> (∀ a z, Q1 a z -> Q2 a z) -> wpAny (model X.prog X.w) X.A t Q2 E z :=
    fun q f => wpAny_mono q f fun _ _ z => z.elim
   refine no (hg cl C s2 H2 fp _ s7 τ H7 x u _ I7' r7 (step x H7 y7)) fun _ s8 ⟨τ1, H8, I8, q8⟩ => ?_
   refine no (ht cl C s2 H2 fp _ s8 τ1 H8 _ I8 q8) fun ok s9 ⟨H9, I9, q9⟩ => ?_
   have again : ∀ {H' : Hp} {z : Shared} {its' : List Value} {k' : Nat}, Inv (cV X N scope cl C s2 H2 fp) ([(D, { cls := .type "list", data := .seq (List.toArray its') k' })] ++ kZ fp s7.heap) τ1 H' z ->
     tn (i + 1) z.heap /\ (∀ b ∈ fp, H' b = none) /\ Inv (cV X N scope cl C s2 H2 fp) [(D, { cls := .type "list", data := .seq (List.toArray its') k' })] τ1 H' z := fun {H' z its' k'} Iz => by
    have get : ∀ b ∈ fp, ∀ o, s7.heap.get? b = some o -> z.heap.get? b = some o /\ H' b = none := fun b hb o q => by
     obtain ⟨a1, a2, _⟩ := Iz.pin (b, o) (List.mem_append_right _ (List.mem_append_right _ (mZ hb q)))
     exact ⟨a1, a2⟩
    refine ⟨T.keep _ _ _ st7 fun b hb o q => (get b hb o q).1, fun b hb => ?_, Iz.nP⟩
    obtain ⟨o, q, _⟩ := T.obj _ _ st7 b hb
    exact (get b hb o q).2
   cases ok with
   | false =>
    rw [if_neg Bool.false_ne_true] at q9 |-
    obtain ⟨m', hm, w9⟩ := hN9 _ _ _ q9
    obtain ⟨a1, a2, a3⟩ := again I9
    exact ⟨m', hm, i + 1, acc, τ1, H9, its, k, a3, a1, a2, va, hz, w9⟩
   | true =>
    rw [if_pos rfl] at q9 |-
    refine no (he cl C s2 H2 fp _ s9 τ1 H9 _ I9 q9) fun y s10 ⟨v, H10, I10, rv, q10⟩ => ?_
    obtain ⟨m', hm, w10⟩ := hN9 _ _ _ q10
    obtain ⟨a1, a2, a3⟩ := again I10
    obtain ⟨dD, nD, _, _, _⟩ := a3.pin (D, _) (List.mem_append_right _ (List.mem_singleton.mpr rfl))
    have hlen := va.length
    refine call_meets F.slot_list_append ⟨_, dD, rfl⟩ F.entry_list_append (F.args_list_append_2 _ _) (PySem.list_append D its.toArray k y (by rw [List.size_toArray]; omega)) ⟨dD, ?_⟩
    obtain ⟨k', q⟩ : ∃ k', (s10.heap.update D (Obj.mapSeq fun a => a.push y)).get? D = some { cls := .type "list", data := .seq (its ++ [y]).toArray k' } := by
     have q := PySem.IsL.update dD (fun a => a.push y)
     rw [show its.toArray.push y = (its ++ [y]).toArray by simp] at q
     exact ⟨_, q⟩
    have a4 : Inv (cV X N scope cl C s2 H2 fp) (kZ fp s7.heap) τ1 H10 s10 := I10.pU fun p hp => I10.pin p (List.mem_append_right _ (List.mem_append_right _ hp))
    have a5 : Inv (cV X N scope cl C s2 H2 fp) (kZ fp s7.heap) τ1 H10 { s10 with heap := s10.heap.update D (Obj.mapSeq fun a => a.push y), toks := s10.toks } :=
     a4.turned (it := D) (fun b o hb z => (Heap.get?_update_other _ _ (Ne.symm hb)).trans z) nD (na2 hC) (.inr (na4 hD))
      (fun x c z => by
       obtain ⟨_, o, h1, _⟩ := I2.cell x c (hsub x c z)
       exact na0 (Heap.lt_size h1) hD) fun p hp => by
       have hb := (tW (by simpa [cV] using hp)).1
       exact na0 (hold _ hb) hD
    obtain ⟨b1, b2, b3⟩ := (show tn (i + 1) (s10.heap.update D (Obj.mapSeq fun a => a.push y)) /\ (∀ b ∈ fp, H10 b = none) /\ True from
     ⟨T.keep _ _ _ a1 fun b hb o z => (Heap.get?_update_other _ _ (na0 (hold b hb) hD).symm).trans z, a2, trivial⟩)
    refine ⟨m', hm, i + 1, acc ++ [v], τ1, H10, its ++ [y], k', a5.pU fun p hp => ?_, b1, b2, va.append (.cons rv .nil), by rw [List.length_append, List.length_singleton]; omega, w10⟩
    have ep := List.mem_singleton.mp hp
    subst ep
    exact ⟨q, nD, na2 hC, hfr, fun v z => by cases z⟩
 have e1 : { newEnv scope C X.env.globals cl X.env.qual none .none (some X.env) X.env.builtins with scope := relabel scope X.env } = compEnvC scope cl C X.env := rfl
 exact codeAny_compStart_list (loop _ rfl) (T.self _ 0 _ _ _ T0 (loop _ rfl))
theorem vz {tg iter elt : Expr} {ifs : List Expr} {pos pos' pos2 : Pos} {wi : TI} {g : TG} {tc : TT} {te : TE} {i : Nat} {x : Str} (N : List Str) (mp : List (Option Nat)) (hn : Nm X.N X.env.scope i x) (hNd : X.N.Nodup) (hNX : X.N = NX) (hkX : X.env.scope.names = kX) (S : zZ NX kX N mp scope) (hc : X.calm = true)
  (hi : QI X tg iter wi) (hg : ∀ cl C s H fp, QG (cV X N scope cl C s H fp) tg g) (ht : ∀ cl C s H fp, QC (cV X N scope cl C s H fp) ifs tc) (he : ∀ cl C s H fp, QE (cV X N scope cl C s H fp) elt te)
  (hf : X.fn x = true \/ X.env.scope.names.lookup x = some .local := by exact .inl rfl)
  (hsw : swapsWithSole [.Name x pos'] (.ListComp elt [⟨tg, iter, ifs, 0⟩] scope pos) pos2.line X.env = pure true := by rfl)
  (h1 : (assignEach [.Name x pos'] X.env).map (·.2) = [assign (.Name x pos') X.env] := by rfl)
  (hs : ∀ x, foldedSetIterable iter X.env x = pure x := by intro _; rfl) : QS X (.Assign [.Name x pos'] (.ListComp elt [⟨tg, iter, ifs, 0⟩] scope pos) pos2) (yc (yU mp wi g tc te) (kJ i)) :=
 ⟨Ug N mp hn hNd hNX hkX S hc hi.h (fun cl C s H fp => (hg cl C s H fp).h) (fun cl C s H fp => (ht cl C s H fp).h) (fun cl C s H fp => (he cl C s H fp).h) hf hsw h1 hs⟩
end
def pJ (H0 : Hp) (f : PyData -> Bool) (ds : List PyData) (ok : St -> Prop) (i : Nat) (acc : List V) (τ : St) (H' : Hp) : Prop := Same H0 H' /\ ok τ /\ acc = ((ds.take i).map f).map V.bl
section
variable {mp : List (Option Nat)} {g : TG} {te : TE} {σ : St} {H : Hp} {Q : VK} {R : It -> Hp -> Prop} {K : PySem.W.Frag} {a : Addr} {xs : List V} {ds : List PyData} {ok : Addr -> Prop}
theorem take_snoc {α : Type} {l : List α} {i : Nat} {x : α} (h : l[i]? = some x) : l.take (i + 1) = l.take i ++ [x] := by
 rw [List.take_add_one, h]
 rfl
theorem xT {f : PyData -> Bool} {d : PyData} {i : Nat} (h : ds[i]? = some d) : ((ds.take (i + 1)).map f).map V.bl = ((ds.take i).map f).map V.bl ++ [V.bl (f d)] := by
 rw [take_snoc h, List.map_append, List.map_append]
 rfl
theorem zQ (f : PyData -> Bool) (ds : List PyData) (i : Nat) : (((ds.take i).map f).map V.bl).length <= i := by
 simp only [List.length_map, List.length_take]
 omega
theorem jF (f : PyData -> Bool) (okT : St -> Prop) (hR : R = xX mp g Ew te σ Q) (tr : aM ok H xs ds) (e : H a = some (.tup xs)) (hz : xs.length <= 1000000) (h0 : okT (jM mp σ))
  (hs : ∀ x d τ H1 (Qn : V -> St -> Hp -> Prop), d ∈ ds -> Same H H1 -> aX ok H1 x d -> okT τ -> (∀ τ1 H6, okT τ1 -> Same H1 H6 -> Qn (.bl (f d)) τ1 H6) -> g x τ H1 fun τ1 H4 => te τ1 H4 fun v H6 => Qn v τ1 H6)
  (hd : ∀ H2 d, Same H H2 -> H2 d = none -> Q (.ref d) (upd H2 d (.lst ((ds.map f).map V.bl)))) : R (Itt K a) H := by
 have hl := tr.length
 refine Ru hR (aP hz) (pJ H f ds okT) ⟨Same.refl _, h0, rfl⟩ (fun i acc τ H1 ⟨_, _, e⟩ => by rw [e]; exact zQ f ds i) (fun i acc τ H1 ⟨s, _, _⟩ => SqT.of (s _ _ e)) (fun i x acc τ H1 hx ⟨s, k, ea⟩ => ?_) (fun acc τ H1 d ⟨s, k, ea⟩ hn => ?_)
 ·obtain ⟨d, hd2, td⟩ := tr.get hx
  have z := hs x d τ H1 (fun v τ1 H6 => pJ H f ds okT (i + 1) (acc ++ [v]) τ1 H6) (List.mem_of_getElem? hd2) s (td.same s) k fun τ1 H6 k1 s6 => ⟨s.trans s6, k1, by rw [ea, xT hd2]⟩
  show g x τ H1 fun τ1 H4 => if true = true then te τ1 H4 fun v H6 => pJ H f ds okT (i + 1) (acc ++ [v]) τ1 H6 else pJ H f ds okT (i + 1) acc τ1 H4
  simp only [if_true]
  exact z
 ·rw [ea, hl, List.take_length]
  exact hd H1 d s hn
theorem sX (f : PyData -> Bool) (okT : St -> Prop) (hR : R = xX mp g Ew te σ Q) (tr : aM ok H xs ds) (e : H a = some (.lst xs)) (hz : xs.length <= 1000000) (h0 : okT (jM mp σ))
  (hs : ∀ x d τ H1 (Qn : V -> St -> Hp -> Prop), d ∈ ds -> Same H H1 -> aX ok H1 x d -> okT τ -> (∀ τ1 H6, okT τ1 -> Same H1 H6 -> Qn (.bl (f d)) τ1 H6) -> g x τ H1 fun τ1 H4 => te τ1 H4 fun v H6 => Qn v τ1 H6)
  (hd : ∀ H2 d, Same H H2 -> H2 d = none -> Q (.ref d) (upd H2 d (.lst ((ds.map f).map V.bl)))) : R (Itl K a) H := by
 have hl := tr.length
 refine qQ hR (aP hz) (pJ H f ds okT) ⟨Same.refl _, h0, rfl⟩ (fun i acc τ H1 ⟨_, _, e⟩ => by rw [e]; exact zQ f ds i) (fun i acc τ H1 ⟨s, _, _⟩ => SqL.of (s _ _ e)) (fun i x acc τ H1 hx ⟨s, k, ea⟩ => ?_) (fun acc τ H1 d ⟨s, k, ea⟩ hn => ?_)
 ·obtain ⟨d, hd2, td⟩ := tr.get hx
  have z := hs x d τ H1 (fun v τ1 H6 => pJ H f ds okT (i + 1) (acc ++ [v]) τ1 H6) (List.mem_of_getElem? hd2) s (td.same s) k fun τ1 H6 k1 s6 => ⟨s.trans s6, k1, by rw [ea, xT hd2]⟩
  show g x τ H1 fun τ1 H4 => if true = true then te τ1 H4 fun v H6 => pJ H f ds okT (i + 1) (acc ++ [v]) τ1 H6 else pJ H f ds okT (i + 1) acc τ1 H4
  simp only [if_true]
  exact z
 ·rw [ea, hl, List.take_length]
  exact hd H1 d s hn
end
theorem aaj (n : Nat) : inV (V.int (n : Nat)) [V.int 2, V.int 3] = (decide (n = 2) || decide (n = 3)) := by
 unfold inV
 show (((2 : Int) == (n : Int)) || (((3 : Int) == (n : Int)) || false)) = _
 rw [Bool.or_false]
 congr 1
 ·rw [Bool.eq_iff_iff, beq_iff_eq, decide_eq_true_eq]; omega
 ·rw [Bool.eq_iff_iff, beq_iff_eq, decide_eq_true_eq]; omega
theorem DP {w s : Int} {ds : List PyData} (h2 : ds.length ≠ 2) (h3 : ds.length ≠ 3) : bK w s (.tuple ds) = false := by
 match ds, h2, h3 with
 | [], _, _ => rfl
 | [d], _, _ => cases d <;> rfl
 | [_, _], h, _ => exact absurd rfl h
 | [_, _, _], _, h => exact absurd rfl h
 | a :: b :: c :: _ :: _, _, _ => cases a <;> (first | rfl | (cases b <;> (first | rfl | (cases c <;> rfl))))
theorem aM.two {ok : Addr -> Prop} {H : Hp} {xs : List V} {ds : List PyData} (t : aM ok H xs ds) (h : xs.length = 2) : ∃ x y d e, xs = [x, y] /\ ds = [d, e] /\ aX ok H x d /\ aX ok H y e := by
 cases t with
 | nil => cases h
 | cons t1 t =>
  cases t with
  | nil => cases h
  | cons t2 t =>
   cases t with
   | nil => exact ⟨_, _, _, _, rfl, rfl, t1, t2⟩
   | cons _ _ => simp at h
theorem aM.three {ok : Addr -> Prop} {H : Hp} {xs : List V} {ds : List PyData} (t : aM ok H xs ds) (h : xs.length = 3) : ∃ x y z d e f, xs = [x, y, z] /\ ds = [d, e, f] /\ aX ok H x d /\ aX ok H y e /\ aX ok H z f := by
 cases t with
 | nil => cases h
 | cons t1 t =>
  cases t with
  | nil => cases h
  | cons t2 t =>
   cases t with
   | nil => cases h
   | cons t3 t =>
    cases t with
    | nil => exact ⟨_, _, _, _, _, _, rfl, rfl, t1, t2, t3⟩
    | cons _ _ => simp at h
def gQ (d : PyData) (z : Str) : Bool := match d with
 | .str x => decide (x = z)
 | _ => false
theorem xO {ok : Addr -> Prop} {H : Hp} {x : V} {d : PyData} {z : Str} {Q : VK} (t : aX ok H x d) (q : Q (.bl (gQ d z)) H) : Fq x (.str z) H Q := by
 cases t with
 | non => exact ⟨rfl, q⟩
 | bl b => exact ⟨rfl, q⟩
 | int i => exact ⟨rfl, q⟩
 | str y => exact ⟨rfl, by rw [show decide (V.str y = V.str z) = decide (y = z) by simp]; exact q⟩
 | lst o e z t => show eqo _ _ _; rw [e]; exact q
 | tup o e z t => show eqo _ _ _; rw [e]; exact q
theorem JB {d : PyData} (h : gQ d "from" = true) : gQ d "bits" = false := by
 cases d with
 | str x =>
  have e : x = "from" := of_decide_eq_true h
  rw [e]
  show decide (("from" : Str) = "bits") = false
  exact decide_eq_false (by rw [qZ]; exact id)
 | _ => cases h
theorem Kw (w s : Int) (d e : PyData) : bK w s (.tuple [d, e]) = (bO e && (gQ d "is" && (match e with | .int a => inB w s a | _ => false))) := by
 cases e <;> cases d <;> simp [bK, bO, gQ]
theorem Kv (w s : Int) (d e f : PyData) : bK w s (.tuple [d, e, f]) = (bO e && bO f && (match e, f with | .int a, .int b => (gQ d "from" && (inB w s a && inB w s b && decide (a <= b))) || (gQ d "bits" && (upB w a && upB w b)) | _, _ => false)) := by
 cases e <;> cases f <;> cases d <;> simp [bK, bO, gQ]
def itD : It1 -> PyData
 | .one a => .tuple [.str "is", .int a]
 | .rng a b => .tuple [.str "from", .int a, .int b]
 | .bits m v => .tuple [.str "bits", .int m, .int v]
def zM (its : List It1) : PyData := .list (its.map itD)
def BL (w s : Int) (css : List (List It1)) : PyData := .tuple [.int w, .int s, .list (css.map zM)]
theorem qX.tree {H : Hp} {t : Addr} {it : It1} {ok : Addr -> Prop} (h : qX H t it) (o : ok t) : aX ok H (.ref t) (itD it) := by
 cases it with
 | one a => exact .tup o h.h (by show 2 <= 1000000; decide) (.cons (.str _) (.cons (.int _) .nil))
 | rng a b => exact .tup o h.h (by show 3 <= 1000000; decide) (.cons (.str _) (.cons (.int _) (.cons (.int _) .nil)))
 | bits m v => exact .tup o h.h (by show 3 <= 1000000; decide) (.cons (.str _) (.cons (.int _) (.cons (.int _) .nil)))
theorem xJ {p c : Addr} {H Hk : Hp} {B : Int} (s : cj p H Hk) (t : bN Hk p B) (h : Hk c = none) : c ≠ p /\ H c = none := by
 have n := t.ne h
 refine ⟨n, ?_⟩
 cases e : H c with
 | none => rfl
 | some o => rw [s _ _ n e] at h; cases h
theorem iV {p c : Addr} {H H' : Hp} {o : HO} (s : cj p H H') (h : H c = none) : cj p H (upd H' c o) := fun b u n e => by
 rw [aJ (aQ e h)]
 exact s b u n e
theorem bN.upd {H : Hp} {p c : Addr} {B : Int} {o : HO} (t : bN H p B) (n : c ≠ p) : bN (upd H c o) p B := by
 obtain ⟨a, b, c', e, r⟩ := t
 exact ⟨a, b, c', by rw [aJ (Ne.symm n)]; exact e, r⟩
theorem xV {α : Type} (l : List α) (x : α) : atI (l ++ [x]) (-1) = some x := by
 unfold atI ixN
 rw [if_neg (by decide), if_pos (by rw [List.length_append, List.length_singleton]; omega)]
 show (l ++ [x])[_]? = some x
 rw [List.getElem?_append_right (by rw [List.length_append, List.length_singleton]; omega)]
 rw [show (-1 + ((l ++ [x]).length : Int)).toNat - l.length = 0 by rw [List.length_append, List.length_singleton]; omega]
 rfl
def Mq : Sp := fun vs H Q _ => ∃ (p : Addr) (B : Int), vs = [.ref p] /\ bN H p B /\ 0 <= B /\ B <= 900000 /\
 ∀ (w s : Int) (t : Addr) (css : List (List It1)) H', 1 <= w -> w <= 40 -> (s = 0 \/ s = 1) -> cj p H H' -> bN H' p (B + 6000) -> aX (· ≠ p) H' (.ref t) (BL w s css) ->
  (∀ its ∈ css, its.length <= 6 /\ ∀ it ∈ its, it.Ok w s) -> css.length <= 12 -> Q (.ref t) H'
theorem Bp {w s : Int} : lH w s (wl w s) := ⟨Int.le_refl _, by have := two_pow_pos w.toNat; omega⟩
section
variable {ok : Addr -> Prop} {σ : St} {H0 H : Hp} {ta tb te : TE} {tr : TA} {d e : PyData} {ds es : List PyData} {D : Ends} {i : Nat}
end
theorem Vr {n : Nat} {i : Int} (h0 : 0 <= i) (h : i < n) : ixN n i = some i.toNat := by
 unfold ixN
 rw [if_pos h0, if_pos h]
theorem aM.one {ok : Addr -> Prop} {H : Hp} {vs : List V} {d : PyData} (t : aM ok H vs [d]) : ∃ v, vs = [v] /\ aX ok H v d := by
 cases t with
 | cons t r =>
  cases r
  exact ⟨_, rfl, t⟩
theorem iD {prog : Program} {w : World} {A : Around} {E : Value -> Shared -> Prop} {s : Shared} {it t : Addr} {i : Nat} {items : Array Value} {x : Value} {Q : Value -> Shared -> Prop} (hit : s.heap.IsTupleIter it t i) (ht : s.heap.IsTuple t items) (hx : items[i]? = some x)
  (hQ : ∀ h', h'.IsTupleIter it t (i + 1) -> Heap.SameBut it s.heap h' -> Q x { s with heap := h' }) : wpAny (model prog w) A (Builtin.SmallTypes.nextOf (Value.ref it)) Q E s := by
 obtain ⟨o, ho, hc, hd⟩ := id hit
 obtain ⟨ol, hol, hcl, nl, hdl⟩ := ht
 unfold Builtin.SmallTypes.nextOf
 refine wpAny_bind (wpAny_callSpecial?_slot hit.typeIs F.slot_tuple_iterator_next (wpAny_call_entry F.slot_tuple_iterator_next hit.typeIs F.entry_tuple_iterator_next ?_ (F.args_tuple_iterator_next_1 _)))
 refine wpAny_bind (wpAny_pure (wpAny_bind (wpAny_field ho hd (i := 0) rfl ?_)))
 refine wpAny_ite_false rfl (wpAny_bind (wpAny_field ho hd (i := 1) rfl ?_))
 refine wpAny_bind (wpAny_seqItems hol hdl ?_)
 show wpAny _ _ (match items[(i : Int).toNat]? with
  | some x => (do setField (.ref it) 1 (rawInt ((i : Int) + 1)); ret x)
  | none => _) _ _ _
 rw [Int.toNat_natCast, hx]
 refine wpAny_bind (wpAny_setField ho hd (Nat.lt_succ_self 1) (wpAny_pure ⟨x, rfl, wpAny_pure (hQ _ ?_ ?_)⟩))
 ·refine ⟨_, Heap.get?_update_self _ ho (Obj.isFreed_of_fields (Obj.data_mapFields hd _)), (Obj.cls_mapFields o _).trans hc, ?_⟩
  rw [Obj.data_mapFields hd]
  rfl
 ·exact Heap.SameBut.update s.heap it _
theorem lU {prog : Program} {w : World} {A : Around} {E : Value -> Shared -> Prop} {s : Shared} {it t : Addr} {i : Nat} {items : Array Value} {Q : Value -> Shared -> Prop} (hh : A.handled = none) (hit : s.heap.IsTupleIter it t i) (ht : s.heap.IsTuple t items) (hx : items[i]? = none)
  (hE : ∀ h' e, Heap.ExtBut it s.heap h' -> (∃ o, h'.get? e = some o /\ o.cls = Value.type "StopIteration") -> E (.ref e) { s with heap := h' }) : wpAny (model prog w) A (Builtin.SmallTypes.nextOf (Value.ref it)) Q E s := by
 obtain ⟨o, ho, hc, hd⟩ := id hit
 obtain ⟨ol, hol, hcl, nl, hdl⟩ := ht
 unfold Builtin.SmallTypes.nextOf
 refine wpAny_bind (wpAny_callSpecial?_slot hit.typeIs F.slot_tuple_iterator_next (wpAny_call_entry F.slot_tuple_iterator_next hit.typeIs F.entry_tuple_iterator_next ?_ (F.args_tuple_iterator_next_1 _)))
 refine wpAny_bind (wpAny_pure (wpAny_bind (wpAny_field ho hd (i := 0) rfl ?_)))
 refine wpAny_ite_false rfl (wpAny_bind (wpAny_field ho hd (i := 1) rfl ?_))
 refine wpAny_bind (wpAny_seqItems hol hdl ?_)
 show wpAny _ _ (match items[(i : Int).toNat]? with
  | some x => _
  | none => (do rule (toString "tuple_iterator.__next__" ++ toString ".end"); setField (.ref it) 0 .none; Builtin.SmallTypes.stopIteration)) _ _ _
 rw [Int.toNat_natCast, hx]
 refine wpAny_bind (wpAny_rule (wpAny_bind (wpAny_setField ho hd (Nat.zero_lt_succ 1) ?_)))
 unfold Builtin.SmallTypes.stopIteration newExc
 refine wpAny_bind (wpAny_bind (wpAny_newObj_type ?_))
 refine wpAny_bind (wpAny_of_eq (a := .none) rfl ?_)
 refine wpAny_newObj_type ?_
 refine wpAny_raiseNew_none hh (hE _ _ ?_ ?_)
 ·exact fun b ob hb e => Heap.get?_push_of_some _ (Heap.get?_push_of_some _ ((Heap.get?_update_other _ _ (Ne.symm hb)).trans e))
 ·exact ⟨_, Heap.get?_push_size _ rfl, rfl⟩
section
variable {X : Cx}
end
theorem GK {J : It} {g : TG} {tb : TS} {D : Ends} {σ : St} {H : Hp} {R : It -> Hp -> Prop} (hR : R = (fun J H1 => ∃ W : Nat -> Nat -> St -> Hp -> Prop, (∃ m, W 0 m σ H1) /\ ∀ i m σ H, W i m σ H ->
  (J.stop i H /\ D.nx σ H) \/ (J.go i H /\ ∃ N : St -> Hp -> Prop, (∀ σ' H', N σ' H' -> ∃ m', m' < m /\ W (i + 1) m' σ' H') /\ ∀ x H', J.yld i H x H' -> g x σ H' fun σ2 H2 => tb { D with nx := N, ct := N, bk := D.nx } σ2 H2)))
  (n : Nat) (Pv : Nat -> St -> Hp -> Prop) (h0 : Pv 0 σ H) (hgo : ∀ i σ H, i < n -> Pv i σ H -> J.go i H) (hst : ∀ σ H, Pv n σ H -> J.stop n H)
  (hs : ∀ i σ H x H3, i < n -> Pv i σ H -> J.yld i H x H3 -> g x σ H3 fun σ2 H2 => tb { D with nx := Pv (i + 1), ct := Pv (i + 1), bk := D.nx } σ2 H2) (hd : ∀ σ H, Pv n σ H -> D.nx σ H) : R J H := by
 subst hR
 refine ⟨fun i m σ H2 => m = n - i /\ i <= n /\ Pv i σ H2, ⟨_, rfl, Nat.zero_le _, h0⟩, ?_⟩
 rintro i m σ H2 ⟨rfl, hi, p⟩
 by_cases hlt : i < n
 ·exact .inr ⟨hgo i σ H2 hlt p, Pv (i + 1), fun σ' H' q => ⟨_, by omega, rfl, hlt, q⟩, fun x H3 y => hs i σ H2 x H3 hlt p y⟩
 ·have e : i = n := by omega
  subst e
  exact .inl ⟨hst σ H2 p, hd σ H2 p⟩
section
variable {X : Cx} {e o : Expr} {te to : TE} {pos : Pos}
end
mutual
def szD (a : Nat) : PyData -> Prop
 | .none => True
 | .bool _ => True
 | .int i => i.natAbs <= 10 ^ 20 * 2 ^ a
 | .str x => x.length <= 30 + a /\ ∀ c ∈ x.cps.toList, c < 16 ^ 8
 | .list ds => ds.length <= 210 * 5 ^ a /\ Ml a ds
 | .tuple ds => ds.length <= 210 * 5 ^ a /\ Ml a ds
 | .dict _ => False
def Ml (a : Nat) : List PyData -> Prop
 | [] => True
 | d :: ds => szD a d /\ Ml a ds
end
theorem sV {x : PyData} : ∀ {ds : List PyData}, x ∈ ds -> x.depth <= PyData.depthAll ds
 | y :: ds, h => by
  rw [PyData.depthAll.eq_2]
  rcases List.mem_cons.mp h with rfl | z
  ·omega
  ·have := sV z; omega
theorem pD {k : Nat} : ∀ {ds : List PyData}, (∀ d ∈ ds, d.depth <= k) -> PyData.depthAll ds <= k
 | [], _ => Nat.zero_le _
 | x :: ds, h => by
  rw [PyData.depthAll.eq_2]
  have h1 := h x List.mem_cons_self
  have h2 := pD fun d hd => h d (List.mem_cons_of_mem _ hd)
  omega
section
variable {ok : Addr -> Prop} {σ : St} {H0 : Hp}
end
section
variable {X : Cx} {a : Expr} {ta : TE}
def trq (ob : Option HO) (H : Hp) (Q : Bool -> Hp -> Prop) : Prop := match ob with
 | some (.lst xs) => Q (!xs.isEmpty) H
 | some (.tup xs) => Q (!xs.isEmpty) H
 | _ => False
def Zo (x : V) (H : Hp) (Q : Bool -> Hp -> Prop) : Prop := match x with
 | .ref p => trq (H p) H Q
 | .bl b => Q b H
 | .int i => Q (i != 0) H
 | .non => Q false H
 | _ => False
def aas (te : TE) : TT := fun σ H Q => te σ H fun x H1 => Zo x H1 Q
theorem Hf (te : TE) (σ : St) (H : Hp) (Q : Bool -> Hp -> Prop) : aas te σ H Q = te σ H fun x H1 => Zo x H1 Q := rfl
end
def rd6 := And.intro @Hf @Hf
structure RowS (ss : List (Int × Int × Int)) : Prop where
 lh : ∀ (i : Nat) s, ss[i]? = some s -> s.1 <= s.2.1 /\ 0 <= s.2.2 /\ s.2.2 <= 9
 nx : ∀ (i : Nat) s t, ss[i]? = some s -> ss[i + 1]? = some t -> t.1 = s.2.1 + 1
 bd : ∀ (i : Nat) s, ss[i]? = some s -> -(10 ^ 12) <= s.1 /\ s.2.1 <= 10 ^ 9 + (10 ^ 12 + 10) * (i + 1)
section
variable {κ : Type} [DecidableEq κ]
def qG (kvs : List (κ × V)) (k : κ) : Option V := (kvs.find? fun kv => decide (kv.1 = k)).map (·.2)
def putK (kvs : List (κ × V)) (k : κ) (v : V) : List (κ × V) :=
 if (kvs.any fun kv => decide (kv.1 = k)) = true then kvs.map (fun kv => if kv.1 = k then (kv.1, v) else kv) else kvs ++ [(k, v)]
theorem BZ {p : κ × V} {r : List (κ × V)} {k : κ} (e : p.1 = k) : qG (p :: r) k = some p.2 := by simp [qG, List.find?_cons, e]
theorem Ca {p : κ × V} {r : List (κ × V)} {k : κ} (e : ¬ p.1 = k) : qG (p :: r) k = qG r k := by simp [qG, List.find?_cons, e]
theorem Dv (kvs : List (κ × V)) (k : κ) (v : V) : (putK kvs k v).length <= kvs.length + 1 := by
 unfold putK
 split
 ·rw [List.length_map]; omega
 ·rw [List.length_append, List.length_cons, List.length_nil]; omega
theorem KV.val {kvs : List (κ × V)} {vs : List (κ × Value)} (r : KV kvs vs) (k : κ) : yL (qG kvs k) (valueAt vs k) := by
 unfold KV at r
 induction r with
 | nil => exact True.intro
 | @cons p q ps qs h t ih =>
  obtain ⟨h1, h2⟩ := h
  by_cases e : p.1 = k
  ·have e' : q.1 = k := h1.symm.trans e
   have b : valueAt (q :: qs) k = some q.2 := by simp [valueAt, List.find?_cons, e']
   rw [BZ e, b]; exact h2
  ·have e' : ¬ q.1 = k := fun z => e (h1.trans z)
   have b : valueAt (q :: qs) k = valueAt qs k := by simp [valueAt, List.find?_cons, e']
   rw [Ca e, b]; exact ih
theorem KV.any {kvs : List (κ × V)} {vs : List (κ × Value)} (r : KV kvs vs) (k : κ) : (kvs.any fun kv => decide (kv.1 = k)) = vs.any fun kv => decide (kv.1 = k) := by
 unfold KV at r
 induction r with
 | nil => rfl
 | cons h t ih => rw [List.any_cons, List.any_cons, ih, h.1]
theorem KV.repl {kvs : List (κ × V)} {vs : List (κ × Value)} (r : KV kvs vs) (k : κ) {y : V} {u : Value} (ry : RelV y u) :
  KV (kvs.map fun kv => if kv.1 = k then (kv.1, y) else kv) (vs.map fun kv => if kv.1 = k then (kv.1, u) else kv) := by
 unfold KV at r |-
 induction r with
 | nil => exact .nil
 | @cons p q ps qs h t ih =>
  rw [List.map_cons, List.map_cons]
  refine .cons ?_ ih
  obtain ⟨h1, h2⟩ := h
  by_cases e : p.1 = k
  ·rw [if_pos e, if_pos (h1.symm.trans e)]; exact ⟨h1, ry⟩
  ·rw [if_neg e, if_neg (fun z => e (h1.trans z))]; exact ⟨h1, h2⟩
theorem KV.put {kvs : List (κ × V)} {vs : List (κ × Value)} (r : KV kvs vs) (k : κ) {y : V} {u : Value} (ry : RelV y u) : KV (putK kvs k y) (stored vs k u) := by
 unfold putK stored
 rw [r.any k]
 by_cases e : (vs.any fun kv => decide (kv.1 = k)) = true
 ·rw [if_pos e, if_pos e]; exact r.repl k ry
 ·rw [if_neg e, if_neg e]; exact Paired.snoc r ⟨rfl, ry⟩
end
theorem Qm {P : Program} {w : World} {k : Key} {u : Value} (r : RelV (kV k) u) : (eV P w).is k u = true := by
 cases k with
 | inl i => obtain ⟨t, e⟩ := (show ∃ t, u = Value.int i t from r); subst e; exact Du P w i t
 | inr x => obtain ⟨t, e⟩ := (show ∃ t, u = Value.str x t from r); subst e; exact Dt P w x t
theorem zH {P : Program} {w : World} : ∀ {ks : List Key} {us : List Value}, Vals (ks.map kV) us -> ItemsAre (eV P w) ks us
 | [], _, r => by rw [List.map_nil] at r; cases r; exact .nil
 | k :: ks, _, r => by
  rw [List.map_cons] at r
  cases r with
  | cons h t => exact .cons (Qm h) (zH t)
abbrev KT (H : Hp) : List (List Key × V) -> List (List Key × Addr × Value) -> Prop := Paired fun p q => p.1 = q.1 /\ H q.2.1 = some (.tup (p.1.map kV)) /\ RelV p.2 q.2.2
theorem KT.val {H : Hp} {kvs : List (List Key × V)} {xs : List (List Key × Addr × Value)} (r : KT H kvs xs) (k : List Key) : yL (qG kvs k) ((atKey xs k).map (·.2)) := by
 induction r with
 | nil => exact True.intro
 | @cons p q ps qs h t ih =>
  obtain ⟨h1, _, h2⟩ := h
  by_cases e : p.1 = k
  ·have e' : q.1 = k := h1.symm.trans e
   have b : atKey (q :: qs) k = some q.2 := by simp [atKey, List.find?_cons, e']
   rw [BZ e, b]; exact h2
  ·have e' : ¬ q.1 = k := fun z => e (h1.trans z)
   have b : atKey (q :: qs) k = atKey qs k := by simp [atKey, List.find?_cons, e']
   rw [Ca e, b]; exact ih
section
variable {P : Program} {w : World} {H : Hp} {h : Heap} {a : Addr}
theorem WD {u : HO} (ok : HOk P w H h) (e : Rd H a u) : cQ P w H h a u := e.ok ok
theorem Ro {kvs : List (Key × V)} (ok : HOk P w H h) (e : Rd H a (.dK kvs)) : kvs.length <= sizeLine /\ (a == sysModules) = false /\ ∃ vs, KV kvs vs /\ h.DictOf (eV P w) a vs :=
 show cQ P w H h a (.dK kvs) from WD ok e
theorem aam {kvs : List (Key × V)} (ok : HOk P w H h) (e : H a = some (.dK kvs)) : kvs.length <= sizeLine /\ (a == sysModules) = false /\ ∃ vs, KV kvs vs /\ h.DictOf (eV P w) a vs := Ro ok (.inl e)
theorem Qk {ks : List Key} (ok : HOk P w H h) (e : H a = some (.tup (ks.map kV))) : (tupleKind (eV P w)).is h ks a := by
 obtain ⟨_, its, r, o, h1, h2, n, h3⟩ := (show cQ P w H h a (.tup (ks.map kV)) from ok a _ e)
 exact ⟨o, its.toArray, n, h1, h2, h3, by simpa using zH r⟩
theorem WQ {kvs : List (List Key × V)} (ok : HOk P w H h) (e : Rd H a (.dT kvs)) : kvs.length <= sizeLine /\ (a == sysModules) = false /\
  ∃ xs, KT H kvs xs /\ h.DictOfH (tupleKind (eV P w)) a xs := by
 obtain ⟨z, y, xs, r, o, es, ep, h1, h2, h3, h4, h5⟩ := (show cQ P w H h a (.dT kvs) from WD ok e)
 refine ⟨z, y, xs, r, o, es, ep, h1, h2, h3, h4, fun x hx => ?_, h5⟩
 have all : ∀ {l : List (List Key × V)} {m : List (List Key × Addr × Value)}, KT H l m -> ∀ x ∈ m, (tupleKind (eV P w)).is h x.1 x.2.1 := by
  intro l m q
  induction q with
  | nil => intro x hx; exact nomatch hx
  | @cons p q ps qs hq t ih =>
   intro x hx
   rcases List.mem_cons.mp hx with e | hx
   ·subst e
    exact Qk ok (by rw [<- hq.1]; exact hq.2.1)
   ·exact ih x hx
 exact all r x hx
end
def yM (H : Hp) (a : Addr) (y : V) (r : Option V) : Prop :=
 (∃ kvs k, Rd H a (.dK kvs) /\ y = kV k /\ r = qG kvs k) \/ ∃ kvs k b, Rd H a (.dT kvs) /\ y = .ref b /\ H b = some (.tup (k.map kV)) /\ r = qG kvs k
theorem yM.k {H : Hp} {a : Addr} {kvs : List (Key × V)} {k : Key} (e : H a = some (.dK kvs)) : yM H a (kV k) (qG kvs k) := .inl ⟨kvs, k, .inl e, rfl, rfl⟩
section
variable {X : Cx} {pins : List (Addr × Obj)} {σ : St} {H : Hp} {s : Shared} {a : Addr} {y v : V} {u r : Value} {o : Option V} {A : Around} {E : Value -> Shared -> Prop}
theorem Inv.big (I : Inv X pins σ H s) : sysModules < s.heap.objs.size := by
 have h : mainGlobals < s.heap.objs.size := (I.mod.glob.keeps I.bk).lt
 exact Nat.lt_trans (by decide) h
theorem KR {Q : Value -> Shared -> Prop} (hu : A.units + 1 < cLine) (I : Inv X pins σ H s) (g : yM H a y (some v)) (ry : RelV y u) (h : ∀ w' s', Inv X pins σ H s' -> RelV v w' -> Q w' s') :
  wpAny (model X.prog X.w) A (getItem (.ref a) u) Q E s := by
 rcases g with ⟨kvs, k, e, ey, l⟩ | ⟨kvs, k, b, e, ey, eb, l⟩
 ·subst ey
  obtain ⟨z, hd, vs, rel, dd⟩ := Ro I.hok e
  obtain ⟨w', hw, rw'⟩ := yL.some_of (v := v) (o := valueAt vs k) (by rw [l]; exact rel.val k)
  exact wpAny_getItem_of (Qm ry) dd.mapOf hw (h w' _ (I.tok _) rw')
 ·subst ey
  cases (show u = Value.ref b from ry)
  obtain ⟨z, hd, xs, rel, dd⟩ := WQ I.hok e
  obtain ⟨w', hw, rw'⟩ := yL.some_of (v := v) (o := (atKey xs k).map (·.2)) (by rw [l]; exact rel.val k)
  obtain ⟨p, hp, hp2⟩ := Option.map_eq_some_iff.mp hw
  refine wpAny_getItem_heap (tupleKind_room_in1 hu) (Qk I.hok eb) dd hp ?_
  rw [hp2]
  exact h w' _ (I.tok _) rw'
theorem Wa {h' : Heap} {t' : Nat} {ob : HO} (I : Inv X pins σ H s) (mu : Mut (H a)) (hs : Heap.SameBut a s.heap h') (he : ∃ q, h'.get? a = some q) (new : cQ X.prog X.w (upd H a ob) h' a ob) :
  Inv X pins σ (upd H a ob) { s with heap := h', toks := t' } :=
 I.write (x := a) (e := a) mu (.inl rfl) (fun b q hb z => (hs.2 b hb).trans z) he new
theorem Y9 {P : Program} {w : World} {H' : Hp} {h' : Heap} {kvs : List (Key × V)} {vs : List (Key × Value)} (z : kvs.length <= sizeLine) (hd : (a == sysModules) = false) (rel : KV kvs vs) (dd : h'.DictOf (eV P w) a vs) :
  cQ P w H' h' a (.dK kvs) := ⟨z, hd, vs, rel, dd⟩
end
section
variable {X : Cx} {pins : List (Addr × Obj)} {σ : St} {H : Hp} {s : Shared} {a : Addr} {kvs : List (Key × V)} {k : Key} {u : Value} {A : Around} {E : Value -> Shared -> Prop}
end
def Zi (i : Expr) : Prop := ∀ ov iv, subscripted i false ov iv = operate [ov, iv] (getItem ov iv)
theorem Sg {prog : Program} {w : World} {A : Around} {E : Value -> Shared -> Prop} {s : Shared} {env : Env} {value slice : Expr} {pos : Pos} {T id : String} {Q : Value -> Shared -> Prop}
  (hl : typeLookup (.type T) "__getitem__" = pure (some (.builtin id))) (hs : Zi slice)
  (h : wpAny (model prog w) A (eval value env) (fun o s₁ => wpAny (model prog w) A (eval slice env) (fun i s₂ => s₂.TypeIs o T /\ wpAny (model prog w) A (getItem o i) Q E s₂) E s₁) E s) :
  wpAny (model prog w) A (eval (.Subscript value slice pos) env) Q E s := by
 refine Subscript_ (wpAny_mono h (fun o s₁ h₁ => wpAny_mono h₁ (fun i s₂ h₂ => ?_) fun _ _ x => x) fun _ _ x => x)
 obtain ⟨hT, h₂⟩ := h₂
 unfold subscriptTail
 refine wpAny_bind ?_
 rw [getitemInPython_of_ne hT.not_modules]
 refine wpAny_bind (wpAny_specialOf hT hl ?_)
 have fin : wpAny (model prog w) A (subscripted slice false o i) (fun r s₃ => wpAny (model prog w) A (letTemporaryGo value o r >>= fun _ => pure r) Q E s₃) E s₂ := by
  rw [hs o i]
  exact wpAny_operating (wpAny_mono h₂ (fun r s₃ h₃ => wpAny_bind (wpAny_letTemporaryGo (wpAny_pure h₃))) fun _ _ x => x)
 first
  | exact wpAny_pure (wpAny_bind fin)
  | exact wpAny_bind (wpAny_pure (wpAny_bind fin))
  | exact wpAny_bind fin
theorem DW {X : Cx} {pins : List (Addr × Obj)} {σ : St} {H : Hp} {s : Shared} {a : Addr} {y : V} {o : Option V} (I : Inv X pins σ H s) (g : yM H a y o) : s.TypeIs (.ref a) "dict" := by
 rcases g with ⟨kvs, k, e, _, _⟩ | ⟨kvs, k, b, e, _, _, _⟩
 ·obtain ⟨_, _, vs, _, dd⟩ := Ro I.hok e
  exact dd.typeIs
 ·obtain ⟨_, _, xs, _, dd⟩ := WQ I.hok e
  exact dd.typeIs
def Zr (td ty : TE) : TE := fun σ H Q => td σ H fun x H1 => ty σ H1 fun y H2 => ∃ a v, x = .ref a /\ yM H2 a y (some v) /\ Q v H2
section
variable {X : Cx} {o i e value : Expr} {pos pos' tpos : Pos} {td ty tv : TE}
theorem UG (hu : X.A.units + 1 < cLine) (ho : PE X o td) (hi : PE X i ty) (hs : Zi i) : PE X (.Subscript o i pos) (Zr td ty) := by
 intro pins s σ H Q I h
 refine Sg PySem.F.slot_dict_getitem.lookup hs (thE (ho pins s σ H _ I h) fun u s1 x H1 I1 rx q1 => thn (hi pins s1 σ H1 _ I1 q1) fun iv s2 ⟨y, H2, I2, ry, a, v, ex, g, q2⟩ => ?_)
 subst ex
 obtain rfl : u = Value.ref a := rx
 exact ⟨DW I2 g, KR hu I2 g ry fun w' s3 I3 rw' => ⟨v, H2, I3, rw', q2⟩⟩
end
theorem Rp {P : Program} {w : World} {H : Hp} (h : Heap) (hb : sysModules < h.objs.size) : cQ P w H (h.push { cls := .type "dict", data := .dict #[] }) h.objs.size (.dK []) :=
 ⟨Nat.zero_le _, beq_eq_false_iff_ne.mpr (Ne.symm (Nat.ne_of_lt hb)), [], .nil, Heap.DictOf.new h⟩
section
variable {X : Cx} {pos : Pos}
end
def vP : List (TE × TE) -> St -> Hp -> (List (V × V) -> Hp -> Prop) -> Prop
 | [], _, H, Q => Q [] H
 | (tk, tv) :: r, σ, H, Q => tk σ H fun x H1 => tv σ H1 fun y H2 => vP r σ H2 fun ps H3 => Q ((x, y) :: ps) H3
abbrev VV : List (V × V) -> List (Value × Value) -> Prop := Paired fun p q => RelV p.1 q.1 /\ RelV p.2 q.2
def PPs (X : Cx) (pos : Pos) (keys : List (Option Expr)) (values : List Expr) (trs : List (TE × TE)) : Prop :=
 ∀ (pins : List (Addr × Obj)) (s : Shared) (σ : St) (H : Hp) (Q : List (V × V) -> Hp -> Prop), Inv X pins σ H s -> vP trs σ H Q ->
  wpAny (model X.prog X.w) X.A (evalPairs (pairTrees keys values X.env pos)) (fun vs s' => ∃ ps H', Inv X pins σ H' s' /\ VV ps vs /\ Q ps H') X.xe s
theorem Uk {X : Cx} {pos : Pos} : PPs X pos [] [] [] := fun pins s σ H Q I h => pairTrees_nil_walk ⟨[], H, I, .nil, h⟩
theorem Om {X : Cx} {pos : Pos} {k v : Expr} {ks : List (Option Expr)} {vs : List Expr} {tk tv : TE} {trs : List (TE × TE)} (hk : PE X k tk) (hv : PE X v tv) (hr : PPs X pos ks vs trs) :
  PPs X pos (some k :: ks) (v :: vs) ((tk, tv) :: trs) := fun pins s σ H Q I h =>
 pairTrees_cons_walk (thE (hk pins s σ H _ I h) fun u s1 x H1 I1 rx q1 => thE (hv pins s1 σ H1 _ I1 q1) fun w2 s2 y H2 I2 ry q2 =>
  thn (hr pins s2 σ H2 _ I2 q2) fun ws s3 ⟨ps, H3, I3, rel, q3⟩ => ⟨(x, y) :: ps, H3, I3, .cons ⟨rx, ry⟩ rel, q3⟩)
def jr (kvs more : List (Key × V)) : List (Key × V) := more.foldl (fun acc kv => putK acc kv.1 kv.2) kvs
theorem KV.merge : ∀ {more : List (Key × V)} {rs : List (Key × Value)} {kvs : List (Key × V)} {vs : List (Key × Value)}, KV more rs -> KV kvs vs -> KV (jr kvs more) (merged vs rs) := by
 intro more rs kvs vs r
 unfold KV at r
 induction r generalizing kvs vs with
 | nil => intro q; exact q
 | @cons p q ps qs h t ih =>
  intro r0
  have e : KV (putK kvs p.1 p.2) (stored vs q.1 q.2) := by
   have := r0.put p.1 h.2
   rw [<- h.1]; exact this
  exact ih e
theorem qC : ∀ (more kvs : List (Key × V)), (jr kvs more).length <= kvs.length + more.length
 | [], kvs => by show kvs.length <= kvs.length + 0; omega
 | p :: r, kvs => by
  have h1 := qC r (putK kvs p.1 p.2)
  have h2 := Dv kvs p.1 p.2
  show (jr (putK kvs p.1 p.2) r).length <= _
  rw [List.length_cons]; omega
theorem xR {P : Program} {w : World} : ∀ {kvs : List (Key × V)} {ws : List (Value × Value)}, VV (kvs.map fun kv => (kV kv.1, kv.2)) ws -> ∃ rs, Carries (eV P w) ws rs /\ KV kvs rs
 | [], _, r => by rw [List.map_nil] at r; cases r; exact ⟨[], True.intro, .nil⟩
 | p :: kvs, _, r => by
  rw [List.map_cons] at r
  cases r with
  | @cons a b as bs h t =>
   obtain ⟨rs, c, q⟩ := xR (P := P) (w := w) t
   obtain ⟨b1, b2⟩ := b
   exact ⟨(p.1, b2) :: rs, ⟨Qm h.1, rfl, c⟩, .cons ⟨rfl, h.2⟩ q⟩
def Mf (trs : List (TE × TE)) : TE := fun σ H Q => ∀ p, H p = none -> vP trs σ (upd H p (.dK [])) fun ps H2 => H2 p = some (.dK []) /\ ∃ kvs : List (Key × V), ps = kvs.map (fun kv => (kV kv.1, kv.2)) /\ kvs.length <= 15 /\ Q (.ref p) (upd H2 p (.dK (jr [] kvs)))
theorem Uz {X : Cx} {pos : Pos} {keys : List (Option Expr)} {values : List Expr} {trs : List (TE × TE)} (h : PPs X pos keys values trs) (hall : keys.all (·.isSome) = true) (hl : keys.length = values.length) (h0 : keys ≠ [])
  (h15 : keys.length <= 15) : PE X (.Dict keys values pos) (Mf trs) := by
 intro pins s σ H Q I q
 have hn := I.hok.fresh (Nat.le_refl s.heap.objs.size)
 have I1 := I.laid (a := s.heap.objs.size) (o := .dK []) (h' := s.heap.push { cls := .type "dict", data := .dict #[] }) (t' := s.toks) (fun _ _ q => Heap.get?_push_of_some _ q) (Nat.le_refl _) (Rp s.heap I.big)
 refine wpAny_Dict_walk (knd := eV X.prog X.w) hall hl h0 h15 (thn (h pins _ σ _ _ I1 (q _ hn)) fun ws s2 ⟨ps, H2, I2, rel, e, kvs, ep, lk, q2⟩ => ?_)
 subst ep
 obtain ⟨rs, c, rk⟩ := xR (P := X.prog) (w := X.w) rel
 obtain ⟨z, hd, vs0, r0, dd⟩ := aam I2.hok e
 cases r0
 refine ⟨rs, c, dd, fun h' dd' hs => ⟨.ref s.heap.objs.size, _, ?_, rfl, q2⟩⟩
 have hz : (jr [] kvs).length <= sizeLine := by
  have h1 := qC kvs []
  rw [List.length_nil] at h1
  rw [sizeLine_eq]; omega
 have he : ∃ q, h'.get? s.heap.objs.size = some q := let ⟨q, _, _, hq, _⟩ := dd'; ⟨q, hq⟩
 exact Wa I2 (by rw [e]; exact True.intro) hs he (Y9 hz hd (rk.merge .nil) dd')
section
variable {X : Cx} {pins : List (Addr × Obj)} {σ : St} {H : Hp} {s : Shared} {a : Addr} {y d : V} {u r : Value} {o : Option V} {A : Around} {E : Value -> Shared -> Prop}
end
section
variable {X : Cx} {o e f : Expr} {apos cpos : Pos} {td ty tx : TE}
end
section
variable {X : Cx} {pins : List (Addr × Obj)} {σ : St} {H : Hp} {s : Shared} {a : Addr} {kvs : List (Key × V)} {A : Around} {E : Value -> Shared -> Prop}
end
section
variable {X : Cx} {pins : List (Addr × Obj)} {σ : St} {H : Hp} {s : Shared} {a : Addr} {y : V} {u : Value} {A : Around} {E : Value -> Shared -> Prop}
end
theorem gB.W3 {k : Nat} {A : Around} (r : gB k A) : A.units + 1 < cLine := by have := r.un; omega
theorem gB.un1 {k : Nat} {A : Around} (r : gB k A) : A.in1.units < cLine := by
 have := r.un
 show A.units + 1 < cLine
 omega
section
variable {X : Cx} {pos : Pos}
structure QPs (X : Cx) (pos : Pos) (keys : List (Option Expr)) (values : List Expr) (trs : List (TE × TE)) : Prop where
 h : PPs X pos keys values trs
theorem TY : QPs X pos [] [] [] := ⟨Uk⟩
theorem v8 {k v : Expr} {ks : List (Option Expr)} {vs : List Expr} {tk tv : TE} {trs : List (TE × TE)} (hk : QE X k tk) (hv : QE X v tv) (hr : QPs X pos ks vs trs) : QPs X pos (some k :: ks) (v :: vs) ((tk, tv) :: trs) := ⟨Om hk.h hv.h hr.h⟩
theorem T7 {keys : List (Option Expr)} {values : List Expr} {trs : List (TE × TE)} (h : QPs X pos keys values trs) (hall : keys.all (·.isSome) = true) (hl : keys.length = values.length) (h0 : keys ≠ []) (h15 : Nat.ble keys.length 15 = true) : QE X (.Dict keys values pos) (Mf trs) := ⟨Uz h.h hall hl h0 (Nat.le_of_ble_eq_true h15)⟩
end
def MN (w : Str) : List Int -> Bool
 | [a] => decide (w = "pick") && decide (0 <= a)
 | [_, _] => decide (w = "is") || decide (w = "below")
 | [a, b, _] => decide (w = "within") && decide (a <= b)
 | [_, wd, bits, _] => decide (w = "mask") && ((decide (1 <= wd) && decide (wd <= 64)) && (decide (0 <= bits) && decide (bits < 2 ^ wd.toNat)))
 | _ => false
def WL (is : List Int) : List Int := match is.getLast? with
 | some t => [t]
 | none => []
def Q7 (w : Str) (is : List Int) : List Int := if w = "pick" then [] else WL is
def btw (own many : Int) (t : Int) : Bool := decide (own < t) && decide (t < many)
theorem aM.ints {ok : Addr -> Prop} {H : Hp} : ∀ {xs : List V} {is : List Int}, aM ok H xs (is.map PyData.int) -> xs = is.map V.int
 | _, [], .nil => rfl
 | _, i :: is, .cons h r => by
  cases h
  rw [r.ints]
  rfl
def rd7 := And.intro @Mf.eq_1 (And.intro @vP.eq_1 @vP.eq_2)
theorem Gq {w : Str} {is : List Int} {t : Int} (h : w ≠ "pick") (hl : is.getLast? = some t) : Q7 w is = [t] := by
 unfold Q7 WL
 rw [if_neg h, hl]
theorem aal {K : PySem.W.Frag} {a : Addr} {xs : List V} {g : TG} {tb : TS} {D : Ends} {σ : St} {H : Hp} {R : It -> Hp -> Prop} (hR : R = (fun J H1 => ∃ W : Nat -> Nat -> St -> Hp -> Prop, (∃ m, W 0 m σ H1) /\ ∀ i m σ H, W i m σ H ->
  (J.stop i H /\ D.nx σ H) \/ (J.go i H /\ ∃ N : St -> Hp -> Prop, (∀ σ' H', N σ' H' -> ∃ m', m' < m /\ W (i + 1) m' σ' H') /\ ∀ x H', J.yld i H x H' -> g x σ H' fun σ2 H2 => tb { D with nx := N, ct := N, bk := D.nx } σ2 H2)))
  (Pv : Nat -> St -> Hp -> Prop) (h0 : Pv 0 σ H) (hl : ∀ i σ H, Pv i σ H -> H a = some (.lst xs))
  (hs : ∀ (i : Nat) x σ H p, xs[i]? = some x -> Pv i σ H -> H p = none -> g (.ref p) σ (upd H p (.tup [.int (i : Nat), x])) fun σ2 H2 => tb { D with nx := Pv (i + 1), ct := Pv (i + 1), bk := D.nx } σ2 H2) (hd : ∀ σ H, Pv xs.length σ H -> D.nx σ H) : R (Ite K a) H := by
 refine GK hR xs.length Pv h0 (fun i σ H hi p => ?_) (fun σ H p => ?_) (fun i σ H x H3 hi p y => ?_) hd
 ·exact ⟨xs, _, SqL.of (hl i σ H p), List.getElem?_eq_getElem hi⟩
 ·exact ⟨xs, SqL.of (hl _ σ H p), List.getElem?_eq_none (Nat.le_refl _)⟩
 ·obtain ⟨q, x1, rfl, hq, rfl, hx⟩ := y
  exact hs i x1 σ H q (hx _ (SqL.of (hl i σ H p))) p hq
theorem Same.none {H H' : Hp} (s : Same H H') {p : Addr} (h : H' p = none) : H p = none := by
 cases e : H p with
 | none => rfl
 | some o => rw [s _ _ e] at h; cases h
inductive aaN where
 | ins (w : Str) (is : List Int)
 | tab (n : Int) (gs : List Int)
def aaq (many own : Int) : aaN -> Prop
 | .ins w is => w ≠ "table" /\ MN w is = true /\ (Q7 w is).all (btw own many) = true /\ (∀ i ∈ is, i.natAbs <= 2 ^ 64) /\ is.length <= 4 /\ w.length <= 10
 | .tab n gs => gs ≠ [] /\ gs.length <= 200 /\ gs.all (btw own many) = true /\ n.natAbs <= 1000
mutual
def szB : PyData -> Bool
 | .none => true
 | .bool _ => true
 | .int i => decide (i.natAbs <= 10 ^ 20)
 | .str x => decide (x.length <= 30) && x.cps.toList.all fun c => decide (c < 16 ^ 8)
 | .list ds => decide (ds.length <= 210) && Xg ds
 | .tuple ds => decide (ds.length <= 210) && Xg ds
 | .dict _ => false
def Xg : List PyData -> Bool
 | [] => true
 | d :: ds => szB d && Xg ds
end
theorem WM {K : PySem.W.Frag} {a : Addr} {xs : List V} {g : TG} {tb : TS} {D : Ends} {σ : St} {H : Hp} {R : It -> Hp -> Prop} (hR : R = (fun J H1 => ∃ W : Nat -> Nat -> St -> Hp -> Prop, (∃ m, W 0 m σ H1) /\ ∀ i m σ H, W i m σ H ->
  (J.stop i H /\ D.nx σ H) \/ (J.go i H /\ ∃ N : St -> Hp -> Prop, (∀ σ' H', N σ' H' -> ∃ m', m' < m /\ W (i + 1) m' σ' H') /\ ∀ x H', J.yld i H x H' -> g x σ H' fun σ2 H2 => tb { D with nx := N, ct := N, bk := D.nx } σ2 H2)))
  (Pv : Nat -> St -> Hp -> Prop) (h0 : Pv 0 σ H) (hl : ∀ i σ H, Pv i σ H -> H a = some (.tup xs))
  (hs : ∀ i x σ H, xs[i]? = some x -> Pv i σ H -> g x σ H fun σ2 H2 => tb { D with nx := Pv (i + 1), ct := Pv (i + 1), bk := D.nx } σ2 H2) (hd : ∀ σ H, Pv xs.length σ H -> D.nx σ H) : R (Itt K a) H := by
 refine GK hR xs.length Pv h0 (fun i σ H hi p => ?_) (fun σ H p => ?_) (fun i σ H x H3 hi p y => ?_) hd
 ·exact ⟨xs, _, SqT.of (hl i σ H p), List.getElem?_eq_getElem hi⟩
 ·exact ⟨xs, SqT.of (hl _ σ H p), Nat.le_refl _⟩
 ·obtain ⟨rfl, hx⟩ := y
  exact hs i x σ _ (hx _ (SqT.of (hl i σ _ p))) p
theorem vM {prog : Program} {w : World} {A : Around} {E : Value -> Shared -> Prop} {s : Shared} {z TI TO i1 i2 l1 l2 : Addr} {k1 k2 : Nat} {xs ys : Array Value} {x y a b : Value} {Q : Value -> Shared -> Prop} (D : ZipApart z TI TO i1 i2 l1 l2) (hz : IsZip s.heap z TI TO Value.none) (hTI : IsPair s.heap TI (Value.ref i1) (Value.ref i2)) (hTO : IsPair s.heap TO a b)
  (h1 : s.heap.IsTupleIter i1 l1 k1) (h2 : s.heap.IsTupleIter i2 l2 k2) (hl1 : s.heap.IsTuple l1 xs) (hl2 : s.heap.IsTuple l2 ys) (hx : xs[k1]? = some x) (hy : ys[k2]? = some y)
  (hQ : ∀ h' : Heap, IsZip h' z TI TO (rawInt s.heap.objs.size) -> IsPair h' TO x y -> h'.IsTupleIter i1 l1 (k1 + 1) -> h'.IsTupleIter i2 l2 (k2 + 1) -> IsPair h' s.heap.objs.size x y -> h'.objs.size = s.heap.objs.size + 1 -> (∀ c o, c ≠ z -> c ≠ TO -> c ≠ i1 -> c ≠ i2 -> s.heap.get? c = some o -> h'.get? c = some o) -> Q (Value.ref s.heap.objs.size) { s with heap := h' }) :
  wpAny (model prog w) A (Builtin.«zip.__next__» { pos := [Value.ref z] }) (fun fin s' => ∃ v, fin = Fin.done (Flow.ret v) /\ Q v s') E s := by
 show wpAny _ _ (field (Value.ref z) 2 >>= _) _ _ _
 refine wpAny_bind (wpAny_field hz rfl rfl ?_)
 show wpAny _ _ (field (Value.ref z) 3 >>= _) _ _ _
 refine wpAny_bind (wpAny_field hz rfl rfl ?_)
 refine wpAny_bind (wpAny_seqItems hTI rfl ?_)
 show wpAny _ _ (Builtin.SmallTypes.ownedTupleIsFree (Value.ref z) >>= _) _ _ _
 refine wpAny_bind ?_
 show wpAny _ _ (field (Value.ref z) 0 >>= _) _ _ _
 refine wpAny_bind (wpAny_field hz rfl rfl (wpAny_pure ?_))
 show wpAny _ _ (rule _ >>= _) _ _ _
 refine wpAny_bind (wpAny_rule (wpAny_bind (wpAny_field hz rfl rfl ?_)))
 show wpAny _ _ (setField (Value.ref z) 0 Value.ellipsis >>= _) _ _ _
 refine wpAny_bind (wpAny_setField_rec hz (Nat.lt_of_sub_pos (Nat.zero_lt_succ 4)) fun h₁ hz₁ hs₁ => ?_)
 have old1 : ∀ c o, c ≠ z -> s.heap.get? c = some o -> h₁.get? c = some o := fun c o hc e => (hs₁.2 c hc).trans e
 have h1a : h₁.IsTupleIter i1 l1 k1 := h1.at fun o e => old1 i1 o D.i1z e
 have h2a : h₁.IsTupleIter i2 l2 k2 := h2.at fun o e => old1 i2 o D.i2z e
 have tup : ∀ {h : Heap} {l : Addr} {vs : Array Value}, s.heap.IsTuple l vs -> (∀ o, s.heap.get? l = some o -> h.get? l = some o) -> h.IsTuple l vs := fun ⟨o, e, r⟩ k => ⟨o, k o e, r⟩
 refine wpAny_bind ?_
 show wpAny _ _ (forIn [(Value.ref i1, 0), (Value.ref i2, 1)] (none, ()) _) _ _ _
 rw [List.forIn_cons]
 refine wpAny_bind ?_
 show wpAny _ _ ((Sem.onRaise (Builtin.SmallTypes.nextOf (Value.ref i1) >>= fun v => pure (some v)) (fun _ => setField (Value.ref z) 0 Value.none)) >>= _) _ _ _
 refine wpAny_bind (wpAny_onRaise (wpAny_bind (iD (s := { s with heap := h₁ }) h1a (tup hl1 fun o e => old1 l1 o D.l1z e) hx fun h₂ h1b sb₂ => wpAny_pure ?_)))
 have old2 : ∀ c o, c ≠ z -> c ≠ i1 -> s.heap.get? c = some o -> h₂.get? c = some o := fun c o hc hc1 e => (sb₂.2 c hc1).trans (old1 c o hc e)
 have hTO2 : IsPair h₂ TO a b := old2 TO _ D.TOz D.TOi1 hTO
 show wpAny _ _ (seqItems? (Value.ref TO) >>= _) _ _ _
 refine wpAny_bind (wpAny_seqItems (s := { s with heap := h₂ }) hTO2 rfl ?_)
 show wpAny _ _ (updateSeq TO _ >>= _) _ _ _
 refine wpAny_bind (wpAny_updateSeq_pair (s := { s with heap := h₂ }) hTO2 fun h₃ g₃ sb₃ => ?_)
 refine wpAny_bind (wpAny_letGo (wpAny_pure ?_))
 show wpAny _ _ (forIn [(Value.ref i2, 1)] (none, ()) _) _ _ _
 rw [List.forIn_cons]
 refine wpAny_bind ?_
 have old3 : ∀ c o, c ≠ z -> c ≠ i1 -> c ≠ TO -> s.heap.get? c = some o -> h₃.get? c = some o := fun c o hc hc1 hc2 e => (sb₃.2 c hc2).trans (old2 c o hc hc1 e)
 have h2c : h₃.IsTupleIter i2 l2 k2 := h2.at fun o e => old3 i2 o D.i2z (Ne.symm D.i12) (Ne.symm D.TOi2) e
 have g₃' : IsPair h₃ TO x b := g₃
 show wpAny _ _ ((Sem.onRaise (Builtin.SmallTypes.nextOf (Value.ref i2) >>= fun v => pure (some v)) (fun _ => setField (Value.ref z) 0 Value.none)) >>= _) _ _ _
 refine wpAny_bind (wpAny_onRaise (wpAny_bind (iD (s := { s with heap := h₃ }) h2c (tup hl2 fun o e => old3 l2 o D.l2z D.l2i1 D.l2TO e) hy fun h₄ h2d sb₄ => wpAny_pure ?_)))
 have hTO4 : IsPair h₄ TO x b := (sb₄.2 TO D.TOi2).trans g₃'
 show wpAny _ _ (seqItems? (Value.ref TO) >>= _) _ _ _
 refine wpAny_bind (wpAny_seqItems (s := { s with heap := h₄ }) hTO4 rfl ?_)
 show wpAny _ _ (updateSeq TO _ >>= _) _ _ _
 refine wpAny_bind (wpAny_updateSeq_pair (s := { s with heap := h₄ }) hTO4 fun h₅ g₅ sb₅ => ?_)
 refine wpAny_bind (wpAny_letGo (wpAny_pure ?_))
 have g₅' : IsPair h₅ TO x y := g₅
 show wpAny _ _ (forIn [] (none, ()) _) _ _ _
 rw [List.forIn_nil]
 refine wpAny_pure ?_
 show wpAny _ _ (seqItems? (Value.ref TO) >>= _) _ _ _
 refine wpAny_bind (wpAny_seqItems (s := { s with heap := h₅ }) g₅' rfl ?_)
 show wpAny _ _ (newTuple [x, y] >>= _) _ _ _
 refine wpAny_bind (wpAny_newTuple ?_ (by show 2 <= sizeLine; decide))
 have sz : h₅.objs.size = s.heap.objs.size := by
  rw [sb₅.1, sb₄.1, sb₃.1, sb₂.1, hs₁.1]
 have z5 : h₅.get? z = _ := (sb₅.2 z (Ne.symm D.TOz)).trans ((sb₄.2 z (Ne.symm D.i2z)).trans ((sb₃.2 z (Ne.symm D.TOz)).trans ((sb₂.2 z (Ne.symm D.i1z)).trans hz₁)))
 have z6 : (h₅.push { cls := Value.type "tuple", data := Data.seq #[x, y] }).get? z = _ := Heap.get?_push_of_some _ z5
 refine wpAny_bind ?_
 show wpAny _ _ (setField (Value.ref z) 0 (rawInt h₅.objs.size) >>= fun _ => setField (Value.ref z) 1 (Value.bool false)) _ _ _
 refine wpAny_bind (wpAny_setField_rec (s := { s with heap := h₅.push { cls := Value.type "tuple", data := Data.seq #[x, y] } }) z6 (Nat.lt_of_sub_pos (Nat.zero_lt_succ 4)) fun h₇ hz₇ hs₇ => ?_)
 refine wpAny_setField_rec (s := { s with heap := h₇ }) hz₇ (Nat.lt_of_sub_pos (Nat.zero_lt_succ 3)) fun h₈ hz₈ hs₈ => ?_
 have nzs : s.heap.objs.size ≠ z := fun q => by
  have := Heap.lt_size hz
  rw [<- q] at this
  exact Nat.lt_irrefl _ this
 have old6 : ∀ c o, h₅.get? c = some o -> (h₅.push { cls := Value.type "tuple", data := Data.seq #[x, y] }).get? c = some o := fun c o e => Heap.get?_push_of_some _ e
 have old8 : ∀ c o, c ≠ z -> h₅.get? c = some o -> h₈.get? c = some o := fun c o hc e => (hs₈.2 c hc).trans ((hs₇.2 c hc).trans (old6 c o e))
 have new8 : h₈.get? s.heap.objs.size = some { cls := Value.type "tuple", data := Data.seq #[x, y] } := by
  refine (hs₈.2 _ nzs).trans ((hs₇.2 _ nzs).trans ?_)
  show (h₅.push { cls := Value.type "tuple", data := Data.seq #[x, y] }).get? s.heap.objs.size = _
  rw [<- sz]
  exact Heap.get?_push_size _ rfl
 refine wpAny_pure ⟨_, rfl, ?_⟩
 rw [show (({ s with heap := h₅ } : Shared).heap.objs.size) = s.heap.objs.size from sz]
 refine hQ h₈ ?_ ?_ ?_ ?_ new8 ?_ ?_
 ·rw [sz] at hz₈
  exact hz₈
 ·exact old8 TO _ D.TOz g₅'
 ·refine h1b.at fun o e => old8 i1 o D.i1z ?_
  exact (sb₅.2 i1 (Ne.symm D.TOi1)).trans ((sb₄.2 i1 D.i12).trans ((sb₃.2 i1 (Ne.symm D.TOi1)).trans e))
 ·refine h2d.at fun o e => old8 i2 o D.i2z ?_
  exact (sb₅.2 i2 (Ne.symm D.TOi2)).trans e
 ·rw [hs₈.1, hs₇.1]
  show (h₅.push { cls := Value.type "tuple", data := Data.seq #[x, y] }).objs.size = _
  rw [Heap.size_push, sz]
 ·intro c o hc1 hc2 hc3 hc4 e
  exact old8 c o hc1 ((sb₅.2 c hc2).trans ((sb₄.2 c hc4).trans (old3 c o hc1 hc3 hc2 e)))
theorem mK {prog : Program} {w : World} {A : Around} {E : Value -> Shared -> Prop} {s : Shared} {z TI TO i1 i2 l1 l2 : Addr} {k1 k2 : Nat} {xs ys : Array Value} {x y a b : Value} {Q : Option Value -> Shared -> Prop} (D : ZipApart z TI TO i1 i2 l1 l2) (hz : IsZip s.heap z TI TO Value.none) (hTI : IsPair s.heap TI (Value.ref i1) (Value.ref i2)) (hTO : IsPair s.heap TO a b)
  (h1 : s.heap.IsTupleIter i1 l1 k1) (h2 : s.heap.IsTupleIter i2 l2 k2) (hl1 : s.heap.IsTuple l1 xs) (hl2 : s.heap.IsTuple l2 ys) (hx : xs[k1]? = some x) (hy : ys[k2]? = some y)
  (hQ : ∀ h' : Heap, IsZip h' z TI TO (rawInt s.heap.objs.size) -> IsPair h' TO x y -> h'.IsTupleIter i1 l1 (k1 + 1) -> h'.IsTupleIter i2 l2 (k2 + 1) -> IsPair h' s.heap.objs.size x y -> h'.objs.size = s.heap.objs.size + 1 -> (∀ c o, c ≠ z -> c ≠ TO -> c ≠ i1 -> c ≠ i2 -> s.heap.get? c = some o -> h'.get? c = some o) -> Q (some (Value.ref s.heap.objs.size)) { s with heap := h' }) :
  wpAny (model prog w) A (pyNext (Value.ref z)) Q E s := by
 have hT : ∃ o, s.heap.get? z = some o /\ o.cls = Value.type "zip" := ⟨_, hz, rfl⟩
 exact wpAny_bind (wpAny_attempt (wpAny_callSpecial?_slot hT F.slot_zip_next (wpAny_call_entry F.slot_zip_next hT F.entry_zip_next
  (vM D hz hTI hTO h1 h2 hl1 hl2 hx hy fun h' a1 a2 a3 a4 a5 a6 a7 => wpAny_pure (hQ h' a1 a2 a3 a4 a5 a6 a7)) (F.args_zip_next_1 (Value.ref z)))))
theorem xY {prog : Program} {w : World} {A : Around} {E : Value -> Shared -> Prop} {s : Shared} {z TI TO i1 i2 l1 l2 : Addr} {k1 k2 : Nat} {xs ys : Array Value} {a b : Value} {Q : PySem.Fin -> Shared -> Prop} (hh : A.handled = none) (D : ZipApart z TI TO i1 i2 l1 l2) (hz : IsZip s.heap z TI TO Value.none) (hTI : IsPair s.heap TI (Value.ref i1) (Value.ref i2)) (hTO : IsPair s.heap TO a b)
  (h1 : s.heap.IsTupleIter i1 l1 k1) (h2 : s.heap.IsTupleIter i2 l2 k2) (hl1 : s.heap.IsTuple l1 xs) (hl2 : s.heap.IsTuple l2 ys) (hend : xs[k1]? = none \/ ys[k2]? = none)
  (hE : ∀ (h' : Heap) (e : Addr), (∀ c o, c ≠ z -> c ≠ TO -> c ≠ i1 -> c ≠ i2 -> s.heap.get? c = some o -> h'.get? c = some o) -> (∃ o, h'.get? e = some o /\ o.cls = Value.type "StopIteration") -> E (Value.ref e) { s with heap := h' }) :
  wpAny (model prog w) A (Builtin.«zip.__next__» { pos := [Value.ref z] }) Q E s := by
 show wpAny _ _ (field (Value.ref z) 2 >>= _) _ _ _
 refine wpAny_bind (wpAny_field hz rfl rfl ?_)
 show wpAny _ _ (field (Value.ref z) 3 >>= _) _ _ _
 refine wpAny_bind (wpAny_field hz rfl rfl ?_)
 refine wpAny_bind (wpAny_seqItems hTI rfl ?_)
 show wpAny _ _ (Builtin.SmallTypes.ownedTupleIsFree (Value.ref z) >>= _) _ _ _
 refine wpAny_bind ?_
 show wpAny _ _ (field (Value.ref z) 0 >>= _) _ _ _
 refine wpAny_bind (wpAny_field hz rfl rfl (wpAny_pure ?_))
 show wpAny _ _ (rule _ >>= _) _ _ _
 refine wpAny_bind (wpAny_rule (wpAny_bind (wpAny_field hz rfl rfl ?_)))
 show wpAny _ _ (setField (Value.ref z) 0 Value.ellipsis >>= _) _ _ _
 refine wpAny_bind (wpAny_setField_rec hz (Nat.lt_of_sub_pos (Nat.zero_lt_succ 4)) fun h₁ hz₁ hs₁ => ?_)
 have old1 : ∀ c o, c ≠ z -> s.heap.get? c = some o -> h₁.get? c = some o := fun c o hc e => (hs₁.2 c hc).trans e
 have h1a : h₁.IsTupleIter i1 l1 k1 := h1.at fun o e => old1 i1 o D.i1z e
 have tup : ∀ {h : Heap} {l : Addr} {vs : Array Value}, s.heap.IsTuple l vs -> (∀ o, s.heap.get? l = some o -> h.get? l = some o) -> h.IsTuple l vs := fun ⟨o, e, r⟩ k => ⟨o, k o e, r⟩
 have out : ∀ {h : Heap} {e : Addr} {vs : Array Value}, h.get? z = some { cls := Value.type "zip", data := Data.fields vs } -> 0 < vs.size -> (∀ c o, c ≠ z -> c ≠ TO -> c ≠ i1 -> c ≠ i2 -> s.heap.get? c = some o -> h.get? c = some o) -> (∃ o, h.get? e = some o /\ o.cls = Value.type "StopIteration") ->
   wpAny (model prog w) A (setField (Value.ref z) 0 Value.none) (fun _ s'' => E (Value.ref e) s'') E { s with heap := h } := fun {h e vs} ez hv hk he => by
  refine wpAny_setField_rec (s := { s with heap := h }) ez hv fun h' _ hs => hE h' e (fun c o c1 c2 c3 c4 g => (hs.2 c c1).trans (hk c o c1 c2 c3 c4 g)) ?_
  obtain ⟨o, ho, hc⟩ := he
  refine ⟨o, (hs.2 e fun q => ?_).trans ho, hc⟩
  rw [q, ez] at ho
  cases ho
  injection hc with hc
  exact absurd hc (by decide)
 refine wpAny_bind ?_
 show wpAny _ _ (forIn [(Value.ref i1, 0), (Value.ref i2, 1)] (none, ()) _) _ _ _
 rw [List.forIn_cons]
 refine wpAny_bind ?_
 show wpAny _ _ ((Sem.onRaise (Builtin.SmallTypes.nextOf (Value.ref i1) >>= fun v => pure (some v)) (fun _ => setField (Value.ref z) 0 Value.none)) >>= _) _ _ _
 cases hx : xs[k1]? with
 | none =>
  refine wpAny_bind (wpAny_onRaise (wpAny_bind (lU (s := { s with heap := h₁ }) hh h1a (tup hl1 fun o e => old1 l1 o D.l1z e) hx fun h₂ e ext he => ?_)))
  exact out (h := h₂) (ext z _ (Ne.symm D.i1z) hz₁) (Nat.lt_of_sub_pos (Nat.zero_lt_succ 4)) (fun c o c1 c2 c3 c4 g => ext c o c3 (old1 c o c1 g)) he
 | some x =>
  have hy : ys[k2]? = none := by
   rcases hend with q | q
   ·rw [hx] at q; cases q
   ·exact q
  refine wpAny_bind (wpAny_onRaise (wpAny_bind (iD (s := { s with heap := h₁ }) h1a (tup hl1 fun o e => old1 l1 o D.l1z e) hx fun h₂ h1b sb₂ => wpAny_pure ?_)))
  have old2 : ∀ c o, c ≠ z -> c ≠ i1 -> s.heap.get? c = some o -> h₂.get? c = some o := fun c o hc hc1 e => (sb₂.2 c hc1).trans (old1 c o hc e)
  have hTO2 : IsPair h₂ TO a b := old2 TO _ D.TOz D.TOi1 hTO
  show wpAny _ _ (seqItems? (Value.ref TO) >>= _) _ _ _
  refine wpAny_bind (wpAny_seqItems (s := { s with heap := h₂ }) hTO2 rfl ?_)
  show wpAny _ _ (updateSeq TO _ >>= _) _ _ _
  refine wpAny_bind (wpAny_updateSeq_pair (s := { s with heap := h₂ }) hTO2 fun h₃ g₃ sb₃ => ?_)
  refine wpAny_bind (wpAny_letGo (wpAny_pure ?_))
  show wpAny _ _ (forIn [(Value.ref i2, 1)] (none, ()) _) _ _ _
  rw [List.forIn_cons]
  refine wpAny_bind ?_
  have old3 : ∀ c o, c ≠ z -> c ≠ i1 -> c ≠ TO -> s.heap.get? c = some o -> h₃.get? c = some o := fun c o hc hc1 hc2 e => (sb₃.2 c hc2).trans (old2 c o hc hc1 e)
  have h2c : h₃.IsTupleIter i2 l2 k2 := h2.at fun o e => old3 i2 o D.i2z (Ne.symm D.i12) (Ne.symm D.TOi2) e
  have z3 : h₃.get? z = _ := (sb₃.2 z (Ne.symm D.TOz)).trans ((sb₂.2 z (Ne.symm D.i1z)).trans hz₁)
  show wpAny _ _ ((Sem.onRaise (Builtin.SmallTypes.nextOf (Value.ref i2) >>= fun v => pure (some v)) (fun _ => setField (Value.ref z) 0 Value.none)) >>= _) _ _ _
  refine wpAny_bind (wpAny_onRaise (wpAny_bind (lU (s := { s with heap := h₃ }) hh h2c (tup hl2 fun o e => old3 l2 o D.l2z D.l2i1 D.l2TO e) hy fun h₄ e ext he => ?_)))
  exact out (h := h₄) (ext z _ (Ne.symm D.i2z) z3) (Nat.lt_of_sub_pos (Nat.zero_lt_succ 4)) (fun c o c1 c2 c3 c4 g => ext c o c4 (old3 c o c1 c3 c2 g)) he
theorem nG {prog : Program} {w : World} {A : Around} {E : Value -> Shared -> Prop} {s : Shared} {z TI TO i1 i2 l1 l2 : Addr} {k1 k2 : Nat} {xs ys : Array Value} {a b : Value} {Q : Option Value -> Shared -> Prop} (hh : A.handled = none) (D : ZipApart z TI TO i1 i2 l1 l2) (hz : IsZip s.heap z TI TO Value.none) (hTI : IsPair s.heap TI (Value.ref i1) (Value.ref i2)) (hTO : IsPair s.heap TO a b)
  (h1 : s.heap.IsTupleIter i1 l1 k1) (h2 : s.heap.IsTupleIter i2 l2 k2) (hl1 : s.heap.IsTuple l1 xs) (hl2 : s.heap.IsTuple l2 ys) (hend : xs[k1]? = none \/ ys[k2]? = none)
  (hQ : ∀ h' : Heap, (∀ c o, c ≠ z -> c ≠ TO -> c ≠ i1 -> c ≠ i2 -> s.heap.get? c = some o -> h'.get? c = some o) -> Q none { s with heap := h' }) : wpAny (model prog w) A (pyNext (Value.ref z)) Q E s := by
 have hT : ∃ o, s.heap.get? z = some o /\ o.cls = Value.type "zip" := ⟨_, hz, rfl⟩
 exact wpAny_bind (wpAny_attempt (wpAny_callSpecial?_slot hT F.slot_zip_next (wpAny_call_entry F.slot_zip_next hT F.entry_zip_next
  (xY hh D hz hTI hTO h1 h2 hl1 hl2 hend fun h' e hk he => by
   obtain ⟨o, ho, hc⟩ := he
   exact wpAny_bind (wpAny_isInstance ⟨o, ho, hc⟩ isSubtype_stop (wpAny_pure (hQ h' hk)))) (F.args_zip_next_1 (Value.ref z)))))
def tz1 (h : Heap) (l1 : Addr) : Heap := h.push { cls := Value.type "tuple_iterator", data := Data.fields #[Value.ref l1, Value.int 0 0] }
def tz2 (h : Heap) (l1 l2 : Addr) : Heap := (tz1 h l1).push { cls := Value.type "tuple_iterator", data := Data.fields #[Value.ref l2, Value.int 0 0] }
def tz3 (h : Heap) (l1 l2 : Addr) : Heap := (tz2 h l1 l2).push { cls := Value.type "tuple", data := Data.seq #[Value.ref h.objs.size, Value.ref (tz1 h l1).objs.size] }
def tz4 (h : Heap) (l1 l2 : Addr) : Heap := (tz3 h l1 l2).push { cls := Value.type "tuple", data := Data.seq #[Value.none, Value.none] }
def tz5 (h : Heap) (l1 l2 : Addr) : Heap := (tz4 h l1 l2).push { cls := Value.type "zip", data := Data.fields #[Value.none, Value.bool false, Value.bool false, Value.ref (tz2 h l1 l2).objs.size, Value.ref (tz3 h l1 l2).objs.size] }
theorem Lk (l1 l2 : Addr) (xs ys : Array Value) : Meets (Builtin.«zip.__new__» { pos := [Value.type "zip", Value.ref l1, Value.ref l2] }) fun _ R s =>
  s.heap.IsTuple l1 xs /\ s.heap.IsTuple l2 ys /\ R (.ok (.ret (.ref (tz4 s.heap l1 l2).objs.size))) { s with heap := tz5 s.heap l1 l2 } := by
 refine Meets.of_wp fun prog w A R s h => ?_
 obtain ⟨ht1, ht2, hR⟩ := h
 unfold Builtin.«zip.__new__» Builtin.SmallTypes.newClass
 refine wpAny_bind (wpAny_bind (wpAny_pure (wpAny_ite_false rfl (wpAny_bind (wpAny_of_eq sub_zip (wpAny_ite_false rfl (wpAny_pure ?_)))))))
 show wpAny _ _ (Builtin.SmallTypes.iterAll [Value.ref l1, Value.ref l2] >>= _) _ _ _
 refine wpAny_bind ?_
 unfold Builtin.SmallTypes.iterAll
 refine wpAny_bind ?_
 rw [List.forIn_cons]
 refine wpAny_bind (wpAny_bind (wpAny_holding (wpAny_pyIter_tuple ht1 (wpAny_pure ?_))))
 show wpAny _ _ (forIn [Value.ref l2] #[Value.ref s.heap.objs.size] _) _ _ _
 rw [List.forIn_cons]
 have ht2' : (tz1 s.heap l1).IsTuple l2 ys := by
  obtain ⟨o, e, r⟩ := ht2
  exact ⟨o, Heap.get?_push_of_some _ e, r⟩
 refine wpAny_bind (wpAny_bind (wpAny_holding (wpAny_pyIter_tuple (s := { s with heap := tz1 s.heap l1 }) ht2' (wpAny_pure ?_))))
 show wpAny _ _ (forIn [] #[Value.ref s.heap.objs.size, Value.ref (tz1 s.heap l1).objs.size] _) _ _ _
 rw [List.forIn_nil]
 refine wpAny_pure (wpAny_pure ?_)
 show wpAny _ _ (newTuple [Value.ref s.heap.objs.size, Value.ref (tz1 s.heap l1).objs.size] >>= _) _ _ { s with heap := tz2 s.heap l1 l2 }
 refine wpAny_bind (wpAny_newTuple ?_ (by show 2 <= sizeLine; decide))
 show wpAny _ _ (newTuple [Value.none, Value.none] >>= _) _ _ { s with heap := tz3 s.heap l1 l2 }
 refine wpAny_bind (wpAny_newTuple ?_ (by show 2 <= sizeLine; decide))
 show wpAny _ _ (newObj (.type "zip") (.fields #[.none, .bool false, .bool false, .ref (tz2 s.heap l1 l2).objs.size, .ref (tz3 s.heap l1 l2).objs.size]) >>= fun r => ret r) _ _ { s with heap := tz4 s.heap l1 l2 }
 refine wpAny_bind (wpAny_newObj_type ?_)
 exact wpAny_pure ⟨_, rfl, hR⟩
theorem Eb {prog : Program} {w : World} {A : Around} {E : Value -> Shared -> Prop} {s : Shared} {l1 l2 : Addr} {xs ys : Array Value} {Q : Value -> Shared -> Prop} (hl1 : s.heap.IsTuple l1 xs) (hl2 : s.heap.IsTuple l2 ys)
  (h : ∀ h' : Heap, IsZip h' (s.heap.objs.size + 4) (s.heap.objs.size + 2) (s.heap.objs.size + 3) Value.none -> IsPair h' (s.heap.objs.size + 2) (Value.ref s.heap.objs.size) (Value.ref (s.heap.objs.size + 1)) -> IsPair h' (s.heap.objs.size + 3) Value.none Value.none -> h'.IsTupleIter s.heap.objs.size l1 0 -> h'.IsTupleIter (s.heap.objs.size + 1) l2 0 ->
   h'.objs.size = s.heap.objs.size + 5 -> (∀ c o, s.heap.get? c = some o -> h'.get? c = some o) -> Q (Value.ref (s.heap.objs.size + 4)) { s with heap := h' }) : wpAny (model prog w) A (call (Value.type "zip") [Value.ref l1, Value.ref l2]) Q E s := by
 refine callType_new F.called_zip (by decide) (F.typeCall_zip_2 _ _) (F.newCall_zip_2 _ _) (fun obj => F.args_object_init_3 obj _ _) F.entry_zip_new (Lk l1 l2 xs ys) ⟨hl1, hl2, ?_⟩
 have z1 : (tz1 s.heap l1).objs.size = s.heap.objs.size + 1 := Heap.size_push ..
 have z2 : (tz2 s.heap l1 l2).objs.size = s.heap.objs.size + 2 := (Heap.size_push ..).trans (by rw [z1])
 have z3 : (tz3 s.heap l1 l2).objs.size = s.heap.objs.size + 3 := (Heap.size_push ..).trans (by rw [z2])
 have z4 : (tz4 s.heap l1 l2).objs.size = s.heap.objs.size + 4 := (Heap.size_push ..).trans (by rw [z3])
 have z5 : (tz5 s.heap l1 l2).objs.size = s.heap.objs.size + 5 := (Heap.size_push ..).trans (by rw [z4])
 have g5 : (tz5 s.heap l1 l2).get? (tz4 s.heap l1 l2).objs.size = _ := Heap.get?_push_size _ rfl
 have g4 : (tz5 s.heap l1 l2).get? (tz3 s.heap l1 l2).objs.size = _ := Heap.get?_push_of_some _ (Heap.get?_push_size _ rfl)
 have g3 : (tz5 s.heap l1 l2).get? (tz2 s.heap l1 l2).objs.size = _ := Heap.get?_push_of_some _ (Heap.get?_push_of_some _ (Heap.get?_push_size _ rfl))
 have g2 : (tz5 s.heap l1 l2).get? (tz1 s.heap l1).objs.size = _ := Heap.get?_push_of_some _ (Heap.get?_push_of_some _ (Heap.get?_push_of_some _ (Heap.get?_push_size _ rfl)))
 have g1 : (tz5 s.heap l1 l2).get? s.heap.objs.size = _ := Heap.get?_push_of_some _ (Heap.get?_push_of_some _ (Heap.get?_push_of_some _ (Heap.get?_push_of_some _ (Heap.get?_push_size _ rfl))))
 have hk : ∀ c o, s.heap.get? c = some o -> (tz5 s.heap l1 l2).get? c = some o := fun c o e => Heap.get?_push_of_some _ (Heap.get?_push_of_some _ (Heap.get?_push_of_some _ (Heap.get?_push_of_some _ (Heap.get?_push_of_some _ e))))
 rw [z4, z2, z3] at g5
 rw [z3] at g4
 rw [z2, z1] at g3
 rw [z1] at g2
 rw [z4]
 generalize tz5 s.heap l1 l2 = h' at z5 g5 g4 g3 g2 g1 hk
 exact ⟨⟨_, g5, rfl⟩, h h' g5 g3 g4 ⟨_, g1, rfl, rfl⟩ ⟨_, g2, rfl, rfl⟩ z5 hk⟩
def Itu (K : PySem.W.Frag) (a b : Addr) : It :=
 ⟨fun i H => ∃ xs ys x y, SqT K H a xs /\ SqT K H b ys /\ xs[i]? = some x /\ ys[i]? = some y,
  fun i H v H' => ∃ p x y, v = .ref p /\ H p = none /\ H' = upd H p (.tup [x, y]) /\ (∀ xs, SqT K H a xs -> xs[i]? = some x) /\ ∀ ys, SqT K H b ys -> ys[i]? = some y,
  fun i H => ∃ xs ys, SqT K H a xs /\ SqT K H b ys /\ (xs[i]? = none \/ ys[i]? = none)⟩
theorem Jt {P : Program} {w : World} {K : PySem.W.Frag} {es : List Expr} {kk : Nat} {tpos : Pos} {z TI TO i1 i2 l1 l2 : Addr} (D : ZipApart z TI TO i1 i2 l1 l2) :
  Turn P w K (.Tuple es kk tpos) (Itu K l1 l2) [z, TI, TO, i1, i2] z (fun i h => IsZip h z TI TO .none /\ IsPair h TI (.ref i1) (.ref i2) /\ (∃ a b, IsPair h TO a b) /\ h.IsTupleIter i1 l1 i /\ h.IsTupleIter i2 l2 i) where
 mem := by simp
 obj := fun i h st b hb => by
  obtain ⟨hz, hTI, ⟨a, b', hTO⟩, ⟨o1, e1, c1, d1⟩, ⟨o2, e2, c2, d2⟩⟩ := st
  simp only [List.mem_cons, List.not_mem_nil, or_false] at hb
  rcases hb with rfl | rfl | rfl | rfl | rfl
  ·exact ⟨_, hz, fun v q => by cases q⟩
  ·exact ⟨_, hTI, fun v q => by cases q⟩
  ·exact ⟨_, hTO, fun v q => by cases q⟩
  ·exact ⟨o1, e1, fun v q => by rw [d1] at q; cases q⟩
  ·exact ⟨o2, e2, fun v q => by rw [d2] at q; cases q⟩
 keep := fun i h h' st k => by
  obtain ⟨hz, hTI, ⟨a, b', hTO⟩, h1, h2⟩ := st
  exact ⟨k z (by simp) _ hz, k TI (by simp) _ hTI, ⟨a, b', k TO (by simp) _ hTO⟩, h1.at fun o e => k i1 (by simp) o e, h2.at fun o e => k i2 (by simp) o e⟩
 item := by
  intro X hP hw hK hc i pins s σ H E I hf st hg
  subst hP hw hK
  obtain ⟨xs, ys, x, y, q1, q2, hx, hy⟩ := hg
  obtain ⟨its1, rv1, p1, hz1⟩ := I.tuple q1
  obtain ⟨its2, rv2, p2, hz2⟩ := I.tuple q2
  obtain ⟨u1, hu1, ru1⟩ := rv1.get hx
  obtain ⟨u2, hu2, ru2⟩ := rv2.get hy
  obtain ⟨hz, hTI, ⟨a, b', hTO⟩, h1, h2⟩ := st
  refine mK D hz hTI hTO h1 h2 p1 p2 (x := u1) (y := u2) (by simpa using hu1) (by simpa using hu2) fun h' a1 a2 a3 a4 a5 a6 hk => ?_
  have new : cQ X.prog X.w (upd H s.heap.objs.size (.tup [x, y])) h' s.heap.objs.size (.tup [x, y]) := ⟨by show 2 <= sizeLine; decide, [u1, u2], .cons ru1 (.cons ru2 .nil), _, a5, rfl, _, rfl⟩
  have I1 : Inv X pins σ (upd H s.heap.objs.size (.tup [x, y])) { s with heap := h' } := I.G8 (t' := s.toks) (ch := [z, TO, i1, i2]) (fun b hb => hf b (by
   simp only [List.mem_cons, List.not_mem_nil, or_false] at hb |-
   rcases hb with r | r | r | r <;> simp [r]))
   (fun b o hb e => hk b o (fun q => hb (by simp [q])) (fun q => hb (by simp [q])) (fun q => hb (by simp [q])) (fun q => hb (by simp [q])) e) (Nat.le_refl _) new
  have hTI' : IsPair h' TI (.ref i1) (.ref i2) := hk _ _ D.TIz D.TITO D.TIi1 D.TIi2 hTI
  have hsz : ∀ b, b ∈ [z, TI, TO, i1, i2] -> b ≠ s.heap.objs.size := fun b hb => by
   obtain ⟨_, _, hlt, _⟩ := hf b hb
   have lt : ∃ o, s.heap.get? b = some o := by
    simp only [List.mem_cons, List.not_mem_nil, or_false] at hb
    rcases hb with rfl | rfl | rfl | rfl | rfl
    ·exact ⟨_, hz⟩
    ·exact ⟨_, hTI⟩
    ·exact ⟨_, hTO⟩
    ·obtain ⟨o, e, _⟩ := h1; exact ⟨o, e⟩
    ·obtain ⟨o, e, _⟩ := h2; exact ⟨o, e⟩
   obtain ⟨o, e⟩ := lt
   exact Nat.ne_of_lt (Heap.lt_size e)
  refine ⟨_, rfl, wpAny_letOwnedTupleGo_zip (s := { s with heap := h' }) a1 fun h'' z2 sb => ?_⟩
  have fz := hf z (by simp)
  have I2 : Inv X pins σ (upd H s.heap.objs.size (.tup [x, y])) { s with heap := h'' } := Inv.turned (s := { s with heap := h' }) (it := z) (t' := s.toks) I1 (fun b o hb e => (sb.2 b hb).trans e) (by rw [aJ (hsz z (by simp))]; exact fz.1) fz.2.1 fz.2.2.2.1 fz.2.2.2.2.1 fz.2.2.2.2.2
  refine ⟨.ref s.heap.objs.size, _, I2, rfl, ⟨_, x, y, rfl, I.fresh, rfl, fun xs' q => by rw [I.tK q q1]; exact hx, fun ys' q => by rw [I.tK q q2]; exact hy⟩,
   ⟨z2, (sb.2 _ D.TIz).trans hTI', ⟨_, _, (sb.2 _ D.TOz).trans a2⟩, a3.extBut sb.extBut D.i1z, a4.extBut sb.extBut D.i2z⟩, fun b hb => by rw [aJ (hsz b hb)]; exact (hf b hb).1⟩
 done := by
  intro X hP hw hK hc i pins s σ H E I hf st hg
  subst hP hw hK
  obtain ⟨xs, ys, q1, q2, hx⟩ := hg
  obtain ⟨its1, rv1, p1, hz1⟩ := I.tuple q1
  obtain ⟨its2, rv2, p2, hz2⟩ := I.tuple q2
  obtain ⟨hz, hTI, ⟨a, b', hTO⟩, h1, h2⟩ := st
  have hend : its1.toArray[i]? = none \/ its2.toArray[i]? = none := by
   rcases hx with r | r
   ·exact .inl (by simpa using rv1.none_of r)
   ·exact .inr (by simpa using rv2.none_of r)
  refine nG (I.ok.hd hc) D hz hTI hTO h1 h2 p1 p2 hend fun h' hk => ⟨rfl, ?_⟩
  exact I.G9 (t' := s.toks) (ch := [z, TO, i1, i2]) (fun b hb => hf b (by
   simp only [List.mem_cons, List.not_mem_nil, or_false] at hb |-
   rcases hb with r | r | r | r <;> simp [r]))
   (fun b o hb e => hk b o (fun q => hb (by simp [q])) (fun q => hb (by simp [q])) (fun q => hb (by simp [q])) (fun q => hb (by simp [q])) e)
 self := fun _ _ _ _ _ st h => wpAny_pyIter_zip st.1 h
def zpq (K : PySem.W.Frag) (o1 o2 : Option HO) (a b : Addr) (H : Hp) (R : It -> Hp -> Prop) : Prop := match o1, o2 with
 | some (.lst _), some (.lst _) => R (Itz K a b) H
 | some (.tup _), some (.tup _) => R (Itu K a b) H
 | _, _ => False
def zpK (K : PySem.W.Frag) (vs : List V) (H : Hp) (R : It -> Hp -> Prop) : Prop := match vs with
 | [.ref a, .ref b] => zpq K (H a) (H b) a b H R
 | _ => False
def QX (K : PySem.W.Frag) (ta : TA) : TI := fun σ H R => ta σ H fun vs H1 => zpK K vs H1 R
theorem QV (K : PySem.W.Frag) (ta : TA) (σ : St) (H : Hp) (R : It -> Hp -> Prop) : QX K ta σ H R = ta σ H fun vs H1 => zpK K vs H1 R := rfl
theorem W0 (K : PySem.W.Frag) (a b : Addr) (H : Hp) (R : It -> Hp -> Prop) : zpK K [.ref a, .ref b] H R = zpq K (H a) (H b) a b H R := rfl
theorem WY (K : PySem.W.Frag) (xs ys : List V) (a b : Addr) (H : Hp) (R : It -> Hp -> Prop) : zpq K (some (.lst xs)) (some (.lst ys)) a b H R = R (Itz K a b) H := rfl
theorem WX (K : PySem.W.Frag) (xs ys : List V) (a b : Addr) (H : Hp) (R : It -> Hp -> Prop) : zpq K (some (.tup xs)) (some (.tup ys)) a b H R = R (Itu K a b) H := rfl
section
variable {X : Cx}
theorem Uq {es : List Expr} {kk : Nat} {tpos : Pos} {a b : Expr} {ta : TA} {p pos : Pos} (hg : Gl X "zip") (hm : X.mg "zip" = none) (ha : PA X [a, b] ta) (hs : starEach [a, b] X.env = [(false, eval a X.env), (false, eval b X.env)] := by rfl) (hs2 : starEach [b] X.env = [(false, eval b X.env)] := by rfl) :
  PI X (.Tuple es kk tpos) (.Call (.Name "zip" p) [a, b] [] pos) (QX X.K ta) := by
 intro pins s σ H R I h
 refine Call_ (qL I hg hm boot_zip (PyProof.Rows.callWith_type1 (thA (ha pos pins s σ H _ I h) fun us s1 vs H1 I1 r1 q1 => ?_) (by rw [hs, hs2]) (by rw [hs2]; rfl)))
 replace q1 : zpK X.K vs H1 R := q1
 unfold zpK at q1
 split at q1
 ·rename_i l1 l2
  unfold zpq at q1
  cases r1 with
  | cons r rr =>
   cases rr with
   | cons r' rr =>
    cases rr
    cases r
    cases r'
    have apart : l1 < s1.heap.objs.size -> l2 < s1.heap.objs.size -> ZipApart (s1.heap.objs.size + 4) (s1.heap.objs.size + 2) (s1.heap.objs.size + 3) s1.heap.objs.size (s1.heap.objs.size + 1) l1 l2 := by
     generalize s1.heap.objs.size = n
     intro lt1 lt2
     have lt1' : @LT.lt Nat _ l1 n := lt1
     have lt2' : @LT.lt Nat _ l2 n := lt2
     constructor <;> (intro (z : @Eq Nat _ _); omega)
    have fp : ∀ b ∈ [s1.heap.objs.size + 4, s1.heap.objs.size + 2, s1.heap.objs.size + 3, s1.heap.objs.size, s1.heap.objs.size + 1], tH X pins H1 b := fun b hb => by
     have hle : s1.heap.objs.size <= b := by
      simp only [List.mem_cons, List.not_mem_nil, or_false] at hb
      rcases hb with rfl | rfl | rfl | rfl | rfl <;> simp
     exact I1.GJ hle (I1.hok.fresh hle)
    split at q1
    ·rename_i xs ys e1 e2
     obtain ⟨its1, rv1, p1, hz1⟩ := I1.list (SqL.of e1)
     obtain ⟨its2, rv2, p2, hz2⟩ := I1.list (SqL.of e2)
     have lt1 : l1 < s1.heap.objs.size := by obtain ⟨_, e, _⟩ := p1.isList; exact Heap.lt_size e
     have lt2 : l2 < s1.heap.objs.size := by obtain ⟨_, e, _⟩ := p2.isList; exact Heap.lt_size e
     refine call_zip_2 p1.isList p2.isList fun h' b1 b2 b3 b4 b5 b6 hk => ?_
     refine wpAny_pyIter_zip (s := { s1 with heap := h' }) b1 ?_
     exact ⟨_, _, _, _, H1, rfl, I1.kept (t' := s1.toks) hk, Lp (apart lt1 lt2), ⟨b1, b2, ⟨_, _, b3⟩, b4, b5⟩, fp, q1⟩
    ·rename_i xs ys e1 e2
     obtain ⟨its1, rv1, p1, hz1⟩ := I1.tuple (SqT.of e1)
     obtain ⟨its2, rv2, p2, hz2⟩ := I1.tuple (SqT.of e2)
     have lt1 : l1 < s1.heap.objs.size := by obtain ⟨_, e, _⟩ := p1; exact Heap.lt_size e
     have lt2 : l2 < s1.heap.objs.size := by obtain ⟨_, e, _⟩ := p2; exact Heap.lt_size e
     refine Eb p1 p2 fun h' b1 b2 b3 b4 b5 b6 hk => ?_
     refine wpAny_pyIter_zip (s := { s1 with heap := h' }) b1 ?_
     exact ⟨_, _, _, _, H1, rfl, I1.kept (t' := s1.toks) hk, Jt (apart lt1 lt2), ⟨b1, b2, ⟨_, _, b3⟩, b4, b5⟩, fp, q1⟩
    ·exact q1.elim
 ·exact q1.elim
theorem T3 {es : List Expr} {kk : Nat} {tpos : Pos} {a b : Expr} {t : TA} {p pos : Pos} (hg : Gl X "zip") (hm : X.mg "zip" = none) (ha : QA X [a, b] t) (hs : starEach [a, b] X.env = [(false, eval a X.env), (false, eval b X.env)] := by rfl) (hs2 : starEach [b] X.env = [(false, eval b X.env)] := by rfl) : QI X (.Tuple es kk tpos) (.Call (.Name "zip" p) [a, b] [] pos) (QX X.K t) := ⟨Uq hg hm ha.h hs hs2⟩
end
def pN (n : Nat) : Sp := fun vs H Q _ => ∃ x y ok d, vs = [x, y] /\ aX ok H x d /\ aX ok H y d /\ d.depth < n /\ ∀ H', Same H H' -> Q (.bl true) H'
theorem zK {d : PyData} {ds : List PyData} (h : d ∈ ds) : d.depth < (PyData.list ds).depth /\ d.depth < (PyData.tuple ds).depth := by
 have := sV h
 rw [PyData.depth.eq_1, PyData.depth.eq_2]
 omega
def rd8 := And.intro @QV (And.intro @W0 (And.intro @WY @WX))
section
variable {K : PySem.W.Frag} {mp : List (Option Nat)} {g : TG} {tc : TT} {te : TE} {σ : St} {H : Hp} {Q : VK} {R : It -> Hp -> Prop}
theorem Wc {a b : Addr} {xs ys : List V} (hR : R = xX mp g tc te σ Q) (hz : xs.length <= sizeLine) (hl2 : xs.length = ys.length) (Pv : Nat -> List V -> St -> Hp -> Prop) (h0 : Pv 0 [] (jM mp σ) H) (hl : ∀ i acc τ H, Pv i acc τ H -> acc.length <= i)
  (hq : ∀ i acc τ H, Pv i acc τ H -> H a = some (.lst xs) /\ H b = some (.lst ys))
  (hs : ∀ i x y acc τ H p, xs[i]? = some x -> ys[i]? = some y -> Pv i acc τ H -> H p = none -> g (.ref p) τ (upd H p (.tup [x, y])) fun τ1 H4 => tc τ1 H4 fun b H5 => if b = true then te τ1 H5 fun v H6 => Pv (i + 1) (acc ++ [v]) τ1 H6 else Pv (i + 1) acc τ1 H5)
  (hd : ∀ acc τ H d, Pv xs.length acc τ H -> H d = none -> Q (.ref d) (upd H d (.lst acc))) : R (Itz K a b) H := by
 refine sW hR xs.length hz Pv h0 hl (fun i acc τ H hi p => ?_) (fun acc τ H p => ?_) (fun i acc τ H x H3 hi p y => ?_) hd
 ·obtain ⟨e1, e2⟩ := hq i acc τ H p
  exact ⟨xs, ys, _, _, SqL.of e1, SqL.of e2, List.getElem?_eq_getElem hi, List.getElem?_eq_getElem (by omega)⟩
 ·obtain ⟨e1, e2⟩ := hq _ acc τ H p
  exact ⟨xs, ys, SqL.of e1, SqL.of e2, .inl (List.getElem?_eq_none (Nat.le_refl _))⟩
 ·obtain ⟨e1, e2⟩ := hq i acc τ H p
  obtain ⟨q, x1, y1, rfl, hq1, rfl, hx, hy⟩ := y
  exact hs i x1 y1 acc τ H q (hx _ (SqL.of e1)) (hy _ (SqL.of e2)) p hq1
theorem Wb {a b : Addr} {xs ys : List V} (hR : R = xX mp g tc te σ Q) (hz : xs.length <= sizeLine) (hl2 : xs.length = ys.length) (Pv : Nat -> List V -> St -> Hp -> Prop) (h0 : Pv 0 [] (jM mp σ) H) (hl : ∀ i acc τ H, Pv i acc τ H -> acc.length <= i)
  (hq : ∀ i acc τ H, Pv i acc τ H -> H a = some (.tup xs) /\ H b = some (.tup ys))
  (hs : ∀ i x y acc τ H p, xs[i]? = some x -> ys[i]? = some y -> Pv i acc τ H -> H p = none -> g (.ref p) τ (upd H p (.tup [x, y])) fun τ1 H4 => tc τ1 H4 fun b H5 => if b = true then te τ1 H5 fun v H6 => Pv (i + 1) (acc ++ [v]) τ1 H6 else Pv (i + 1) acc τ1 H5)
  (hd : ∀ acc τ H d, Pv xs.length acc τ H -> H d = none -> Q (.ref d) (upd H d (.lst acc))) : R (Itu K a b) H := by
 refine sW hR xs.length hz Pv h0 hl (fun i acc τ H hi p => ?_) (fun acc τ H p => ?_) (fun i acc τ H x H3 hi p y => ?_) hd
 ·obtain ⟨e1, e2⟩ := hq i acc τ H p
  exact ⟨xs, ys, _, _, SqT.of e1, SqT.of e2, List.getElem?_eq_getElem hi, List.getElem?_eq_getElem (by omega)⟩
 ·obtain ⟨e1, e2⟩ := hq _ acc τ H p
  exact ⟨xs, ys, SqT.of e1, SqT.of e2, .inl (List.getElem?_eq_none (Nat.le_refl _))⟩
 ·obtain ⟨e1, e2⟩ := hq i acc τ H p
  obtain ⟨q, x1, y1, rfl, hq1, rfl, hx, hy⟩ := y
  exact hs i x1 y1 acc τ H q (hx _ (SqT.of e1)) (hy _ (SqT.of e2)) p hq1
end
inductive RowC where
 | one (n t : Int)
 | rng (a b t : Int)
 | low (n t : Int)
 | msk (lo wd bits t : Int)
 | tab (lo : Int) (gs : List Int)
 | pik (l : Int)
def rowCD : RowC -> PyData
 | .one n t => .tuple [.str "is", .int n, .int t]
 | .rng a b t => .tuple [.str "within", .int a, .int b, .int t]
 | .low n t => .tuple [.str "below", .int n, .int t]
 | .msk lo wd bits t => .tuple [.str "mask", .int lo, .int wd, .int bits, .int t]
 | .tab lo gs => .tuple [.str "table", .int lo, .tuple (gs.map PyData.int)]
 | .pik l => .tuple [.str "pick", .int l]
def Zg (m o : Int) : RowC -> Prop
 | .one _ t => btw o m t = true
 | .rng _ _ t => btw o m t = true
 | .low _ t => btw o m t = true
 | .msk _ wd bits t => btw o m t = true /\ 1 <= wd /\ wd <= 64 /\ 0 <= bits
 | .tab _ gs => gs.all (btw o m) = true
 | .pik _ => True
def aat : RowC -> Addr -> List V
 | .one n t, _ => [.str "is", .int n, .int t]
 | .rng a b t, _ => [.str "within", .int a, .int b, .int t]
 | .low n t, _ => [.str "below", .int n, .int t]
 | .msk lo wd bits t, _ => [.str "mask", .int lo, .int wd, .int bits, .int t]
 | .tab lo _, g => [.str "table", .int lo, .ref g]
 | .pik l, _ => [.str "pick", .int l]
def RowAt (H : Hp) (x : V) (c : RowC) : Prop := ∃ a g, x = .ref a /\ H a = some (.tup (aat c g)) /\ ∀ lo gs, c = .tab lo gs -> H g = some (.tup (gs.map V.int))
def scV : PyData -> Option V
 | .int i => some (.int i)
 | .str z => some (.str z)
 | _ => none
theorem aX.sc {ok : Addr -> Prop} {H : Hp} {x v : V} {d : PyData} (t : aX ok H x d) (h : scV d = some v) : x = v := by
 cases t with
 | int i => exact Option.some.inj h
 | str z => exact Option.some.inj h
 | _ => cases h
theorem aM.sc {ok : Addr -> Prop} {H : Hp} : ∀ {xs vs : List V} {ds : List PyData}, aM ok H xs ds -> ds.map scV = vs.map some -> xs = vs
 | _, [], _, .nil, _ => rfl
 | _, v :: vs, _, .nil, h => by cases h
 | _, [], _, .cons _ _, h => by cases h
 | _, v :: vs, _, .cons t ts, h => by
  rw [List.map_cons, List.map_cons] at h
  injection h with h1 h2
  rw [t.sc h1, ts.sc h2]
theorem aM.uncons {ok : Addr -> Prop} {H : Hp} {xs : List V} {d : PyData} {ds : List PyData} (t : aM ok H xs (d :: ds)) : ∃ x r, xs = x :: r /\ aX ok H x d /\ aM ok H r ds := by
 cases t with
 | cons h r => exact ⟨_, _, rfl, h, r⟩
theorem aX.tupOf {ok : Addr -> Prop} {H : Hp} {x : V} {ds : List PyData} (t : aX ok H x (.tuple ds)) : ∃ p xs, x = .ref p /\ H p = some (.tup xs) /\ aM ok H xs ds := by
 cases t with
 | tup o e z ts => exact ⟨_, _, rfl, e, ts⟩
section
variable {X : Cx} {e o : Expr} {te to : TE} {pos : Pos}
def ppq (ob : Option HO) (l : Addr) (H : Hp) (Q : VK) : Prop := match ob with
 | some (.lst xs) => ∃ y, xs[xs.length - 1]? = some y /\ Q y (upd H l (.lst xs.dropLast))
 | _ => False
def ppK (x : V) (H : Hp) (Q : VK) : Prop := match x with
 | .ref l => ppq (H l) l H Q
 | _ => False
def Zq (to : TE) : TE := fun σ H Q => to σ H fun x H1 => ppK x H1 Q
theorem Cg (to : TE) (σ : St) (H : Hp) (Q : VK) : Zq to σ H Q = to σ H fun x H1 => ppK x H1 Q := rfl
end
def rd9 := And.intro @Cg @Cg
inductive Pl where
 | pick (l : Int)
 | one (k : Nat) (r : Pl)
 | wit (k : Nat) (r : Pl)
 | low (k : Nat) (a b : Pl)
 | msk (l : Int) (r : Pl)
 | tab
def Bc : Pl -> Nat
 | .pick _ => 1
 | .one _ r => Bc r + 1
 | .wit _ r => Bc r + 1
 | .low _ a b => Bc a + Bc b + 1
 | .msk _ r => Bc r + 1
 | .tab => 1
abbrev Sts := List (Int × Int × Int)
def Ag (ss : Sts) (k : Nat) : Int × Int × Int := ss.getD k (0, 0, 0)
structure Lf (ss : Sts) (left : List Nat) : Prop where
 ne : left ≠ []
 lt : ∀ k ∈ left, k < ss.length
 up : left.Pairwise (· < ·)
def kids (ss : Sts) : Pl -> List Nat -> List (List Nat × Pl)
 | .pick _, _ => []
 | .tab, _ => []
 | .one k r, left => [(left.filter (· ≠ k), r)]
 | .wit k r, left => [(left.filter (· ≠ k), r)]
 | .low k a b, left => [(left.filter (· < k), a), (left.filter (k <= ·), b)]
 | .msk l r, left => [(left.filter fun k => (Ag ss k).2.2 ≠ l, r)]
def En (ss : Sts) : Pl -> List Nat -> Prop
 | .pick _, left => Lf ss left
 | .tab, left => Lf ss left
 | .one k r, left => Lf ss left /\ En ss r (left.filter (· ≠ k))
 | .wit k r, left => Lf ss left /\ En ss r (left.filter (· ≠ k))
 | .low k a b, left => Lf ss left /\ En ss a (left.filter (· < k)) /\ En ss b (left.filter (k <= ·))
 | .msk l r, left => Lf ss left /\ En ss r (left.filter fun k => (Ag ss k).2.2 ≠ l)
theorem En.kids {ss : Sts} {p : Pl} {left : List Nat} (h : En ss p left) : ∀ x ∈ kids ss p left, En ss x.2 x.1 := by
 intro x hx
 cases p with
 | pick l => cases hx
 | tab => cases hx
 | one k r => rw [List.mem_singleton.mp hx]; exact h.2
 | wit k r => rw [List.mem_singleton.mp hx]; exact h.2
 | low k a b =>
  rcases List.mem_cons.mp hx with rfl | hx
  ·exact h.2.1
  ·rw [List.mem_singleton.mp hx]; exact h.2.2
 | msk l r => rw [List.mem_singleton.mp hx]; exact h.2
def aaf (left : List Nat) : PyData := .list (left.map fun (k : Nat) => .int (k : Int))
def Ww (ss : Sts) (left : List Nat) : Int := (Ag ss (left.getLast?.getD 0)).2.1 - (Ag ss (left.head?.getD 0)).1 + 1
theorem jm (xs : List V) (n : Nat) (h : n <= xs.length) : j8 xs (some (n : Int)) none = xs.drop n := by
 unfold j8
 have e1 : HT.sIx xs.length 0 (some (n : Int)) = n := by
  simp only [HT.sIx]
  split
  ·omega
  ·omega
 have e2 : HT.sIx xs.length xs.length none = xs.length := by simp [HT.sIx]
 rw [e1, e2]
 exact List.take_of_length_le (by rw [List.length_drop]; exact Nat.le_refl _)
def Zk : Pl -> Str
 | .pick _ => "pick"
 | .one _ _ => "is"
 | .wit _ _ => "within"
 | .low _ _ _ => "below"
 | .msk _ _ => "mask"
 | .tab => "table"
def aaG : Pl -> Nat
 | .pick _ => 0
 | .one _ _ => 0
 | .wit _ _ => 1
 | .low _ _ _ => 2
 | .msk _ _ => 3
 | .tab => 4
def tD (x : List Nat × Pl) : PyData := .tuple [aaf x.1, .str (Zk x.2), .int (aaG x.2 : Int)]
section
variable {X : Cx} {e o : Expr} {te to : TE} {pos : Pos}
end
def Wlk (h : Heap) (i l : Addr) (k : Nat) (xs : Array Value) : Prop := (h.IsTupleIter i l k /\ h.IsTuple l xs) \/ (h.IsListIter i l k /\ h.IsList l xs)
@[reducible] def IsZip2 (h : Heap) (z TI TO a : Addr) (b : Bool) : Prop := h.get? z = some { cls := Value.type "zip", data := Data.fields #[rawInt a, Value.bool b, Value.bool false, Value.ref TI, Value.ref TO] }
section
variable {X : Cx}
end
def dgQ (x y : V) (H : Hp) (Q : VK) : Prop := ∃ a v, x = .ref a /\ yM H a y (some v) /\ Q v H
def tDG (td ty : TE) : TE := fun σ H Q => td σ H fun x H1 => ty σ H1 fun y H2 => dgQ x y H2 Q
theorem Mg (td ty : TE) (σ : St) (H : Hp) (Q : VK) : tDG td ty σ H Q = td σ H fun x H1 => ty σ H1 fun y H2 => dgQ x y H2 Q := rfl
section
variable {X : Cx} {o i e value : Expr} {pos pos' tpos : Pos} {td ty tv : TE}
theorem ZC (hu : X.A.units + 1 < cLine) (ho : QE X o td) (hi : QE X i ty) (hs : Zi i) : QE X (.Subscript o i pos) (tDG td ty) := ⟨UG hu ho.h hi.h hs⟩
end
def rdA := And.intro @Mg @Mg
section
variable {prog : Program} {w : World} {A : Around} {R : Result -> Shared -> Prop} {s : Shared}
end
section
variable {X : Cx} {NX N : List Str} {kX : List (Str × NameKind)} {mp : List (Option Nat)} {scope : Scope}
end
section
variable {X : Cx}
end
theorem Bg {M : Model} {A : Around} {E : Value -> Shared -> Prop} {s : Shared} {base : Heap} {env : Env} {outer : List Env} {L e : Addr} {oe : Obj} {vs : Array Value} {head : Value} {b0 : Bool} {Q : Unit -> Shared -> Prop} (hfr : A.frames = some (env :: outer)) (hl : s.heap.FunFrames base (env :: outer)) (hf : env.frame = some L)
  (he : s.heap.get? e = some oe) (hd : oe.data = Data.fields vs) (h1s : 1 < vs.size) (hen : e ∉ List.filterMap (fun x => x.frame) (env :: outer))
  (hQ : ∀ (h' : Heap) (T : Addr) (ts : Array Value), h'.get? e = some { cls := oe.cls, dict := oe.dict, data := Data.fields (vs.setIfInBounds 1 (Value.ref T)), slots := oe.slots } -> h'.get? T = some { cls := Value.type "traceback", data := Data.fields ts } -> ts[3]? = some (rawInt L) -> T ≠ e -> s.heap.objs.size <= T ->
   (∀ b o, b ≠ e -> b ∉ List.filterMap (fun x => x.frame) (env :: outer) -> s.heap.get? b = some o -> h'.get? b = some o) -> (∀ b o, b ∈ List.filterMap (fun x => x.frame) (env :: outer) -> s.heap.get? b = some o -> ∃ sl, h'.get? b = some { cls := o.cls, dict := o.dict, data := o.data, slots := sl }) -> Q () { s with heap := h' }) :
  wpAny M A (do
   let a <- PySem.frameOf env
   let pl <- entryPlaceOf L b0
   let b <- EntryCells.newEntry head a Value.none (rawInt ↑L) Value.none pl
   setField (Value.ref e) 1 b) Q E s := by
 refine wpAny_bind (wpAny_frameOf_fun hfr hl hf fun h₁ so => ?_)
 refine wpAny_bind (wpAny_entryPlaceOf fun pl hpl => ?_)
 have he1 : h₁.get? e = some oe := (so.2.1 e hen).trans he
 refine wpAny_bind ?_
 unfold EntryCells.newEntry newFields
 refine wpAny_newObj_type ?_ ?_
 ·have he2 := Heap.get?_push_of_some (h := h₁) { cls := Value.type "traceback", data := Data.fields ([head, Value.ref L, Value.none, rawInt ↑L, Value.none] ++ if pl.isEmpty = true then List.replicate 6 Value.none else pl).toArray } he1
  refine wpAny_setField (s := { s with heap := h₁.push { cls := Value.type "traceback", data := Data.fields ([head, Value.ref L, Value.none, rawInt ↑L, Value.none] ++ if pl.isEmpty = true then List.replicate 6 Value.none else pl).toArray } }) he2 hd h1s ?_
  have hne : h₁.objs.size ≠ e := fun z => by
   have := Heap.lt_size he1
   rw [z] at this
   exact Nat.lt_irrefl _ this
  refine hQ _ h₁.objs.size ([head, Value.ref L, Value.none, rawInt ↑L, Value.none] ++ if pl.isEmpty = true then List.replicate 6 Value.none else pl).toArray ?_ ?_ (by simp) hne (by rw [so.1]; exact Nat.le_refl _) (fun b o hb hbf g => ?_) (fun b o hbf g => ?_)
  ·have := Heap.get?_update_self (f := Obj.mapFields fun x => x.setIfInBounds 1 (Value.ref h₁.objs.size)) he2 ?_
   ·rw [this]
    obtain ⟨c, d, dt, sl⟩ := oe
    cases hd
    rfl
   ·obtain ⟨c, d, dt, sl⟩ := oe
    cases hd
    rfl
  ·refine (Heap.get?_update_other _ _ hne.symm).trans ?_
   exact Heap.get?_push_size _ rfl
  ·refine (Heap.get?_update_other _ _ (Ne.symm hb)).trans (Heap.get?_push_of_some _ ((so.2.1 b hbf).trans g))
  ·obtain ⟨sl, q⟩ := so.2.2 b o g
   refine ⟨sl, (Heap.get?_update_other _ _ fun z => hen (by rw [z]; exact hbf)).trans (Heap.get?_push_of_some _ q)⟩
 ·have hp := hpl
  unfold IsPlace at hp
  show ([head, Value.ref L, Value.none, rawInt ↑L, Value.none] ++ if pl.isEmpty = true then List.replicate 6 Value.none else pl).toArray.size <= sizeLine + 2
  rw [List.size_toArray, List.length_append]
  split
  ·rw [List.length_replicate]; show 5 + 6 <= _; decide
  ·rcases hp with rfl | ⟨_, _, _, _, _, _, _, rfl⟩
   ·show 5 + 0 <= _; decide
   ·show 5 + 6 <= _; decide
theorem Vm {prog : Program} {w : World} {A : Around} {E : Value -> Shared -> Prop} {s : Shared} {base : Heap} {env : Env} {outer : List Env} {L e : Addr} {oe : Obj} {vs : Array Value} {Q : Unit -> Shared -> Prop} (hfr : A.frames = some (env :: outer)) (hl : s.heap.FunFrames base (env :: outer)) (hf : env.frame = some L)
  (he : s.heap.get? e = some oe) (hd : oe.data = Data.fields vs) (h1s : 1 < vs.size) (hen : e ∉ List.filterMap (fun x => x.frame) (env :: outer))
  (ht : vs[1]? = some Value.none \/ ∃ T ts, vs[1]? = some (Value.ref T) /\ T ≠ e /\ s.heap.get? T = some { cls := Value.type "traceback", data := Data.fields ts } /\ ts[3]? = some Value.none)
  (hQ : ∀ (h' : Heap) (T : Addr) (ts : Array Value), h'.get? e = some { cls := oe.cls, dict := oe.dict, data := Data.fields (vs.setIfInBounds 1 (Value.ref T)), slots := oe.slots } -> h'.get? T = some { cls := Value.type "traceback", data := Data.fields ts } -> ts[3]? = some Value.none -> T ≠ e -> s.heap.objs.size <= T ->
   (∀ b o, b ≠ e -> b ∉ List.filterMap (fun x => x.frame) (env :: outer) -> vs[1]? ≠ some (Value.ref b) -> s.heap.get? b = some o -> h'.get? b = some o) -> (∀ b o, b ∈ List.filterMap (fun x => x.frame) (env :: outer) -> s.heap.get? b = some o -> ∃ sl, h'.get? b = some { cls := o.cls, dict := o.dict, data := o.data, slots := sl }) -> Q () { s with heap := h' }) :
  wpAny (model prog w) A (leaving env (Value.ref e)) Q E s := by
 unfold leaving
 have fin : ∀ (h₂ : Heap) (T : Addr) (ts : Array Value), h₂.get? e = some { cls := oe.cls, dict := oe.dict, data := Data.fields (vs.setIfInBounds 1 (Value.ref T)), slots := oe.slots } -> h₂.get? T = some { cls := Value.type "traceback", data := Data.fields ts } -> ts[3]? = some (rawInt L) -> T ≠ e -> s.heap.objs.size <= T -> T ∉ List.filterMap (fun x => x.frame) (env :: outer) ->
   (∀ b o, b ≠ e -> b ∉ List.filterMap (fun x => x.frame) (env :: outer) -> vs[1]? ≠ some (Value.ref b) -> s.heap.get? b = some o -> h₂.get? b = some o) -> (∀ b o, b ∈ List.filterMap (fun x => x.frame) (env :: outer) -> s.heap.get? b = some o -> ∃ sl, h₂.get? b = some { cls := o.cls, dict := o.dict, data := o.data, slots := sl }) ->
   wpAny (model prog w) A (setFlight (Value.ref e) none) Q E { s with heap := h₂ } := fun h₂ T ts g1 g2 g3 g4 g5 g6 g7 g8 => by
  unfold setFlight
  have v1 : (vs.setIfInBounds 1 (Value.ref T))[1]? = some (Value.ref T) := by
   rw [Array.getElem?_setIfInBounds_self_of_lt h1s]
  refine wpAny_bind (wpAny_field g1 rfl v1 (wpAny_ite_true rfl ?_))
  refine wpAny_setField_rec (s := { s with heap := h₂ }) g2 (Array.getElem?_eq_some_iff.mp g3).1 fun h₃ q1 q2 => ?_
  refine hQ h₃ T _ ((q2.2 e (Ne.symm g4)).trans g1) q1 ?_ g4 g5 (fun b o c1 c2 c3 g => ?_) (fun b o c1 g => ?_)
  ·rw [Array.getElem?_setIfInBounds_self_of_lt (Array.getElem?_eq_some_iff.mp g3).1]
   rfl
  ·have hb : b ≠ T := fun z => by
    have := Heap.lt_size g
    rw [z] at this
    exact absurd this (Nat.not_lt.mpr g5)
   exact (q2.2 b hb).trans (g7 b o c1 c2 c3 g)
  ·obtain ⟨sl, q⟩ := g8 b o c1 g
   exact ⟨sl, (q2.2 b fun z => g6 (by rw [<- z]; exact c1)).trans q⟩
 refine wpAny_bind ?_
 unfold noteFrame
 rw [hf]
 have fresh : ∀ {T : Addr}, s.heap.objs.size <= T -> T ∉ List.filterMap (fun x => x.frame) (env :: outer) := fun {T} hT hm => by
  obtain ⟨_, o, g, _⟩ := hl.mem hm
  exact absurd (Heap.lt_size g) (Nat.not_lt.mpr hT)
 rcases ht with ht | ⟨T0, ts0, ht, hTe, hT0, h30⟩
 ·refine wpAny_bind (wpAny_field he hd ht (wpAny_ite_false rfl ?_))
  exact Bg hfr hl hf he hd h1s hen fun h₂ T ts g1 g2 g3 g4 g5 g6 g7 => fin h₂ T ts g1 g2 g3 g4 g5 (fresh g5) (fun b o c1 c2 _ g => g6 b o c1 c2 g) g7
 ·refine wpAny_bind (wpAny_field he hd ht (wpAny_ite_true rfl ?_))
  refine wpAny_bind (wpAny_field hT0 rfl h30 (wpAny_ite_false rfl ?_))
  refine wpAny_bind (wpAny_setField_rec hT0 (Array.getElem?_eq_some_iff.mp h30).1 fun h₁ q1 q2 => ?_)
  have hT0f : T0 ∉ List.filterMap (fun x => x.frame) (env :: outer) := fun hm => by
   obtain ⟨_, o, g, nf⟩ := hl.mem hm
   rw [hT0] at g
   cases g
   exact nf _ rfl
  have hl1 : h₁.FunFrames base (env :: outer) := hl.of_keeps fun b o g nf => ⟨o, (q2.2 b fun z => by rw [z, hT0] at g; cases g; exact nf _ rfl).trans g, rfl⟩
  refine Bg (s := { s with heap := h₁ }) hfr hl1 hf ((q2.2 e (Ne.symm hTe)).trans he) hd h1s hen fun h₂ T ts g1 g2 g3 g4 g5 g6 g7 => ?_
  have g5' : s.heap.objs.size <= T := by rw [<- q2.1]; exact g5
  refine fin h₂ T ts g1 g2 g3 g4 g5' (fresh g5') (fun b o c1 c2 c3 g => g6 b o c1 c2 ((q2.2 b fun z => c3 (by rw [z]; exact ht)).trans g)) fun b o c1 g => ?_
  exact g7 b o c1 ((q2.2 b fun z => hT0f (by rw [<- z]; exact c1)).trans g)
theorem Q8 {h : Heap} {a : Addr} (hl : h.objs.size <= a) : h.get? a = none := by
 cases e : h.get? a with
 | none => rfl
 | some o => exact absurd (Heap.lt_size e) (Nat.not_lt.mpr hl)
theorem Ep {prog : Program} {w : World} {A : Around} {E : Value -> Shared -> Prop} {h : Heap} {g : Array GenState} {d : Drawn} {t : Nat} {os : OsState} {nm q : Str} {C N : Addr} {bs bm bmB bmN : List Value} {hdct : Bool} {sn : List Str} {sub : List Value} {ab : Bool} {col : Option Bool} {dd : Option Addr} {k0 k1 k2 k3 k5 : Option Value} {B Bn newId nid initId inN : String}
  (Fn : ExcBaseFacts Bn newId inN bmN) (hBn : bmB.contains (Value.type Bn) = true) (F : ExcBaseFacts B nid initId bmB) (T : OwnTail h bmB bm) {mN : Str -> Option Value} {rest : List Value} {fI : Addr} {oI : Obj} {Q : PySem.Fin -> Shared -> Prop}
  (hC : h.get? C = some (excClassObj nm q C N bs bm hdct sn sub ab col dd k0 k1 k2 k3 k5 newId)) (hn : h.Ns N mN) (hi : mN (Str.ofString "__init__") = some (Value.ref fI)) (hfI : h.get? fI = some oI) (hfc : oI.cls = Value.type "function")
  (hq : ∀ (h' : Heap) (e : Addr), h.objs.size <= e -> h.MadeExcOf h' e (Value.ref C) rest -> wpAny (model prog w) A (call (Value.ref fI) (Value.ref e :: rest)) (fun r s' => r = Value.none /\ Q (Fin.done (Flow.ret (Value.ref e))) s') E { heap := h', gens := g, drawn := d, toks := t, os := os }) (hrest : rest.length <= sizeLine) :
  wpAny (model prog w) A (Builtin.«type.__call__» { pos := Value.ref C :: rest }) Q E { heap := h, gens := g, drawn := d, toks := t, os := os } := by
 unfold Builtin.«type.__call__»
 refine wpAny_ite_false rfl ?_
 refine wpAny_bind ?_
 unfold mroOf
 refine wpAny_bind (wpAny_bind (wpAny_load' hC (wpAny_pure (wpAny_pure ?_))))
 refine wpAny_ite_false rfl ?_
 refine wpAny_bind (wpAny_madeBy_exc hC ?_)
 refine wpAny_bind (wpAny_pure ?_)
 refine wpAny_bind (wpAny_holding (wpAny_call (codeAny_call_builtin_code (Code.quiet_builtin { pos := Value.ref C :: rest } Fn.quiet) (wpAny_check_new_subU Fn hBn T hC (codeAny_exc_new_subU Fn hBn F T hC ?_ hrest)))))
 generalize hh2 : (h.push { cls := Value.type "tuple", data := Data.seq rest.toArray }).push { cls := Value.ref C, data := Data.fields #[Value.ref h.objs.size, Value.none, Value.none, Value.none, Value.bool false, Value.none] } = h2
 have kp : ∀ b o, h.get? b = some o -> h2.get? b = some o := fun b o e => by
  rw [<- hh2]
  exact Heap.get?_push_of_some _ (Heap.get?_push_of_some _ e)
 have z1 : (h.push { cls := Value.type "tuple", data := Data.seq rest.toArray }).objs.size = h.objs.size + 1 := Heap.size_push ..
 have hget : h2.get? (h.objs.size + 1) = some { cls := Value.ref C, data := Data.fields #[Value.ref h.objs.size, Value.none, Value.none, Value.none, Value.bool false, Value.none] } := by
  rw [<- hh2, <- z1]
  exact Heap.get?_push_size _ rfl
 have htup : h2.get? h.objs.size = some { cls := Value.type "tuple", data := Data.seq rest.toArray } := by
  rw [<- hh2]
  exact Heap.get?_push_of_some _ (Heap.get?_push_size _ rfl)
 have made : h.MadeExcOf h2 (h.objs.size + 1) (Value.ref C) rest := ⟨kp, Q8 (Nat.le_succ _), h.objs.size, hget, Q8 (Nat.le_refl _), htup⟩
 have hC1 := kp _ _ hC
 have hn1 : h2.Ns N mN := by
  obtain ⟨o, es, ep, e, r⟩ := hn
  exact ⟨o, es, ep, kp _ _ e, r⟩
 show wpAny _ _ (isInstance (Value.ref (h.objs.size + 1)) (Value.ref C) >>= _) _ _ _
 refine wpAny_bind ?_
 unfold isInstance typeOf
 refine wpAny_bind (wpAny_bind (wpAny_loadPart_at hget (wpAny_pure ?_)))
 refine wpAny_isSubtype_exc hC1 ?_
 rw [show (Value.ref C :: bm).contains (Value.ref C) = true by simp]
 refine wpAny_ite_false rfl ?_
 refine wpAny_bind (wpAny_holding ?_)
 unfold callSpecial? specialOf typeOf
 refine wpAny_bind (wpAny_bind (wpAny_bind (wpAny_loadPart_at hget (wpAny_pure ?_))))
 refine wpAny_typeLookup_tail hC1 hn1 (T.keeps kp) F.mroIs F.init.lookup ?_
 rw [hi]
 refine wpAny_holding ?_
 refine wpAny_bind ?_
 unfold bindSpecial
 refine wpAny_bind (wpAny_typeOf (T := "function") ⟨oI, kp _ _ hfI, hfc⟩ (wpAny_ite_true rfl (wpAny_pure ?_)))
 refine wpAny_bind (wpAny_mono (hq h2 _ (Nat.le_succ _) made) (fun r s' ⟨e1, e2⟩ => ?_) fun _ _ z => z)
 subst e1
 refine wpAny_pure ?_
 exact wpAny_ite_false rfl (wpAny_pure e2)
theorem K8 {prog : Program} {w : World} {A : Around} {E : Value -> Shared -> Prop} {h : Heap} {g : Array GenState} {d : Drawn} {t : Nat} {os : OsState} {nm q : Str} {C N : Addr} {bs bm bmB bmN : List Value} {hdct : Bool} {sn : List Str} {sub : List Value} {ab : Bool} {col : Option Bool} {dd : Option Addr} {k0 k1 k2 k3 k5 : Option Value} {B Bn newId nid initId inN : String}
  (Fn : ExcBaseFacts Bn newId inN bmN) (hBn : bmB.contains (Value.type Bn) = true) (F : ExcBaseFacts B nid initId bmB) (T : OwnTail h bmB bm) {mN : Str -> Option Value} {rest : List Value} {fI : Addr} {oI : Obj} {Q : Value -> Shared -> Prop}
  (hC : h.get? C = some (excClassObj nm q C N bs bm hdct sn sub ab col dd k0 k1 k2 k3 k5 newId)) (hn : h.Ns N mN) (hi : mN (Str.ofString "__init__") = some (Value.ref fI)) (hfI : h.get? fI = some oI) (hfc : oI.cls = Value.type "function")
  (hq : ∀ (h' : Heap) (e : Addr), h.objs.size <= e -> h.MadeExcOf h' e (Value.ref C) rest -> wpAny (model prog w) (A.under (Code.builtin "type.__call__" { pos := Value.ref C :: rest })) (call (Value.ref fI) (Value.ref e :: rest)) (fun r s' => r = Value.none /\ Q (Value.ref e) s') E { heap := h', gens := g, drawn := d, toks := t, os := os }) (hrest : rest.length <= sizeLine) :
  wpAny (model prog w) A (call (Value.ref C) rest) Q E { heap := h, gens := g, drawn := d, toks := t, os := os } := by
 have hT : (⟨h, g, d, t, os⟩ : Shared).TypeIs (Value.ref C) "type" := ⟨_, hC, rfl⟩
 refine wpAny_call (codeAny_of_tree ?_)
 show wpAny _ _ (load C >>= _) _ _ _
 refine wpAny_bind (wpAny_load' hC ?_)
 show wpAny _ _ (callAny.viaDunder (Value.ref C) { pos := rest }) _ _ _
 unfold callAny.viaDunder
 refine wpAny_bind (wpAny_specialOf hT tc_lookup ?_)
 refine wpAny_bind (wpAny_of_eq (tc_bind (Value.ref C)) ?_)
 refine wpAny_bind ?_
 show wpAny _ _ (pure true) _ _ _
 refine wpAny_pure (wpAny_ite_true rfl (wpAny_pure ⟨rfl, ?_⟩))
 refine codeAny_call_builtin_at (Code.quiet_builtin _ (by decide +kernel)) entry_typeCall (wpAny_check_type_call_sub hC ?_)
 exact Ep Fn hBn F T hC hn hi hfI hfc (fun h' e hs hm => hq h' e hs hm) hrest
structure Lies (s s' : Shared) (H' : Hp) (x : Addr) (ox : Obj) (vs : Array Value) : Prop where
 at_ : s'.heap.get? x = some ox
 dat : ox.data = Data.fields vs
 siz : 1 < vs.size
 new : s.heap.objs.size <= x
 fre : H' x = none
 tb : vs[1]? = some Value.none \/ ∃ T ts, vs[1]? = some (Value.ref T) /\ T ≠ x /\ s'.heap.get? T = some { cls := Value.type "traceback", data := Data.fields ts } /\ ts[3]? = some Value.none /\ s.heap.objs.size <= T /\ H' T = none
def CX1 (P : Program) (w : World) : CXT := fun outer H s E e s' => ∃ (x : Addr) (ox : Obj) (vs : Array Value) (H' : Hp), e = Value.ref x /\ Lies s s' H' x ox vs /\
 s'.os = s.os /\ AllBare s'.gens /\ Un (frs outer) [] H H' s.heap s'.heap /\ HOk P w H' s'.heap /\ E ox.cls ox.dict H'
theorem own1 {P : Program} {w : World} {K : PySem.W.Frag} {mg : Str -> Option Value} {base : Heap} {N : List Str} {qual : Str} {scope : Scope} {f : Addr} {cd : Value} {A : Around} {outer : List Env} {s : Shared} {H : Hp} {E : XK} {CX : CXT} :
  PassesOwn (model P w) (A.deeper (envOfC qual scope s.heap.objs.size f cd)) (envOfC qual scope s.heap.objs.size f cd) (yE CX P w K mg base N qual scope f cd A outer s H E).xe := by
 show PassesOwn _ _ _ (fun e s' => wpAny (model P w) (A.deeper (envOfC qual scope s.heap.objs.size f cd)) (leaving (envOfC qual scope s.heap.objs.size f cd) e) (fun _ s'' => CX outer H s E e s'') (fun e' s'' => CX outer H s E e' s'') s')
 exact PassesOwn.leaving
section
variable {M : Model} {A : Around} {E : Value -> Shared -> Prop} {env : Env}
variable {nm q : Str} {C N : Addr} {bs bm : List Value} {hdct : Bool} {sn : List Str} {sub : List Value} {ab : Bool} {col : Option Bool} {dd : Option Addr} {k0 k1 k2 k3 k5 : Option Value} {newId : String}
theorem SX {s : Shared} {x : Sem Value} {Q : Flow -> Shared -> Prop} (hbase : bm.contains (Value.type "BaseException") = true) (hh : A.handled = none)
  (h : wpAny M A x (fun v s₁ => ∃ e t dx, v = Value.ref e /\ s₁.heap.get? C = some (excClassObj nm q C N bs bm hdct sn sub ab col dd k0 k1 k2 k3 k5 newId) /\
   s₁.heap.get? e = some { cls := Value.ref C, dict := dx, data := Data.fields #[Value.ref t, Value.none, Value.none, Value.none, Value.bool false, Value.none] } /\ E (Value.ref e) s₁) E s) :
  wpAny M A (raiseStmt env (some x) none) Q E s := by
 have hcB : (Value.ref C :: bm).contains (Value.type "BaseException") = true := by rw [List.contains_cons, hbase, Bool.or_true]
 unfold raiseStmt
 refine wpAny_bind (wpAny_mono h (fun v s₁ h₁ => ?_) fun _ _ x => x)
 obtain ⟨e, t, dx, rfl, hC, he, hE⟩ := h₁
 obtain ⟨hp, g, d, tk, os⟩ := s₁
 repeat (first | with_reducible refine wpAny_loadPart_at he ?_ | with_reducible refine wpAny_loadPart_at hC ?_ | (with_reducible refine wpAny_isSubtype_exc hC ?_; rw [hcB]) | wp_step)
 exact wpAny_raiseNew_none hh hE
end
section
variable {prog : Program} {w : World} {A : Around} {E : Value -> Shared -> Prop}
variable {nm q : Str} {C N : Addr} {bs bm bmB : List Value} {hdct : Bool} {sn : List Str} {sub : List Value} {ab : Bool} {col : Option Bool} {dd : Option Addr} {k0 k1 k2 k3 k5 : Option Value} {nwId B newId initId : String}
theorem Y5 {hp : Heap} {g : Array GenState} {d : Drawn} {tk : Nat} {os : OsState} {e t : Addr} {dx : Option Addr} {rest : List Value} {Q : Value -> Shared -> Prop} (F : ExcBaseFacts B newId initId bmB) (hB : bm.contains (Value.type B) = true)
  (hC : hp.get? C = some (excClassObj nm q C N bs bm hdct sn sub ab col dd k0 k1 k2 k3 k5 nwId))
  (he : hp.get? e = some { cls := Value.ref C, dict := dx, data := Data.fields #[Value.ref t, Value.none, Value.none, Value.none, Value.bool false, Value.none] })
  (hq : ∀ h' : Heap, (∀ b o, b ≠ e -> hp.get? b = some o -> h'.get? b = some o) -> h'.get? e = some { cls := Value.ref C, dict := dx, data := Data.fields #[Value.ref hp.objs.size, Value.none, Value.none, Value.none, Value.bool false, Value.none] } -> Q Value.none ⟨h', g, d, tk, os⟩)
  (hrest : rest.length <= sizeLine) : wpAny (model prog w) A (call (Value.builtin initId) (Value.ref e :: rest)) Q E ⟨hp, g, d, tk, os⟩ := by
 have hcB : (Value.ref C :: bm).contains (Value.type B) = true := by rw [List.contains_cons, hB, Bool.or_true]
 refine wpAny_call (codeAny_call_builtin F.init.plain F.initEntry ?_)
 have hshort := F.noStar
 simp only [checkBuiltinCall, F.initKind, F.initSplit, F.initRow]
 unfold isInstance
 repeat (first | with_reducible refine wpAny_loadPart_at he ?_ | (with_reducible refine wpAny_isSubtype_exc hC ?_; rw [hcB]) | wp_step)
 refine wpAny_onRaise ?_
 rw [show ∀ (a b : String) (n : Nat), Bind.check ⟨.positional, "*", B, .self, [⟨"args", .varPos, false⟩]⟩ a b n (List.map (fun x => x.fst) ({ pos := Value.ref e :: rest } : Args).kw) = pure () from
  fun a b n => check_star_args _ _ _ _ _ _]
 refine wpAny_pure ?_
 have he2 := Heap.get?_push_of_some (h := hp) { cls := Value.type "tuple", data := Data.seq rest.toArray } he
 wp_walk
 refine hq _ (fun b o hb g => (Heap.get?_update_other _ _ (Ne.symm hb)).trans (Heap.get?_push_of_some _ g)) ?_
 rw [Heap.get?_update_self _ he2 rfl]
 rfl
end
open PySem.W (Frag clsIn findIn takerIn InstAt looks_clsIn looks_findIn looks_takesIn Looks check_slot looks_mroIn mroIn set_plain osa_eq)
open Builtin Builtin.ObjectAttr
def vbm : List Value := [.type "ValueError", .type "Exception", .type "BaseException", .type "object"]
theorem Yo (self : Value) (C D : Addr) : refuseLoop self "__setattr__" (.ref C :: .ref D :: vbm) = pure () := by
 rw [refuseLoop_ref, refuseLoop_ref]
 exact PySem.F.store_ValueError.passes self
section
variable {prog : Program} {w : World} {A : Around} {E : Value -> Shared -> Prop} {K : Frag} {h : Heap} {g : Array GenState} {d : Drawn} {t : Nat} {os : OsState} {x C D : Addr} {cd : ClassData} {name : Str} {v : Value} {o : Obj} {vs : Array Value}
theorem Zt {Q : Unit -> Shared -> Prop} (X : K.In h) (hc : clsIn K C = some cd) (hmro : cd.mro = .ref C :: .ref D :: vbm) (hhd : cd.hasDict = true) (hset : findIn K (.ref C) "__setattr__" = some (some (.builtin "object.__setattr__"))) (hno : findIn K (.ref C) name = some none)
  (hx : h.get? x = some o) (hcl : o.cls = .ref C) (hdn : o.dict = none) (hda : o.data = .fields vs)
  (hq : ∀ (h' : Heap) (tk' : Nat), h'.get? x = some { cls := o.cls, dict := some h.objs.size, data := o.data, slots := o.slots } -> h'.Ns1 h.objs.size (fun y => if y = name then some v else none) ->
   (∀ b ob, b ≠ x -> h.get? b = some ob -> h'.get? b = some ob) -> Q () ⟨h', g, d, tk', os⟩) :
  wpAny (model prog w) A (setAttr (.ref x) name v) Q E ⟨h, g, d, t, os⟩ := by
 have I : ∀ tk : Nat, InstAt (⟨h, g, d, tk, os⟩ : Shared).heap x o C none := fun _ => ⟨hx, hcl, by obtain ⟨_, _, dt, _⟩ := o; cases hda; rfl, by rw [hdn]; trivial⟩
 refine set_plain X (I t) hset ?_
 have SF := PySem.F.store_object
 have ne : cd.mro.isEmpty = false := by rw [hmro]; rfl
 have sub : Looks (model prog w) h (isInstance (.ref x) (.type "object")) true := (I t).type.andThen (looks_mroIn X (by unfold mroIn; rw [hc, Option.bind_some, if_neg (by rw [ne]; decide), hmro]; rfl))
 refine codeAny_call_builtin SF.slot.plain SF.entry (@check_slot (model prog w) _ _ ⟨h, g, d, t + 1, os⟩ "object.__setattr__" "object" "__setattr__" (.ref x) [.str name t, v] [] _ SF.kind SF.split sub (SF.args (.ref x) (.str name t) v) ?_)
 have hm : Looks (model prog w) h (mroOf (.ref C)) cd.mro := (looks_clsIn X hc).andThen .now
 have IT : Looks (model prog w) h (typeOf (.ref x)) (.ref C) := (I t).type
 have LF : Looks (model prog w) h (typeLookup (.ref C) name) none := looks_findIn X hno
 rw [osa_eq, refuse_eq]
 refine wpAny_bind (wpAny_bind (IT.here (wpAny_bind (hm.here ?_))))
 rw [hmro, Yo]
 refine wpAny_pure (wpAny_bind (IT.here (wpAny_bind (LF.here (wpAny_bind (wpAny_pure ?_))))))
 dsimp only
 have LC : Looks (model prog w) h (classData C) cd := looks_clsIn X hc
 obtain ⟨oc, odi, oda, osl⟩ := o
 dsimp only at hcl hdn hda
 subst hcl hdn hda
 refine wpAny_bind (wpAny_pure (wpAny_bind ?_))
 show wpAny _ _ (instanceDict x true) _ _ _
 unfold instanceDict
 refine wpAny_bind (wpAny_loadPart hx (wpAny_bind (LC.here ?_)))
 rw [hhd]
 have hx₁ : (h.push { cls := .type "dict", data := .dict #[] }).get? x = some { cls := .ref C, data := .fields vs, slots := osl } := Heap.get?_push_of_some _ hx
 have hxs : x ≠ h.objs.size := Nat.ne_of_lt (Heap.lt_size hx)
 rw [if_neg (by decide)]
 dsimp only
 rw [if_neg (by simp [typeHasDict])]
 refine wpAny_bind (wpAny_alloc' ?_)
 refine wpAny_bind (wpAny_update' hx₁ ?_)
 refine wpAny_pure ?_
 have hgd : ((h.push { cls := .type "dict", data := .dict #[] }).update x fun o => { cls := o.cls, dict := some h.objs.size, data := o.data, slots := o.slots }).get? h.objs.size
   = some { cls := .type "dict", data := .dict #[] } :=
  (Heap.get?_update_ne _ _ _ _ hxs.symm).trans (Heap.get?_push_at rfl rfl)
 have hnd : ((h.push { cls := .type "dict", data := .dict #[] }).update x fun o => { cls := o.cls, dict := some h.objs.size, data := o.data, slots := o.slots }).Ns h.objs.size (fun _ => none) :=
  ⟨_, #[], _, hgd, rfl, fun e he => absurd he (by simp), fun _ => rfl⟩
 show wpAny _ _ (storeInDict h.objs.size (.str name t) name v) _ _ _
 unfold storeInDict newKeyGuard
 refine wpAny_bind (wpAny_pure (wpAny_bind (wpAny_nsSet1 (Heap.Ns1.of_empty hnd) fun h' hn' hs => ?_)))
 obtain ⟨oD, esD, epD, hoD, hdD, hcD⟩ := hn'.count (Within.cons name v Within.nil)
 refine wpAny_bind (wpAny_lookBehind hoD (by rw [hdD]; exact pastItsLine_dict (Nat.le_trans hcD (by rw [List.length_cons, List.length_nil, sizeLine_eq]; omega))) ?_)
 refine wpAny_pure ?_
 refine hq h' _ ?_ hn' (fun b ob hbx hb => ?_)
 ·refine (hs.2 x hxs).trans (Heap.get?_update_self _ hx₁ ?_)
  exact (Heap.get?_some_iff.mp hx).2
 ·exact (hs.2 b (Nat.ne_of_lt (Heap.lt_size hb))).trans ((Heap.get?_update_ne _ _ _ _ hbx).trans (Heap.get?_push_of_some _ hb))
end
open PySem.W (Frag clsIn findIn takerIn InstAt looks_clsIn looks_findIn looks_takesIn Looks check_slot looks_mroIn mroIn handedIn handedOut_of)
section
variable {prog : Program} {w : World} {A : Around} {E : Value -> Shared -> Prop} {K : Frag} {h : Heap} {g : Array GenState} {d : Drawn} {t : Nat} {os : OsState} {x C D dx : Addr} {cd : ClassData} {name : Str} {v : Value} {o : Obj} {vs : Array Value} {m : Str -> Option Value} {expr : Bool}
theorem aak {Q : Value -> Shared -> Prop} (X : K.In h) (hc : clsIn K C = some cd) (hmro : cd.mro = .ref C :: .ref D :: vbm) (hhd : cd.hasDict = true) (hga : findIn K (.ref C) "__getattribute__" = some (some (.builtin "BaseException.__getattribute__"))) (hk : findIn K (.ref C) "__getattr__" = some none) (hno : findIn K (.ref C) name = some none)
  (hx : h.get? x = some o) (hcl : o.cls = .ref C) (hdx : o.dict = some dx) (hda : o.data = .fields vs) (hn : h.Ns dx m) (hm : m name = some v) (hh : handedIn v = true) (hq : Q v ⟨h, g, d, t + 1, os⟩) :
  wpAny (model prog w) A (getAttr (.ref x) name expr) Q E ⟨h, g, d, t, os⟩ := by
 obtain ⟨oc, odi, oda, osl⟩ := o
 dsimp only at hcl hdx hda
 subst hcl hdx hda
 have IT : Looks (model prog w) h (typeOf (.ref x)) (.ref C) := (Looks.ld hx).andThen .now
 have L1 : Looks (model prog w) h (typeLookup (.ref C) "__getattribute__") (some (.builtin "BaseException.__getattribute__")) := looks_findIn X hga
 have LK : Looks (model prog w) h (typeLookup (.ref C) "__getattr__") none := looks_findIn X hk
 have LF : Looks (model prog w) h (typeLookup (.ref C) name) none := looks_findIn X hno
 have LC : Looks (model prog w) h (classData C) cd := looks_clsIn X hc
 have ne : cd.mro.isEmpty = false := by rw [hmro]; rfl
 have sub : Looks (model prog w) h (isInstance (.ref x) (.type "BaseException")) true := IT.andThen (looks_mroIn X (by unfold mroIn; rw [hc, Option.bind_some, if_neg (by rw [ne]; decide), hmro]; rfl))
 have FB := PySem.F.attrBase_ValueError
 refine wpAny_bind (wpAny_mkText (wpAny_holding (wpAny_bind (IT _ _ _ _ (fun _ _ e => e) (wpAny_bind (L1 _ _ _ _ (fun _ _ e => e) ?_))))))
 dsimp only
 have hx2 : (Value.builtin "BaseException.__getattribute__" == Value.builtin "object.__getattribute__") = false := by decide +kernel
 rw [show (onTheHeap (Value.ref C) && Value.builtin "BaseException.__getattribute__" == Value.builtin "object.__getattribute__") = false from by rw [hx2]; rfl, if_neg (by decide)]
 unfold getAttrByItsOwn
 have HB : Looks (model prog w) h (hookBefore (.ref C)) none := by
  unfold hookBefore
  rw [if_pos (show onTheHeap (Value.ref C) = true from rfl)]
  exact LK
 refine wpAny_bind (HB _ _ _ _ (fun _ _ e => e) (wpAny_bind (wpAny_attempt (wpAny_holding ?_))))
 unfold callGetattribute
 rw [show (expr && onTheHeap (Value.builtin "BaseException.__getattribute__")) = false from Bool.and_false _, if_neg (by decide)]
 unfold boundAndCalled
 rw [FB.ga.bind]
 refine wpAny_bind (wpAny_pure ?_)
 show wpAny _ _ (call (.builtin "BaseException.__getattribute__") [.ref x, .str name t]) _ _ _
 refine wpAny_call ?_
 refine codeAny_call_builtin FB.ga.plain F.entry_bexc_ga ?_
 refine @check_slot (model prog w) _ _ ⟨h, g, d, t + 1, os⟩ "BaseException.__getattribute__" "BaseException" "__getattribute__" (.ref x) [.str name t] [] _ (by decide +kernel) (by decide +kernel) sub (F.args_bexc_ga (.ref x) (.str name t)) ?_
 unfold Builtin.«object.__getattribute__»
 have LO : Looks (model prog w) h (inOwnDict name (.ref x)) (some v) := by
  intro A Q E s k q
  refine wpAny_bind (wpAny_bind (wpAny_loadPart (k _ _ hx) ?_))
  show wpAny _ _ (instanceDict x false) _ _ _
  unfold instanceDict
  refine wpAny_bind (wpAny_loadPart (k _ _ hx) (wpAny_bind (LC A _ E s k ?_)))
  rw [hhd]
  refine wpAny_pure (a := some dx) ?_
  exact wpAny_nsGet (hn.keeps k) (by rw [hm]; exact q)
 have LV : Looks (model prog w) h (find (.ref x) (.ref C) name) (.value v) := by
  refine LF.andThen (Looks.now.andThen (Looks.now.andThen (LO.andThen ?_)))
  exact Looks.tag .now
 refine wpAny_bind (wpAny_pure (wpAny_bind (wpAny_pure (wpAny_bind (IT _ _ _ _ (fun _ _ e => e) (wpAny_bind (LV _ _ _ _ (fun _ _ e => e) (wpAny_pure ?_))))))))
 show wpAny _ _ (handedOut v) _ _ _
 rw [handedOut_of hh]
 exact wpAny_pure hq
end
def XO (a C : Addr) (dx : Option Addr) : HO := .ext fun h => ∃ t, h.get? a = some { cls := .ref C, dict := dx, data := .fields #[.ref t, .none, .none, .none, .bool false, .none] }
structure qg (K : PySem.W.Frag) (C D N fI : Addr) : Prop where
 obj : ∃ nm q bs sn sub ab col dd k0 k1 k2 k3 k5, K.lookup C = some (excClassObj nm q C N bs (.ref D :: vbm) true sn sub ab col dd k0 k1 k2 k3 k5 "ValueError.__new__")
 tail : PySem.W.tailIn K vbm (.ref D :: vbm) = true
 nsok : PySem.W.nsOkIn K N = true
 init : PySem.W.nsIn K N "__init__" = some (some (.ref fI))
 set : PySem.W.findIn K (.ref C) "__setattr__" = some (some (.builtin "object.__setattr__"))
 ga : PySem.W.findIn K (.ref C) "__getattribute__" = some (some (.builtin "BaseException.__getattribute__"))
 gk : PySem.W.findIn K (.ref C) "__getattr__" = some none
structure XBase (K : PySem.W.Frag) (D : Addr) : Prop where
 reads : PySem.W.readsIn K D (.type "type") = true
 sp : PySem.W.specialIn K (.ref D) "__getattribute__" = some (some (.builtin "type.__getattribute__"))
 fnd : PySem.W.findCls K (.ref D) (.type "type") "__init__" = some (.val (.builtin "ValueError.__init__"))
section
variable {X : Cx} {C D N fI : Addr} {x : Str} {np apos cpos : Pos} {e : Expr} {es : List Expr} {t : TA}
def tBI (C : Addr) (t : TA) : TE := fun σ H Q => t σ H fun vs H1 => ∃ a rest dx, vs = .ref a :: rest /\ rest.length <= 1000 /\ H1 a = some (XO a C dx) /\ Q .non H1
theorem W2 {H : Hp} {a : Addr} {o : HO} (h : H a = some o) : upd H a o = H := by
 funext b
 unfold upd
 split
 ·rename_i z; rw [z, h]
 ·rfl
theorem O2 {pl : Sem Bool} (XC : qg X.K C D N fI) (XD : XBase X.K D) (hg : Gl X x) (hm : X.mg x = some (.ref D)) (ha : PA X (e :: es) t) (hdb : (x == ("__debug__" : Str)) = false := by decide)
  (hst : starEach (e :: es) X.env = (false, eval e X.env) :: starEach es X.env := by rfl) (hpl : (backTo cpos (starEach es X.env)).any (·.1) = false := by rfl)
  (ht : eval (.Call (.Attribute (.Name x np) "__init__" apos) (e :: es) [] cpos) X.env = (do
   let ov <- eval (.Name x np) X.env
   standAt apos.atName
   let (f, first) <- holding [ov] (getMethod ov "__init__" pl)
   callWith cpos f first (backTo cpos (starEach (e :: es) X.env)) (backToKw cpos (keywordEach [] X.env))) := by rfl) :
  PE X (.Call (.Attribute (.Name x np) "__init__" apos) (e :: es) [] cpos) (tBI C t) := by
 intro pins s σ H Q I h
 refine PySem.W.methodCall_KW (pl := pl) (vG I hg hm ?_ hdb) ht
 refine PySem.W.method_cls I.kIn XD.sp (PySem.W.cls_value I.kIn XD.reads XD.fnd (by decide +kernel) ?_)
 have I1 := I.tok (s.toks + 1)
 have hA := ha cpos pins _ σ H _ I1 h
 rw [hst] at hA |-
 refine Calls.callWith_builtin (by show (false || (backTo cpos (starEach es X.env)).any (·.1)) = false; rw [hpl] <;> rfl) (Calls.evalArgs_plain ?_)
 refine thn hA fun us s2 ⟨vs, H2, I2, r2, a, rest, dx, ev, hl, hH, q⟩ => ?_
 subst ev
 cases r2 with
 | cons ra rr =>
  obtain rfl := (show _ = Value.ref a from ra)
  obtain ⟨t0, ht0⟩ := (show ∃ t, _ from ((I2.hok a _ hH).1))
  obtain ⟨nm, q', bs, sn, sub, ab, col, dd, k0, k1, k2, k3, k5, hC⟩ := XC.obj
  obtain ⟨hp, g, d, tk, os⟩ := s2
  refine Y5 (rest := _) PySem.F.excBase_ValueError (bm := .ref D :: vbm) rfl (I2.kIn _ _ hC) ht0 (fun h' k1 k2 => ?_) ?_
  ·have I3 := I2.write (x := a) (e := a) (o := XO a C dx) (t' := tk) (h' := h') (by rw [hH]; trivial) (.inl rfl) k1 ⟨_, k2⟩ ⟨⟨_, k2⟩, ⟨_, k2⟩, fun h1 h2 ⟨t, z⟩ z2 => ⟨t, z2 _ z⟩⟩
   rw [W2 hH] at I3
   exact ⟨.non, H2, I3, rfl, q⟩
  ·rw [<- rr.length]
   exact Nat.le_trans hl (by rw [sizeLine_eq]; decide)
end
section
variable {X : Cx} {C D N fI : Addr} {f : Str} {o value : Expr} {pos pos' : Pos} {ta tv : TE}
def M8 (K : PySem.W.Frag) (C : Addr) (ta tv : TE) (f : Str) : TS := fun D σ H => tv σ H fun y H1 => ta σ H1 fun x H2 => ∃ a, x = .ref a /\ H2 a = some (XO a C none) /\ PySem.W.findIn K (.ref C) f = some none /\
 ∀ dx, H2 dx = none -> dx ≠ a -> D.nx σ (upd (upd H2 dx (.xd [(f, y)])) a (XO a C (some dx)))
theorem M9 {f : Str} {y : V} {u : Value} (r : RelV y u) (f' : Str) : yL ([(f, y)].lookup f') (if f' = f then some u else none) := by
 unfold List.lookup
 by_cases h : f' = f
 ·subst h
  rw [if_pos rfl, show (f' == f') = true from beq_self_eq_true f']
  exact r
 ·rw [if_neg h, show (f' == f) = false from beq_eq_false_iff_ne.mpr h]
  exact trivial
theorem qg.cls {K : PySem.W.Frag} (c : qg K C D N fI) : ∃ cd, PySem.W.clsIn K C = some cd /\ cd.mro = .ref C :: .ref D :: vbm /\ cd.hasDict = true := by
 obtain ⟨nm, q', bs, sn, sub, ab, col, dd, k0, k1, k2, k3, k5, hC⟩ := c.obj
 unfold PySem.W.clsIn
 rw [hC]
 exact ⟨_, rfl, rfl, rfl⟩
theorem Ui (XC : qg X.K C D N fI) (ha : PE X o ta) (hv : PE X value tv) (hs : swapsWith value (some (.Attribute o f pos')) pos.line X.env = pure false) : PS X (.Assign [.Attribute o f pos'] value pos) (M8 X.K C ta tv f) := by
 intro pins s σ H Dn I h
 refine plainObj_wpAny_Assign_Attribute (thE (hv pins s σ H _ I h) fun u s1 y H1 I1 ry q => thn (ha pins s1 σ H1 _ I1 q) fun ov s2 ⟨x, H2, I2, rx, a, ex, ea, hno, q2⟩ => ?_) hs
 subst ex
 obtain rfl : ov = Value.ref a := rx
 obtain ⟨cd, c1, c2, c3⟩ := XC.cls
 obtain ⟨t0, ht0⟩ := (show ∃ t, _ from ((I2.hok a _ ea).1))
 obtain ⟨hp, g, d, tk, os⟩ := s2
 refine Zt I2.kIn c1 c2 c3 XC.set hno ht0 rfl rfl rfl fun h' tk' g1 g2 g3 => ?_
 have hfr : H2 hp.objs.size = none := I2.hok.fresh (Nat.le_refl _)
 have hne : hp.objs.size ≠ a := fun z => by
  have := Heap.lt_size ht0
  rw [z] at this
  exact Nat.lt_irrefl _ this
 have old : ∀ b u, H2 b = some u -> b ≠ hp.objs.size := fun b u e z => by rw [z, hfr] at e; cases e
 have oth : ∀ b u, H2 b = some u -> u ≠ XO a C none -> upd (upd H2 hp.objs.size (.xd [(f, y)])) a (XO a C (some hp.objs.size)) b = some u := fun b u e ne => by
  rw [aJ (fun z => ne (by rw [z, ea] at e; exact (Option.some.inj e).symm)), aJ (old b u e), e]
 have lt : ∀ b ob, hp.get? b = some ob -> b ≠ hp.objs.size := fun b ob e z => by
  have := Heap.lt_size e
  rw [z] at this
  exact Nat.lt_irrefl _ this
 refine ⟨σ, _, I2.un (h' := h') (t' := tk') ?_ ?_, q2 _ hfr hne⟩
 ·refine ⟨fun b ob e n _ _ => ?_, fun b ob e n _ _ => ⟨ob.slots, ?_⟩, fun b ob e n _ => ?_, fun b ob e _ => ?_, fun b xs e => oth b _ e (by unfold XO; exact fun z => nomatch z), fun b ob u e => oth b _ e (by unfold XO; exact fun z => nomatch z), fun b ps e => ⟨#[], by rw [Array.append_empty]; exact oth b _ e (by unfold XO; exact fun z => nomatch z)⟩⟩
  ·exact g3 b ob (fun z => by rw [z, ea] at n; cases n) e
  ·exact g3 b ob (fun z => by rw [z, ea] at n; cases n) e
  ·rw [aJ (fun z => by rw [z, ea] at n; cases n), aJ (lt b ob e), n]
  ·by_cases z : b = a
   ·rw [z]; exact ⟨_, g1⟩
   ·exact ⟨_, g3 b ob z e⟩
 ·intro c u e
  by_cases z : c = a
  ·subst z
   rw [aB] at e
   cases e
   exact ⟨⟨t0, g1⟩, ⟨_, g1⟩, fun h1 h2 ⟨t, z⟩ z2 => ⟨t, z2 _ z⟩⟩
  ·rw [aJ z] at e
   by_cases z2 : c = hp.objs.size
   ·rw [z2, aB] at e
    cases e
    rw [z2]
    exact ⟨_, g2, fun f' => M9 ry f'⟩
   ·rw [aJ z2] at e
    refine (I2.hok c u e).stay (fun b ob hb eb => g3 b ob (fun zz => ?_) eb) (fun b hb => oth b _ hb (by unfold XO; exact fun z => nomatch z)) fun b xs hb => oth b _ hb (by unfold XO; exact fun z => nomatch z)
    rcases hb with hb | hb
    ·exact z (hb.symm.trans zz)
    ·rw [zz, ea] at hb; cases hb
end
abbrev TJ := St -> Hp -> (Hp -> Prop) -> Prop
def PJ (X : Cx) (es : List Expr) (t : TJ) : Prop :=
 ∀ (pins : List (Addr × Obj)) (s : Shared) (σ : St) (H : Hp) (acc : Str) (R : Hp -> Prop) (Q : Str -> Shared -> Prop), Inv X pins σ H s -> acc.length + 400 * es.length <= sizeLine -> t σ H R ->
  (∀ out s' H', Inv X pins σ H' s' -> out.length <= sizeLine -> R H' -> Q out s') -> Joins (model X.prog X.w) X.A X.xe (evalEach es X.env) acc Q s
section
variable {X : Cx} {e : Expr} {es : List Expr} {t : TJ} {te : TE} {x : Str} {j : Nat} {pos : Pos}
theorem X8 : PJ X [] (fun _ H R => R H) := fun pins s σ H acc R Q I hl h k => k acc s H I (Nat.le_trans (Nat.le_add_right _ _) hl) h
theorem Oo {kd} (hx : x.length <= 400) (hr : PJ X es t) : PJ X (.Constant (.str x) kd pos :: es) t := by
 intro pins s σ H acc R Q I hl h k
 show wpAny (model X.prog X.w) X.A (eval (.Constant (.str x) kd pos) X.env) _ X.xe s
 refine Calls.Constant_str ⟨x, _, rfl, ?_, hr pins _ σ H (acc ++ x) R Q (I.tok _) ?_ h k⟩
 ·rw [strLen_append]
  rw [List.length_cons] at hl
  omega
 ·rw [strLen_append]
  rw [List.length_cons] at hl
  omega
theorem Yb (he : PE X e te) (hr : PJ X es t) : PJ X (.FormattedValue e (-1) none pos :: es) (fun σ H R => te σ H fun v H1 => ∃ i : Int, v = .int i /\ (-(2 ^ 70) < i /\ i < 2 ^ 70) /\ t σ H1 R) := by
 intro pins s σ H acc R Q I hl h k
 show wpAny (model X.prog X.w) X.A (eval (.FormattedValue e (-1) none pos) X.env) _ X.xe s
 refine wpAny_FormattedValue_plain (thn (he pins s σ H _ I h) fun u s1 ⟨v, H1, I1, rv, i, ev, hb, q⟩ => ?_)
 subst ev
 obtain ⟨tk, rfl⟩ := (show ∃ tk, u = Value.int i tk from rv)
 have hlg : i.natAbs.log2 < 1920 := by
  have : i.natAbs < 2 ^ 70 := by omega
  by_cases z : i.natAbs = 0
  ·rw [z]; decide
  ·have := (Nat.log2_lt z).mpr this
   omega
 have h4 := VG (i := i) (by omega)
 rw [List.length_cons] at hl
 refine wpAny_formatField_int hlg ⟨_, _, rfl, ?_, hr pins _ σ H1 _ R Q (I1.tok _) ?_ q k⟩
 ·rw [strLen_append]; omega
 ·rw [strLen_append]; omega
theorem JX {v₁ v₂ : Expr} {rest : List Expr} (h : PJ X (v₁ :: v₂ :: rest) t) (hl : (v₁ :: v₂ :: rest).length <= 100) : PE X (.JoinedStr (v₁ :: v₂ :: rest) pos) (fun σ H Q => t σ H fun H1 => ∀ x, Q (.str x) H1) := by
 intro pins s σ H Q I ht
 refine wpAny_JoinedStr (h pins s σ H Str.empty _ _ I ?_ ht fun out s' H' I' ho q => ⟨ho, .str out, H', I'.tok _, ⟨_, rfl⟩, q out⟩)
 show 0 + 400 * _ <= _
 rw [sizeLine_eq]
 omega
end
structure Zj (X : Cx) (s : Shared) (H : Hp) (x : Addr) (ox : Obj) (vs : Array Value) : Prop where
 at_ : s.heap.get? x = some ox
 dat : ox.data = Data.fields vs
 siz : 1 < vs.size
 new : X.s₀.heap.objs.size <= x
 loc : x ≠ X.env.locals
 fre : H x = none
 tb : vs[1]? = some Value.none \/ ∃ T ts, vs[1]? = some (Value.ref T) /\ T ≠ x /\ s.heap.get? T = some { cls := Value.type "traceback", data := Data.fields ts } /\ ts[3]? = some Value.none /\ X.s₀.heap.objs.size <= T /\ H T = none
def Ze (X : Cx) (E : XK) : Prop := ∀ (pins : List (Addr × Obj)) (σ : St) (H : Hp) (s : Shared) (x : Addr) (ox : Obj) (vs : Array Value), Inv X pins σ H s -> Zj X s H x ox vs -> E ox.cls ox.dict H -> X.xe (.ref x) s
theorem Z4 {P : Program} {w : World} {K : PySem.W.Frag} {mg : Str -> Option Value} {base : Heap} {N : List Str} {qual : Str} {scope : Scope} {f : Addr} {cd : Value} {A : Around} {outer : List Env} {s : Shared} {H : Hp} {E : XK} :
  Ze (yE (CX1 P w) P w K mg base N qual scope f cd A outer s H E) E := by
 intro pins σ H2 s2 x ox vs I2 L q
 have hst := I2.stack
 have hen : x ∉ frs (envOfC qual scope s.heap.objs.size f cd :: outer) := fun hm => by
  rcases List.mem_cons.mp (I2.tM x hm) with z | z
  ·exact L.loc z
  ·obtain ⟨_, o, g, _⟩ := I2.ok.pB.mem z
   exact absurd (Heap.lt_size g) (Nat.not_lt.mpr L.new)
 have hfree := I2.vq
 show wpAny (model P w) (A.deeper (envOfC qual scope s.heap.objs.size f cd)) (leaving (envOfC qual scope s.heap.objs.size f cd) (Value.ref x)) _ _ s2
 refine Vm (base := base) (outer := outer) (L := s.heap.objs.size) I2.ok.frames hst rfl L.at_ L.dat L.siz hen ?_ ?_
 ·rcases L.tb with z | ⟨T, ts, z1, z2, z3, z4, _, _⟩
  ·exact .inl z
  ·exact .inr ⟨T, ts, z1, z2, z3, z4⟩
 ·intro h' T ts g1 g2 g3 g4 g5 g6 g7
  have hT0 : ∀ b, vs[1]? = some (Value.ref b) -> s.heap.objs.size <= b /\ H2 b = none := fun b hb => by
   rcases L.tb with z | ⟨T0, _, z, _, _, _, z5, z6⟩
   ·rw [z] at hb; cases hb
   ·rw [z] at hb; cases hb; exact ⟨z5, z6⟩
  have old : ∀ b o, s.heap.get? b = some o -> b < s.heap.objs.size /\ b ≠ x /\ vs[1]? ≠ some (Value.ref b) := fun b o g => by
   have hb := Heap.lt_size g
   have hn : s.heap.objs.size <= x := L.new
   refine ⟨hb, fun z => ?_, fun z => ?_⟩
   ·subst z; exact absurd (Nat.lt_of_lt_of_le hb hn) (Nat.lt_irrefl _)
   ·exact absurd (Nat.lt_of_lt_of_le hb (hT0 b z).1) (Nat.lt_irrefl _)
  have hH2T : H2 T = none := I2.hok.fresh g5
  refine ⟨x, _, _, H2, rfl, ⟨g1, rfl, ?_, L.new, L.fre, .inr ⟨T, ts, ?_, g4, g2, g3, ?_, hH2T⟩⟩, I2.os, I2.bare, ?_, ?_, q⟩
  ·rw [Array.size_setIfInBounds]; exact L.siz
  ·rw [Array.getElem?_setIfInBounds_self_of_lt L.siz]
  ·exact Nat.le_trans I2.sz g5
  ·have B := I2.base
   refine ⟨fun b o g n hf hx => ?_, fun b o g n hf hx => ?_, B.free, fun b o g hx => ?_, B.tups, B.frzs, B.tbls⟩
   ·obtain ⟨c1, c2, c3⟩ := old b o g
    refine g6 b o c2 (fun z => ?_) c3 (B.keep b o g n hf hx)
    rcases List.mem_cons.mp (show b ∈ s.heap.objs.size :: frs outer from z) with z | z
    ·rw [z] at c1; exact absurd c1 (Nat.lt_irrefl _)
    ·exact hf z
   ·obtain ⟨sl, g'⟩ := B.slot b o g n hf hx
    obtain ⟨sl', g''⟩ := g7 b _ (List.mem_cons_of_mem _ hf) g'
    exact ⟨sl', g''⟩
   ·obtain ⟨c1, c2, c3⟩ := old b o g
    obtain ⟨o', g'⟩ := B.there b o g hx
    by_cases hm : b ∈ frs (envOfC qual scope s.heap.objs.size f cd :: outer)
    ·obtain ⟨sl, g''⟩ := g7 b o' hm g'
     exact ⟨_, g''⟩
    ·exact ⟨_, g6 b o' c2 hm c3 g'⟩
  ·intro a o ha
   refine (I2.hok a o ha).stay (fun b u hb gb => ?_) (fun _ z => z) fun _ _ z => z
   have hb' : H2 b ≠ none := by
    rcases hb with rfl | hb
    ·rw [ha]; exact fun z => nomatch z
    ·rw [hb]; exact fun z => nomatch z
   refine g6 b u (fun z => hb' (by rw [z]; exact L.fre)) (fun z => hb' (hfree b z)) (fun z => hb' (hT0 b z).2) gb
def unt (H : Hp) (a : Addr) : Hp := fun b => if b = a then none else H b
theorem Cd {H : Hp} {a : Addr} : unt H a a = none := by unfold unt; rw [if_pos rfl]
theorem Aa {H : Hp} {a b : Addr} (h : b ≠ a) : unt H a b = H b := by unfold unt; rw [if_neg h]
theorem Inv.forget {X : Cx} {pins : List (Addr × Obj)} {σ : St} {H : Hp} {s : Shared} {e C : Addr} {dx : Option Addr} (I : Inv X pins σ H s) (he : H e = some (XO e C dx)) : Inv X pins σ (unt H e) s := by
 have oth : ∀ b u, H b = some u -> u ≠ XO e C dx -> unt H e b = some u := fun b u h n => by
  rw [Aa (fun z => n (by rw [z, he] at h; exact (Option.some.inj h).symm)), h]
 have non : ∀ b, H b = none -> unt H e b = none := fun b h => by
  unfold unt
  split
  ·rfl
  ·exact h
 have B := I.base
 refine ⟨I.ok, I.os, I.bare, ⟨B.keep, B.slot, fun b o g n hx => non b (B.free b o g n hx), B.there, fun b xs h => oth b _ (B.tups b xs h) (by unfold XO; exact fun z => nomatch z), fun b o u h => oth b _ (B.frzs b o u h) (by unfold XO; exact fun z => nomatch z), fun b ps h => ?_⟩, I.loc, I.cell, non _ I.free, fun x c h => non _ (I.freeC x c h), fun p hp => ?_, fun a o ha => ?_, I.len⟩
 ·obtain ⟨m, hm⟩ := B.tbls b ps h
  exact ⟨m, oth b _ hm (by unfold XO; exact fun z => nomatch z)⟩
 ·obtain ⟨z1, z2, z3⟩ := I.pin p hp
  exact ⟨z1, non _ z2, z3⟩
 ·have hne : a ≠ e := fun z => by rw [z, Cd] at ha; cases ha
  rw [Aa hne] at ha
  exact (I.hok a o ha).stay (fun b u _ g => g) (fun b h => oth b _ h (by unfold XO; exact fun z => nomatch z)) fun b xs h => oth b _ h (by unfold XO; exact fun z => nomatch z)
theorem J9 {K : PySem.W.Frag} {h : Heap} {N : Addr} {mg : Str -> Option Value} {n : Str} {v : Value} (X : K.In h) (G : h.Ns N mg) (e : PySem.W.nsIn K N n = some (some v)) : mg n = some v := by
 obtain ⟨o, es, ep, ho, hd, _, hf⟩ := G
 unfold PySem.W.nsIn at e
 split at e
 ·rename_i q
  have q := (X _ _ q).symm.trans ho
  cases q
  cases hd
  split at e
  ·rename_i he
   cases e
   rw [<- hf]
   unfold nsFind findBy
   rw [<- Array.find?_toList, he]
   rfl
  ·split at e <;> cases e
 ·cases e
section
variable {X : Cx} {C D N fI : Addr} {x : Str} {np cpos pos : Pos} {e : Expr} {es : List Expr} {t : TA} {k : Nat} {fd : FuncData} {ps : List Str} {sp : Sp} {E : XK}
def Ad (C : Addr) (sp : Sp) (E : XK) (t : TA) : TS := fun _ σ H => t σ H fun vs H1 => vs.length <= 1000 /\ ∀ a, H1 a = none ->
 sp (.ref a :: vs) (upd H1 a (XO a C none)) (fun v H2 => v = .non /\ ∃ dx, H2 a = some (XO a C (some dx)) /\ E (.ref C) (some dx) (unt H2 a)) E0
theorem JT (XC : qg X.K C D N fI) (F : dh X.prog X.w X.K X.mg X.base CX0 k fI fd ps sp) (hr : gB (k + 1) X.A) (hb : Binds X.K fd ps []) (hfI : ∃ oI, X.K.lookup fI = some oI /\ oI.cls = .type "function") (hcalm : X.calm = true) (hout : Ze X E)
  (hg : Gl X x) (hm : X.mg x = some (.ref C)) (ha : PA X (e :: es) t) (hdb : (x == ("__debug__" : Str)) = false := by decide)
  (hst : starEach (e :: es) X.env = (false, eval e X.env) :: starEach es X.env := by rfl) (hpl : (backTo cpos (starEach es X.env)).any (·.1) = false := by rfl) :
  PS X (.Raise (some (.Call (.Name x np) (e :: es) [] cpos)) none pos) (Ad C sp E t) := by
 intro pins s σ H Dn I h
 have hplain : (backTo cpos (starEach (e :: es) X.env)).any (·.1) = false := by
  rw [hst]; show (false || (backTo cpos (starEach es X.env)).any (·.1)) = false; rw [hpl] <;> rfl
 obtain ⟨nm, q', bs, sn, sub, ab, col, dd, k0, k1, k2, k3, k5, hC⟩ := XC.obj
 obtain ⟨oI, hoI, hoc⟩ := hfI
 have hA := ha cpos pins s σ H _ I h
 have hE : wpAny (model X.prog X.w) X.A (evalArgs (.ref C) true (backTo cpos (starEach (e :: es) X.env)) []) (fun a s2 => a.kw = [] /\ AP X pins σ (fun vs H1 => vs.length <= 1000 /\ ∀ a, H1 a = none ->
   sp (.ref a :: vs) (upd H1 a (XO a C none)) (fun v H2 => v = .non /\ ∃ dx, H2 a = some (XO a C (some dx)) /\ E (.ref C) (some dx) (unt H2 a)) E0) a.pos s2) X.xe s := by
  rw [hst] at hA |-
  exact Calls.evalArgs_plain (thn hA fun us s2 z => ⟨rfl, z⟩)
 rw [arm_exec_Raise]
 refine wpAny_bind (wpAny_standAt (SX (C := C) (nm := nm) (q := q') (N := N) (bs := bs) (bm := .ref D :: vbm) (hdct := true) (sn := sn) (sub := sub) (ab := ab) (col := col) (dd := dd) (k0 := k0) (k1 := k1) (k2 := k2) (k3 := k3) (k5 := k5) (newId := "ValueError.__new__") rfl (I.ok.hd hcalm) ?_))
 refine wpAny_bind (wpAny_mono (wpAny_Call_ofName (vG I hg hm ?_ hdb)) (fun v s₃ h₃ => wpAny_bind (wpAny_standAt (wpAny_pure h₃))) fun _ _ x => x)
 unfold callWith
 refine wpAny_bind (wpAny_holding (wpAny_mono hE (fun a s₂ h₂ => wpAny_bind (wpAny_standAt ?_)) fun _ _ x => x))
 obtain ⟨apos, akw⟩ := a
 obtain ⟨hkw, vs, H1, I1, rv, hl, hsp⟩ := h₂
 obtain rfl : akw = [] := hkw
 obtain ⟨hp, g, d, tk, os⟩ := s₂
 simp only [hplain]
 have hC1 := I1.kIn _ _ hC
 refine wpAny_bind (wpAny_keeperOf_exc hC1 ?_)
 refine wpAny_bind ?_
 have T : OwnTail hp vbm (.ref D :: vbm) := PySem.W.tail_of_in I1.kIn XC.tail
 have hNs : hp.Ns N (hp.nsMap N) := .of_isNs (PySem.W.isNs_of_in I1.kIn XC.nsok)
 refine K8 (B := "ValueError") (Bn := "ValueError") (bmB := vbm) (bmN := vbm) PySem.F.excBase_ValueError rfl PySem.F.excBase_ValueError T hC1 hNs (J9 I1.kIn hNs XC.init) (I1.kIn _ _ hoI) hoc ?_ ?_
 ·intro h' ea hs hmk
  obtain ⟨tt, hget, _, _⟩ := hmk.there
  have I2 := I1.laid (a := ea) (o := XO ea C none) (t' := tk) (h' := h') hmk.keeps hs ⟨⟨tt, hget⟩, ⟨_, hget⟩, fun h1 h2 ⟨t, z⟩ z2 => ⟨t, z2 _ z⟩⟩
  have hq := hsp ea (I1.hok.fresh hs)
  have r2 : Vals (V.ref ea :: vs) (Value.ref ea :: apos) := .cons rfl rv
  have hln : (Value.ref ea :: apos ++ []).length = ps.length := by
   rw [List.append_nil, <- r2.length]
   exact F.len _ _ _ _ hq
  have hbn := hb _ (Value.ref ea :: apos) I2.kIn hln
  rw [List.append_nil] at hbn
  refine wpAny_call (codeAny_mono (F.run _ X.stack _ _ ⟨Value.ref ea :: apos, []⟩ (Value.ref ea :: apos) _ _ E0 (hr.make C apos []) (I2.env0.make C apos []) hbn r2 hq) fun r s' hq' => ?_)
  cases r with
  | error e' => exact False.elim hq'
  | ok fl =>
   cases fl with
   | ret u =>
    obtain ⟨v, H3, I3, ru, ev, dx, hH, hEE⟩ := I2.after hq'
    subst ev
    obtain ⟨t3, ht3⟩ := (show ∃ t, _ from ((I3.hok ea _ hH).1))
    refine ⟨ru, wpAny_bind (wpAny_holding (wpAny_point (wpAny_pure ⟨ea, t3, some dx, rfl, I3.kIn _ _ hC, ht3, ?_⟩)))⟩
    refine hout pins σ (unt H3 ea) s' ea _ _ (I3.forget hH) ⟨ht3, rfl, by show 1 < 6; decide, Nat.le_trans I1.sz hs, fun z => ?_, Cd, .inl rfl⟩ hEE
    have := I1.lt
    rw [<- z] at this
    exact Nat.lt_irrefl _ (Nat.lt_of_lt_of_le this hs)
   | next => exact False.elim hq'
   | brk => exact False.elim hq'
   | cont => exact False.elim hq'
 ·show apos.length <= _
  rw [<- (show Vals vs apos from rv).length]
  exact Nat.le_trans hl (by rw [sizeLine_eq]; decide)
end
section
variable {M : Model} {A : Around} {E : Value -> Shared -> Prop}
variable {nm q nmD qD : Str} {C N D ND : Addr} {bs bm bsD bmD : List Value} {hdct hdctD : Bool} {sn snD : List Str} {sub subD : List Value} {ab abD : Bool} {col colD : Option Bool} {dd ddD : Option Addr} {k0 k1 k2 k3 k5 j0 j1 j2 j3 j5 : Option Value} {newId newIdD : String}
theorem V5 {h : Heap} {g : Array GenState} {d : Drawn} {t : Nat} {os : OsState} {e : Addr} {oe : Obj} {Q : Bool -> Shared -> Prop}
  (hC : h.get? C = some (excClassObj nm q C N bs bm hdct sn sub ab col dd k0 k1 k2 k3 k5 newId)) (hD : h.get? D = some (excClassObj nmD qD D ND bsD bmD hdctD snD subD abD colD ddD j0 j1 j2 j3 j5 newIdD)) (he : h.get? e = some oe) (hcls : oe.cls = .ref C)
  (hbase : bmD.contains (.type "BaseException") = true) (hs : bm.contains (.ref D) = true) (hq : Q true ⟨h, g, d, t, os⟩) : wpAny M A (excMatches (.ref e) (.ref D)) Q E ⟨h, g, d, t, os⟩ := by
 have hcB : (Value.ref D :: bmD).contains (.type "BaseException") = true := by rw [List.contains_cons, hbase, Bool.or_true]
 have hcS : (Value.ref C :: bm).contains (.ref D) = true := by rw [List.contains_cons, hs, Bool.or_true]
 have f1 := tc_notTuple
 have hT : (⟨h, g, d, t, os⟩ : Shared).TypeIs (.ref D) "type" := ⟨_, hD, rfl⟩
 unfold excMatches
 repeat (any_goals (first | assumption | (with_reducible refine wpAny_loadPart_at he ?_; rw [hcls]) | with_reducible refine wpAny_loadPart_at hD ?_ | (with_reducible refine wpAny_isSubtype_exc hD ?_; rw [hcB]) | (with_reducible refine wpAny_isSubtype_exc hC ?_; rw [hcS]) | wp_step))
end
theorem vH {X : Cx} {pins : List (Addr × Obj)} {σ : St} {H : Hp} {s : Shared} {M : Model} {A : Around} {E : Value -> Shared -> Prop} {i : Nat} {n : Str} {pos : Pos} {Q : Unit -> Shared -> Prop} (I : Inv X pins σ H s) (hN : X.N.Nodup) (hi : X.N[i]? = some n) (hk : X.env.scope.names.lookup n = some .local)
  (h : ∀ s', Inv X pins (σ.set i none) H s' -> Q () s') : wpAny M A (do bindName X.env n .none; unbindBehindTheSuite X.env n pos) Q E s := by
 obtain ⟨m, hn, hl⟩ := id I.loc
 have hcls : (X.env.scope.kind == .class || (X.env.scope.kind == .module && X.env.locals != X.env.globals)) = false := by rw [I.ok.kind]; rfl
 have hiσ : i < σ.length := by rw [I.len]; exact (List.getElem?_eq_some_iff.mp hi).1
 have cne := I.cne
 have tracked : ∀ {a : Addr} {h' : Heap}, (∃ o, s.heap.get? a = some o /\ H a = none) -> Heap.SameBut a s.heap h' -> HOk X.prog X.w H h' := fun {a h'} ha hs b ob e => by
  obtain ⟨_, _, hfree⟩ := ha
  refine (I.hok b ob e).stay (fun c w' hc q => (hs.2 c ?_).trans q) (fun _ q => q) fun _ _ q => q
  rintro rfl
  rcases hc with rfl | hc
  ·rw [hfree] at e; cases e
  ·rw [hfree] at hc; cases hc
 refine wpAny_nameGoes_keeps (show X.env.kindOf n = some .local from hk) hn hcls fun h' v hn' hs => ?_
 obtain ⟨oL, _, _, hoL, _⟩ := id hn
 refine h _ ⟨I.ok, I.os, I.bare, ⟨fun b o e n hb hx => ?_, fun b o e n hb hx => ?_, I.base.free, fun b o e hx => ?_, I.base.tups, I.base.frzs, I.base.tbls⟩, ⟨_, hn', fun j y v' e1 e2 e3 => ?_⟩, fun y c e => ?_, I.free, I.freeC, fun p hp => ?_, tracked ⟨oL, hoL, I.free⟩ hs, by simpa using I.len⟩
 ·exact (hs.2 b (Nat.ne_of_lt (Nat.lt_of_lt_of_le (Heap.lt_size e) I.ok.above))).trans (I.base.keep b o e n hb hx)
 ·obtain ⟨sl, e1⟩ := I.base.slot b o e n hb hx
  exact ⟨sl, (hs.2 b (Nat.ne_of_lt (Nat.lt_of_lt_of_le (Heap.lt_size e) I.ok.above))).trans e1⟩
 ·obtain ⟨o', e1⟩ := I.base.there b o e hx
  exact ⟨o', (hs.2 b (Nat.ne_of_lt (Nat.lt_of_lt_of_le (Heap.lt_size e) I.ok.above))).trans e1⟩
 ·by_cases hj : j = i
  ·subst hj
   rw [List.getElem?_set_self hiσ] at e2
   cases e2
  ·rw [List.getElem?_set_ne (Ne.symm hj)] at e2
   obtain ⟨u', r', q⟩ := hl j y v' e1 e2 e3
   refine ⟨u', r', ?_⟩
   rcases q with ⟨k, e⟩ | ⟨k, c, e, z⟩
   ·refine .inl ⟨k, ?_⟩
    have : y ≠ n := fun e => hj (v9 hN e1 (e ▸ hi))
    simp [this, e]
   ·exact .inr ⟨k, c, e, z.sameBut hs (cne y c e)⟩
 ·obtain ⟨w', z⟩ := I.cell y c e
  exact ⟨w', z.sameBut hs (cne y c e)⟩
 ·obtain ⟨e, n, ne, nf, d⟩ := I.pin p hp
  exact ⟨(hs.2 p.1 ne).trans e, n, ne, nf, d⟩
theorem Vn {prog : Program} {w : World} {A : Around} {E : Value -> Shared -> Prop} {s : Shared} {base : Heap} {env : Env} {outer : List Env} {L e : Addr} {oe : Obj} {vs : Array Value} {Q : Unit -> Shared -> Prop} (hfr : A.frames = some (env :: outer)) (hl : s.heap.FunFrames base (env :: outer)) (hf : env.frame = some L)
  (he : s.heap.get? e = some oe) (hd : oe.data = Data.fields vs) (h1s : 1 < vs.size) (hen : e ∉ List.filterMap (fun x => x.frame) (env :: outer))
  (ht : vs[1]? = some Value.none \/ ∃ T ts, vs[1]? = some (Value.ref T) /\ T ≠ e /\ s.heap.get? T = some { cls := Value.type "traceback", data := Data.fields ts } /\ ts[3]? = some Value.none)
  (hQ : ∀ (h' : Heap) (T : Addr) (ts : Array Value), h'.get? e = some { cls := oe.cls, dict := oe.dict, data := Data.fields (vs.setIfInBounds 1 (Value.ref T)), slots := oe.slots } -> h'.get? T = some { cls := Value.type "traceback", data := Data.fields ts } -> ts[3]? = some Value.none -> T ≠ e -> s.heap.objs.size <= T ->
   (∀ b o, b ≠ e -> b ∉ List.filterMap (fun x => x.frame) (env :: outer) -> vs[1]? ≠ some (Value.ref b) -> s.heap.get? b = some o -> h'.get? b = some o) -> (∀ b o, b ∈ List.filterMap (fun x => x.frame) (env :: outer) -> s.heap.get? b = some o -> ∃ sl, h'.get? b = some { cls := o.cls, dict := o.dict, data := o.data, slots := sl }) -> Q () { s with heap := h' }) :
  wpAny (model prog w) A (noteFrame (Value.ref e) env) (fun _ s' => wpAny (model prog w) A (setFlight (Value.ref e) none) Q E s') E s := by
 have fin : ∀ (h₂ : Heap) (T : Addr) (ts : Array Value), h₂.get? e = some { cls := oe.cls, dict := oe.dict, data := Data.fields (vs.setIfInBounds 1 (Value.ref T)), slots := oe.slots } -> h₂.get? T = some { cls := Value.type "traceback", data := Data.fields ts } -> ts[3]? = some (rawInt L) -> T ≠ e -> s.heap.objs.size <= T -> T ∉ List.filterMap (fun x => x.frame) (env :: outer) ->
   (∀ b o, b ≠ e -> b ∉ List.filterMap (fun x => x.frame) (env :: outer) -> vs[1]? ≠ some (Value.ref b) -> s.heap.get? b = some o -> h₂.get? b = some o) -> (∀ b o, b ∈ List.filterMap (fun x => x.frame) (env :: outer) -> s.heap.get? b = some o -> ∃ sl, h₂.get? b = some { cls := o.cls, dict := o.dict, data := o.data, slots := sl }) ->
   wpAny (model prog w) A (setFlight (Value.ref e) none) Q E { s with heap := h₂ } := fun h₂ T ts g1 g2 g3 g4 g5 g6 g7 g8 => by
  unfold setFlight
  have v1 : (vs.setIfInBounds 1 (Value.ref T))[1]? = some (Value.ref T) := by
   rw [Array.getElem?_setIfInBounds_self_of_lt h1s]
  refine wpAny_bind (wpAny_field g1 rfl v1 (wpAny_ite_true rfl ?_))
  refine wpAny_setField_rec (s := { s with heap := h₂ }) g2 (Array.getElem?_eq_some_iff.mp g3).1 fun h₃ q1 q2 => ?_
  refine hQ h₃ T _ ((q2.2 e (Ne.symm g4)).trans g1) q1 ?_ g4 g5 (fun b o c1 c2 c3 g => ?_) (fun b o c1 g => ?_)
  ·rw [Array.getElem?_setIfInBounds_self_of_lt (Array.getElem?_eq_some_iff.mp g3).1]
   rfl
  ·have hb : b ≠ T := fun z => by
    have := Heap.lt_size g
    rw [z] at this
    exact absurd this (Nat.not_lt.mpr g5)
   exact (q2.2 b hb).trans (g7 b o c1 c2 c3 g)
  ·obtain ⟨sl, q⟩ := g8 b o c1 g
   exact ⟨sl, (q2.2 b fun z => g6 (by rw [<- z]; exact c1)).trans q⟩
 unfold noteFrame
 rw [hf]
 have fresh : ∀ {T : Addr}, s.heap.objs.size <= T -> T ∉ List.filterMap (fun x => x.frame) (env :: outer) := fun {T} hT hm => by
  obtain ⟨_, o, g, _⟩ := hl.mem hm
  exact absurd (Heap.lt_size g) (Nat.not_lt.mpr hT)
 rcases ht with ht | ⟨T0, ts0, ht, hTe, hT0, h30⟩
 ·refine wpAny_bind (wpAny_field he hd ht (wpAny_ite_false rfl ?_))
  exact Bg hfr hl hf he hd h1s hen fun h₂ T ts g1 g2 g3 g4 g5 g6 g7 => fin h₂ T ts g1 g2 g3 g4 g5 (fresh g5) (fun b o c1 c2 _ g => g6 b o c1 c2 g) g7
 ·refine wpAny_bind (wpAny_field he hd ht (wpAny_ite_true rfl ?_))
  refine wpAny_bind (wpAny_field hT0 rfl h30 (wpAny_ite_false rfl ?_))
  refine wpAny_bind (wpAny_setField_rec hT0 (Array.getElem?_eq_some_iff.mp h30).1 fun h₁ q1 q2 => ?_)
  have hT0f : T0 ∉ List.filterMap (fun x => x.frame) (env :: outer) := fun hm => by
   obtain ⟨_, o, g, nf⟩ := hl.mem hm
   rw [hT0] at g
   cases g
   exact nf _ rfl
  have hl1 : h₁.FunFrames base (env :: outer) := hl.of_keeps fun b o g nf => ⟨o, (q2.2 b fun z => by rw [z, hT0] at g; cases g; exact nf _ rfl).trans g, rfl⟩
  refine Bg (s := { s with heap := h₁ }) hfr hl1 hf ((q2.2 e (Ne.symm hTe)).trans he) hd h1s hen fun h₂ T ts g1 g2 g3 g4 g5 g6 g7 => ?_
  have g5' : s.heap.objs.size <= T := by rw [<- q2.1]; exact g5
  refine fin h₂ T ts g1 g2 g3 g4 g5' (fresh g5') (fun b o c1 c2 c3 g => g6 b o c1 c2 ((q2.2 b fun z => c3 (by rw [z]; exact ht)).trans g)) fun b o c1 g => ?_
  exact g7 b o c1 ((q2.2 b fun z => hT0f (by rw [<- z]; exact c1)).trans g)
theorem Gn {prog : Program} {w : World} {A : Around} {E : Value -> Shared -> Prop} {s : Shared} {env : Env} {e : Addr} {D : Addr} {t : Expr} {n : Str} {b₀ : Stmt} {suite : List Stmt} {pos : Pos} {rest : List ExceptHandler} {Q : Flow -> Shared -> Prop}
  (h : wpAny (model prog w) (A.mark (some (.ref e))) (eval t env) (fun c s₁ => c = .ref D /\ (∀ (Q' : Bool -> Shared -> Prop) A' E', Q' true s₁ -> wpAny (model prog w) A' (excMatches (.ref e) (.ref D)) Q' E' s₁) /\
   wpAny (model prog w) (A.mark (some (.ref e))) (setFlight (.ref e) none) (fun _ s₂ =>
     wpAny (model prog w) (A.mark (some (.ref e))) (storeName env n (.ref e)) (fun _ s₃ =>
      wpAny (model prog w) (A.mark (some (.ref e))) (execs (b₀ :: suite) env)
       (fun f s₄ => wpAny (model prog w) A (do bindName env n .none; unbindBehindTheSuite env n pos) (fun _ s₅ => Q f s₅) E s₄)
       (AsSuiteRaised (model prog w) (A.mark (some (.ref e))) env n pos (notedBy (model prog w) (A.mark (some (.ref e))) env (cameBackBy (model prog w) A env E))) s₃) (notedBy (model prog w) (A.mark (some (.ref e))) env (cameBackBy (model prog w) A env E)) s₂) (notedBy (model prog w) (A.mark (some (.ref e))) env (cameBackBy (model prog w) A env E)) s₁) (notedBy (model prog w) (A.mark (some (.ref e))) env (cameBackBy (model prog w) A env E)) s) :
  wpAny (model prog w) A (handleBy (.ref e) env (.ExceptHandler (some t) (some n) (b₀ :: suite) pos :: rest)) Q E s := by
 refine wpAny_handleBy_cons (codeAny_handlers_test (wpAny_mono h (fun c s₁ h₁ => ?_) fun _ _ y => y)) (by intro q; cases q)
 obtain ⟨rfl, hm, hk⟩ := h₁
 exact hm _ _ _ (codeAny_handlers_suite_as hk)
def Eu (X : Cx) (pins : List (Addr × Obj)) (xe : Value -> Shared -> Prop) : Cx := { X with xe := xe, pn := X.pn ++ pins }
def Il (X : Cx) (x : Addr) : Cx := { X with A := X.A.mark (some (.ref x)), calm := false, xe := fun _ _ => False }
section
variable {X : Cx} {pins pins' : List (Addr × Obj)} {σ : St} {H : Hp} {s : Shared} {xe : Value -> Shared -> Prop} {x : Addr}
theorem VF (I : Inv X pins σ H s) : Inv (Eu X pins xe) [] σ H s :=
 ⟨⟨I.ok.mod, I.ok.kind, I.ok.glob, I.ok.blt, I.ok.above, I.ok.inj, I.ok.has, I.ok.cab, I.ok.hd, I.ok.frames, I.ok.stk, I.ok.exf, I.ok.bs, I.ok.bsz, I.ok.noex, I.ok.exfs, I.ok.pB, I.ok.frf⟩, I.os, I.bare, I.base, I.loc, I.cell, I.free, I.freeC,
  fun p hp => I.pin p (by rw [List.append_nil] at hp; exact hp), I.hok, I.len⟩
theorem jJ (I : Inv (Eu X pins xe) pins' σ H s) : Inv X pins σ H s :=
 ⟨⟨I.ok.mod, I.ok.kind, I.ok.glob, I.ok.blt, I.ok.above, I.ok.inj, I.ok.has, I.ok.cab, I.ok.hd, I.ok.frames, I.ok.stk, I.ok.exf, I.ok.bs, I.ok.bsz, I.ok.noex, I.ok.exfs, I.ok.pB, I.ok.frf⟩, I.os, I.bare, I.base, I.loc, I.cell, I.free, I.freeC,
  fun p hp => I.pin p (List.mem_append_left _ hp), I.hok, I.len⟩
theorem QD (I : Inv X pins σ H s) : Inv (Il X x) pins σ H s :=
 ⟨⟨I.ok.mod, I.ok.kind, I.ok.glob, I.ok.blt, I.ok.above, I.ok.inj, I.ok.has, I.ok.cab, fun z => (nomatch z), I.ok.frames, I.ok.stk, I.ok.exf, I.ok.bs, I.ok.bsz, I.ok.noex, I.ok.exfs, I.ok.pB, I.ok.frf⟩, I.os, I.bare, I.base, I.loc, I.cell, I.free, I.freeC, I.pin, I.hok, I.len⟩
theorem m7 (ok : X.Ok) (I : Inv (Il X x) pins σ H s) : Inv X pins σ H s :=
 ⟨ok, I.os, I.bare, I.base, I.loc, I.cell, I.free, I.freeC, I.pin, I.hok, I.len⟩
theorem rm {D : Ends} {f : Flow} (h : SP (Eu X pins xe) [] D f s) : SP X pins D f s := by
 cases f with
 | next => obtain ⟨σ', H', I, q⟩ := h; exact ⟨σ', H', jJ I, q⟩
 | brk => obtain ⟨σ', H', I, q⟩ := h; exact ⟨σ', H', jJ I, q⟩
 | cont => obtain ⟨σ', H', I, q⟩ := h; exact ⟨σ', H', jJ I, q⟩
 | ret u => obtain ⟨v, σ', H', I, r, q⟩ := h; exact ⟨v, σ', H', jJ I, r, q⟩
end
def XR (x C : Addr) (dx : Option Addr) : HO := .ext fun h => ∃ vs sl, h.get? x = some { cls := .ref C, dict := dx, data := .fields vs, slots := sl }
def R7 : Option Value -> List Addr
 | some (.ref b) => [b]
 | _ => []
theorem Qc {o : Option Value} {b : Addr} (h : b ∈ R7 o) : o = some (.ref b) := by
 unfold R7 at h
 split at h
 ·rw [List.mem_singleton.mp h]
 ·cases h
structure WT (s : Shared) (x T : Addr) (ox : Obj) (vs ts : Array Value) : Prop where
 at_ : s.heap.get? x = some ox
 dat : ox.data = .fields vs
 one : vs[1]? = some (.ref T)
 ent : s.heap.get? T = some { cls := .type "traceback", data := .fields ts }
 fl : ts[3]? = some .none
 ne : T ≠ x
section
variable {X : Cx} {pins : List (Addr × Obj)} {σ : St} {H1 H2 : Hp} {s1 s2 : Shared} {x C : Addr} {ox : Obj} {vs : Array Value}
theorem Rw {E : Value -> Shared -> Prop} {Q : Unit -> Shared -> Prop} (hstk : X.stack = X.env :: X.outer /\ X.env.frame = some X.env.locals) (I1 : Inv X pins σ H1 s1) (L : Lies s1 s2 H2 x ox vs) (hc : ox.cls = .ref C)
  (hos : s2.os = s1.os) (hg : AllBare s2.gens) (un : Un (frs X.stack) [] H1 H2 s1.heap s2.heap) (hok : HOk X.prog X.w H2 s2.heap)
  (hQ : ∀ s3 T ox3 vs3 ts, Inv X pins σ (upd H2 x (XR x C ox.dict)) s3 -> WT s3 x T ox3 vs3 ts -> Q () s3) :
  wpAny (model X.prog X.w) X.A (noteFrame (.ref x) X.env) (fun _ s' => wpAny (model X.prog X.w) X.A (setFlight (.ref x) none) Q E s') E s2 := by
 have I2 : Inv X pins σ H2 s2 := I1.call' (ch := []) hos un hok hg (fun b z => absurd z (by simp))
 have hfree := I2.vq
 have hst := I2.stack
 have hfrm := I2.ok.frames
 have hold : ∀ b o, s1.heap.get? b = some o -> b ≠ x := fun b o g z => by
  have h1 := Heap.lt_size g
  have h2 := L.new
  rw [z] at h1
  exact absurd (Nat.lt_of_lt_of_le h1 h2) (Nat.lt_irrefl _)
 have hen : x ∉ frs X.stack := fun hm => by
  obtain ⟨_, o, g, _⟩ := I1.stack.mem hm
  exact hold x o g rfl
 rw [hstk.1] at hen hst hfrm
 have hT0 : ∀ b, vs[1]? = some (Value.ref b) -> s1.heap.objs.size <= b /\ H2 b = none := fun b hb => by
  rcases L.tb with z | ⟨T0, _, z, _, _, _, z5, z6⟩
  ·rw [z] at hb; cases hb
  ·rw [z] at hb; cases hb; exact ⟨z5, z6⟩
 refine Vn (base := X.base) (outer := X.outer) (L := X.env.locals) hfrm hst hstk.2 L.at_ L.dat L.siz hen ?_ ?_
 ·rcases L.tb with z | ⟨T, ts, z1, z2, z3, z4, _, _⟩
  ·exact .inl z
  ·exact .inr ⟨T, ts, z1, z2, z3, z4⟩
 ·intro h' T ts g1 g2 g3 g4 g5 g6 g7
  let chs : List Addr := x :: R7 vs[1]?
  have hchs : ∀ b ∈ chs, b = x \/ vs[1]? = some (.ref b) := fun b hb => by
   rcases List.mem_cons.mp hb with z | z
   ·exact .inl z
   ·exact .inr (Qc z)
  have hch2 : ∀ b, vs[1]? = some (.ref b) -> b ∈ chs := fun b hb => by
   show b ∈ x :: R7 vs[1]?
   rw [hb]
   exact List.mem_cons_of_mem _ (List.mem_singleton.mpr rfl)
  have hnew : ∀ b ∈ chs, s1.heap.objs.size <= b := fun b hb => by
   rcases hchs b hb with z | z
   ·rw [z]; exact L.new
   ·exact (hT0 b z).1
  have hno : ∀ b ∈ chs, ∀ c o, s1.heap.get? c = some o -> c ≠ b := fun b hb c o g z => by
   have h1 := Heap.lt_size g
   rw [z] at h1
   exact absurd (Nat.lt_of_lt_of_le h1 (hnew b hb)) (Nat.lt_irrefl _)
  have hfr2 : ∀ b, b ∉ frs X.stack -> b ∉ List.filterMap (fun x => x.frame) (X.env :: X.outer) := fun b hb => by
   rw [hstk.1] at hb
   exact hb
  have hfr3 : ∀ b, b ∈ frs X.stack -> b ∈ List.filterMap (fun x => x.frame) (X.env :: X.outer) := fun b hb => by
   rw [hstk.1] at hb
   exact hb
  have u3 : Un (frs X.stack) chs H2 (upd H2 x (XR x C ox.dict)) s2.heap h' := by
   refine ⟨fun b o g n hf hx => ?_, fun b o g n hf hx => ?_, fun b o g n hx => ?_, fun b o g hx => ?_, fun b xs e => ?_, fun b o u e => ?_, fun b ps e => ⟨#[], ?_⟩⟩
   ·exact g6 b o (fun z => hx (by rw [z]; exact List.mem_cons_self)) (hfr2 b hf) (fun z => hx (hch2 b z)) g
   ·exact g7 b o (hfr3 b hf) g
   ·rw [aJ (fun z => hx (by rw [z]; exact List.mem_cons_self)), n]
   ·by_cases hm : b ∈ frs X.stack
    ·obtain ⟨sl, g''⟩ := g7 b o (hfr3 b hm) g
     exact ⟨_, g''⟩
    ·exact ⟨_, g6 b o (fun z => hx (by rw [z]; exact List.mem_cons_self)) (hfr2 b hm) (fun z => hx (hch2 b z)) g⟩
   ·rw [aJ (fun z => by rw [z, L.fre] at e; cases e), e]
   ·rw [aJ (fun z => by rw [z, L.fre] at e; cases e), e]
   ·rw [aJ (fun z => by rw [z, L.fre] at e; cases e), e, Array.append_empty]
  have hok3 : HOk X.prog X.w (upd H2 x (XR x C ox.dict)) h' := by
   intro a o ha
   by_cases z : a = x
   ·subst z
    rw [aB] at ha
    cases ha
    rw [hc] at g1
    exact ⟨⟨_, _, g1⟩, ⟨_, g1⟩, fun h1 h2 ⟨v, sl, z⟩ z2 => ⟨v, sl, z2 _ z⟩⟩
   ·rw [aJ z] at ha
    refine (I2.hok a o ha).stay (fun b u hb gb => ?_) (fun b hb => by rw [aJ (fun z => by rw [z, L.fre] at hb; cases hb), hb]) fun b xs hb => by rw [aJ (fun z => by rw [z, L.fre] at hb; cases hb), hb]
    have hb' : H2 b ≠ none := by
     rcases hb with rfl | hb
     ·rw [ha]; exact fun z => nomatch z
     ·rw [hb]; exact fun z => nomatch z
    exact g6 b u (fun z => hb' (by rw [z]; exact L.fre)) (fun z => hb' (hfree b (by rw [hstk.1]; exact z))) (fun z => hb' (hT0 b z).2) gb
  have I3 : Inv X pins σ (upd H2 x (XR x C ox.dict)) { s2 with heap := h' } := by
   refine I2.call (g' := s2.gens) (t' := s2.toks) (d' := s2.drawn) (ch := chs) u3 hok3 hg fun b hb => ⟨.inr (Nat.le_trans I1.sz (hnew b hb)), fun z => ?_, fun y c e z => ?_, fun p hp z => ?_⟩
   ·obtain ⟨m, ⟨o, _, _, ho, _⟩, _⟩ := I1.loc
    exact hno b hb _ o ho z.symm
   ·obtain ⟨v, o, ho, _⟩ := I1.cell y c e
    exact hno b hb c o ho z
   ·obtain ⟨e, _⟩ := I1.pin p hp
    exact hno b hb p.1 p.2 e z
  exact hQ _ T _ _ ts I3 ⟨g1, rfl, by rw [Array.getElem?_setIfInBounds_self_of_lt L.siz], g2, g3, g4⟩
theorem set_same {ts : Array Value} {i : Nat} {v : Value} (h : ts[i]? = some v) : ts.setIfInBounds i v = ts := by
 apply Array.ext_getElem?
 intro j
 rw [Array.getElem?_setIfInBounds]
 split
 ·rename_i z
  subst z
  split
  ·exact h.symm
  ·rename_i z
   have := (Array.getElem?_eq_some_iff.mp h).1
   exact absurd this z
 ·rfl
theorem Ri {prog : Program} {w : World} {A : Around} {E : Value -> Shared -> Prop} {Q : Unit -> Shared -> Prop} {H : Hp} {s : Shared} {T : Addr} {ts : Array Value} (I : Inv X pins σ H s) (n : WT s x T ox vs ts) (hQ : ∀ s', Inv X pins σ H s' -> Q () s') : wpAny (model prog w) A (setFlight (.ref x) none) Q E s := by
 unfold setFlight
 refine wpAny_bind (wpAny_field n.at_ n.dat n.one (wpAny_ite_true rfl ?_))
 refine wpAny_setField_rec n.ent (Array.getElem?_eq_some_iff.mp n.fl).1 fun h₃ q1 q2 => ?_
 refine hQ _ (I.kept (t' := s.toks) fun b u g => ?_)
 by_cases z : b = T
 ·subst z
  rw [n.ent] at g
  cases g
  rw [q1]
  exact congrArg (fun a => some ({ cls := Value.type "traceback", data := Data.fields a } : Obj)) (set_same n.fl)
 ·exact (q2.2 b z).trans g
end
section
variable {X : Cx} {C D N fI ND : Addr} {dn n : Str} {i : Nat} {body suite : List Stmt} {b₀ : Stmt} {np hpos pos : Pos} {tb : XK -> TS} {ts : TS}
def BK (i : Nat) (Dn : Ends) : Ends := { nx := fun σ H => Dn.nx (σ.set i none) H, rt := Dn.rt, bk := fun σ H => Dn.bk (σ.set i none) H, ct := fun σ H => Dn.ct (σ.set i none) H }
def Wt (C : Addr) (len i : Nat) (ts : TS) (Dn : Ends) : XK := fun c dx H' => c = .ref C /\ ∀ (x : Addr) (σ' : St), σ'.length = len -> H' x = none -> ts (BK i Dn) (σ'.set i (some (.ref x))) (upd H' x (XR x C dx))
def W8 (C : Addr) (len i : Nat) (tb : XK -> TS) (ts : TS) : TS := fun Dn σ H => tb (Wt C len i ts Dn) Dn σ H
structure Wq (K : PySem.W.Frag) (D ND : Addr) : Prop where
 obj : ∃ nm q bs hd sn sub ab col dd k0 k1 k2 k3 k5 nid, K.lookup D = some (excClassObj nm q D ND bs vbm hd sn sub ab col dd k0 k1 k2 k3 k5 nid)
theorem XM (hstk : X.stack = X.env :: X.outer /\ X.env.frame = some X.env.locals) (hN : X.N.Nodup) (hi : X.N[i]? = some n) (hk : X.env.scope.names.lookup n = some .local) (hg : Gl X dn) (hm : X.mg dn = some (.ref D)) (XD : Wq X.K D ND) (XC : qg X.K C D N fI)
  (hbody : ∀ (E1 : XK) (xe : Value -> Shared -> Prop) (pins : List (Addr × Obj)), qW (CX1 X.prog X.w) (Eu X pins xe) E1 -> PSs (Eu X pins xe) body (tb E1)) (hsuite : ∀ x, PSs (Il X x) (b₀ :: suite) ts) (hdb : (dn == ("__debug__" : Str)) = false := by decide) :
  PS X (.Try body [.ExceptHandler (some (.Name dn np)) (some n) (b₀ :: suite) hpos] [] [] pos) (W8 C X.N.length i tb ts) := by
 intro pins s σ H Dn I h
 obtain ⟨nm, q', bs, sn, sub, ab, col, dd, k0, k1, k2, k3, k5, hC⟩ := XC.obj
 obtain ⟨nmD, qD, bsD, hdD, snD, subD, abD, colD, ddD, j0, j1, j2, j3, j5, nid, hD⟩ := XD.obj
 refine wpAny_Try_except ?_
 have hb := hbody (Wt C X.N.length i ts Dn) (fun e s₁ => wpAny (model X.prog X.w) X.A (noteFrame e X.env) (fun _ s₂ => wpAny (model X.prog X.w) X.A (setFlight e none) (fun _ s₃ => wpAny (model X.prog X.w) X.A (handleBy e X.env [.ExceptHandler (some (.Name dn np)) (some n) (b₀ :: suite) hpos]) (SP X pins Dn) X.xe s₃) X.xe s₂) X.xe s₁) pins ?_ [] s σ H Dn (VF I) h
 ·refine wpAny_mono hb (fun f s' hs => ?_) (fun e s' hs => hs)
  cases f with
  | next => exact wpAny_pure (rm hs)
  | brk => exact rm hs
  | cont => exact rm hs
  | ret u => exact rm hs
 ·intro pins' σ' H1 s1 e s2 I1 ⟨x, ox, vs, H2, he, L, hos, hgn, un, hok, hc, hts⟩
  subst he
  show wpAny (model X.prog X.w) X.A (noteFrame (.ref x) X.env) _ _ s2
  refine Rw hstk (jJ I1) L hc hos hgn un hok fun s3 T ox3 vs3 tts I3 n3 => ?_
  refine Gn (D := D) ?_
  refine Calls.Name_function_global I3.ok.kind hg (Calls.loadGlobal_global (by rw [I3.ok.glob]; exact I3.mod.glob.keeps I3.bk) hm ⟨rfl, fun Q' A' E' q => ?_, ?_⟩) hdb
  ·obtain ⟨vx, sx, hx⟩ := (show ∃ vs sl, _ from (I3.hok x _ aB).1)
   obtain ⟨hh, g, d, tk, os⟩ := s3
   exact V5 (I3.kIn _ _ hC) (I3.kIn _ _ hD) hx rfl rfl (by rw [List.contains_cons, beq_self_eq_true, Bool.true_or]) q
  ·refine Ri I3 n3 fun s4 I4 => jk I4 hN hi (.inl hk) (show RelV (.ref x) (.ref x) from rfl) (fun s5 I5 => ?_) (.inr hk)
   have hs5 := hsuite x pins s5 _ _ (BK i Dn) (QD I5) (hts x σ' (jJ I1).len L.fre)
   refine wpAny_mono hs5 (fun f s6 hs => ?_) (fun e s6 z => z.elim)
   cases f with
   | next =>
    obtain ⟨σ6, H6, I6, q6⟩ := hs
    exact vH (m7 I5.ok I6) hN hi hk fun s7 I7 => ⟨_, _, I7, q6⟩
   | brk =>
    obtain ⟨σ6, H6, I6, q6⟩ := hs
    exact vH (m7 I5.ok I6) hN hi hk fun s7 I7 => ⟨_, _, I7, q6⟩
   | cont =>
    obtain ⟨σ6, H6, I6, q6⟩ := hs
    exact vH (m7 I5.ok I6) hN hi hk fun s7 I7 => ⟨_, _, I7, q6⟩
   | ret u =>
    obtain ⟨v, σ6, H6, I6, r6, q6⟩ := hs
    exact vH (m7 I5.ok I6) hN hi hk fun s7 I7 => ⟨v, _, _, I7, r6, q6⟩
end
open PySem.W (Frag clsIn findIn takerIn InstAt looks_clsIn looks_findIn looks_takesIn looks_specialIn specialIn takesIn Looks check_slot looks_mroIn mroIn handedIn handedOut_of class_get KitX)
structure XIs (K : Frag) (C : Addr) : Prop where
 ga : findIn K (.ref C) "__getattribute__" = some (some (.builtin "BaseException.__getattribute__"))
 gk : findIn K (.ref C) "__getattr__" = some none
 ha : findIn K (.ref C) "__class__" = some (some (.builtin "object.__class__"))
 hn : specialIn K (.builtin "object.__class__") "__get__" = some (some (.builtin "getset_descriptor.__get__"))
 htk : takesIn K (.builtin "object.__class__") = some true
 hm : mroIn K C (.type "object") = some true
 hb : mroIn K C (.type "BaseException") = some true
 cl : (clsIn K C).isSome = true
section
variable {prog : Program} {w : World} {A : Around} {E : Value -> Shared -> Prop} {s : Shared} {K : Frag} {x C : Addr} {ox : Obj} {od : Option Obj}
theorem Wd {Q : Option Value -> Shared -> Prop} (Z : XIs K C) (X : K.In s.heap) (I : InstAt s.heap x ox C od) (hq : Q (some (.ref C)) { s with toks := s.toks + 1 }) :
  wpAny (model prog w) A (getAttr? (.ref x) "__class__") Q E s := by
 have IT : Looks (model prog w) s.heap (typeOf (.ref x)) (.ref C) := I.type
 have L1 : Looks (model prog w) s.heap (typeLookup (.ref C) "__getattribute__") (some (.builtin "BaseException.__getattribute__")) := looks_findIn X Z.ga
 have LK : Looks (model prog w) s.heap (typeLookup (.ref C) "__getattr__") none := looks_findIn X Z.gk
 have LF : Looks (model prog w) s.heap (typeLookup (.ref C) "__class__") (some (.builtin "object.__class__")) := looks_findIn X Z.ha
 have LN : Looks (model prog w) s.heap (specialOf (.builtin "object.__class__") "__get__") (some (.builtin "getset_descriptor.__get__")) := looks_specialIn X Z.hn
 have LT : Looks (model prog w) s.heap (takesStores (.builtin "object.__class__")) true := looks_takesIn X Z.htk
 have sub : Looks (model prog w) s.heap (isInstance (.ref x) (.type "BaseException")) true := IT.andThen (looks_mroIn X Z.hb)
 have FB := PySem.F.attrBase_ValueError
 unfold getAttr? getAttrBy?
 refine wpAny_bind (wpAny_mkText (wpAny_bind (wpAny_attempt ?_)))
 unfold getAttrBy
 refine wpAny_holding (wpAny_bind (IT _ _ _ _ (fun _ _ e => e) (wpAny_bind (L1 _ _ _ _ (fun _ _ e => e) ?_))))
 dsimp only
 have hx2 : (Value.builtin "BaseException.__getattribute__" == Value.builtin "object.__getattribute__") = false := by decide +kernel
 rw [show (onTheHeap (Value.ref C) && Value.builtin "BaseException.__getattribute__" == Value.builtin "object.__getattribute__") = false from by rw [hx2]; rfl, if_neg (by decide)]
 unfold getAttrByItsOwn
 have HB : Looks (model prog w) s.heap (hookBefore (.ref C)) none := by
  unfold hookBefore
  rw [if_pos (show onTheHeap (Value.ref C) = true from rfl)]
  exact LK
 refine wpAny_bind (HB _ _ _ _ (fun _ _ e => e) (wpAny_bind (wpAny_attempt (wpAny_holding ?_))))
 unfold callGetattribute
 rw [show (false && onTheHeap (Value.builtin "BaseException.__getattribute__")) = false from rfl, if_neg (by decide)]
 unfold boundAndCalled
 rw [FB.ga.bind]
 refine wpAny_bind (wpAny_pure ?_)
 show wpAny _ _ (call (.builtin "BaseException.__getattribute__") [.ref x, .str "__class__" s.toks]) _ _ _
 refine wpAny_call ?_
 refine codeAny_call_builtin FB.ga.plain F.entry_bexc_ga ?_
 refine @check_slot (model prog w) _ _ { s with toks := s.toks + 1 } "BaseException.__getattribute__" "BaseException" "__getattribute__" (.ref x) [.str "__class__" s.toks] [] _ (by decide +kernel) (by decide +kernel) sub (F.args_bexc_ga (.ref x) (.str "__class__" s.toks)) ?_
 unfold Builtin.«object.__getattribute__»
 have LD : Looks (model prog w) s.heap (dataDescriptor? (some (.builtin "object.__class__")) (some (.builtin "getset_descriptor.__get__"))) (some (.builtin "getset_descriptor.__get__", .builtin "object.__class__")) := LT.andThen .now
 have LV : Looks (model prog w) s.heap (find (.ref x) (.ref C) "__class__") (.bind (.builtin "getset_descriptor.__get__") (.builtin "object.__class__")) := by
  refine LF.andThen (LN.andThen (LD.andThen ?_))
  exact Looks.tag .now
 refine wpAny_bind (wpAny_pure (wpAny_bind (wpAny_pure (wpAny_bind (IT _ _ _ _ (fun _ _ e => e) (wpAny_bind (LV _ _ _ _ (fun _ _ e => e) ?_)))))))
 show wpAny _ _ (holding [.builtin "object.__class__"] (call (.builtin "getset_descriptor.__get__") [.builtin "object.__class__", .ref x, .ref C]) >>= ret) _ _ _
 refine wpAny_bind (wpAny_holding (wpAny_call (class_get (s := { s with toks := s.toks + 1 }) X I Z.hm ?_)))
 refine wpAny_pure ?_
 show wpAny _ _ (handedOut (.ref C)) _ _ _
 rw [handedOut_of (show handedIn (.ref C) = true from rfl)]
 exact wpAny_pure (wpAny_pure hq)
theorem Qj (Z : XIs K C) : KitX K (.ref x) (.ref C) (fun h => ∃ ox od, InstAt h x ox C od) where
 ty := fun _ _ _ ⟨_, _, I⟩ => I.type
 it := fun _ _ X _ => by
  have hcD := Z.cl
  unfold clsIn at hcD
  split at hcD
  ·rename_i c' d' cd' sl' ho
   intro A' Q' E' s' k q
   unfold isType loadHead
   exact wpAny_bind (wpAny_loadPart (k _ _ (X _ _ ho)) (wpAny_pure q))
  ·cases hcD
 ne := fun h tp dd its n sl X htp => by
  have hcD := Z.cl
  refine Bool.eq_false_iff.mpr fun q => ?_
  have e : C = tp := Value.ref.inj (beq_iff_eq.mp q)
  subst e
  unfold clsIn at hcD
  split at hcD
  ·rename_i c' d' cd' sl' ho
   have z := (X _ _ ho).symm.trans htp
   cases z
  ·cases hcD
 ca := fun X ⟨_, _, I⟩ k => Wd Z X I k
end
section
variable {X : Cx} {pins : List (Addr × Obj)} {σ : St} {H : Hp} {s : Shared} {A : Around} {E : Value -> Shared -> Prop} {Q : Value -> Shared -> Prop} {c : Value} {b : Bool} {x C dx : Addr} {fs : List (Str × V)}
theorem VH (I : Inv X pins σ H s) (hx : H x = some (XR x C (some dx))) (hd : H dx = some (.xd fs)) : ∃ ox od, InstAt s.heap x ox C od := by
 obtain ⟨vs, sl, h1⟩ := (show ∃ vs sl, _ from (I.hok x _ hx).1)
 obtain ⟨mA, ⟨od, es, ep, h2, _⟩, _⟩ := (show cQ X.prog X.w H s.heap dx (.xd fs) from I.hok dx _ hd)
 exact ⟨_, some od, h1, rfl, rfl, h2⟩
theorem Qy (Z : XIs X.K C) (I : Inv X pins σ H s) (hx : H x = some (XR x C (some dx))) (hd : H dx = some (.xd fs)) (e : PySem.W.kitOne X.K (.ref C) c = some b) (h : ∀ tk, Q (.bool b) { s with toks := tk }) :
  wpAny (model X.prog X.w) A (call (.builtin "isinstance") [.ref x, c]) Q E s :=
 PySem.W.kia_one (Qj Z) I.kIn (VH I hx hd) e (fun z => nomatch z) h
theorem Gp : ∀ {y : V} {u : Value}, RelV y u -> handedIn u = true
 | .non, _, r => by rw [show _ = Value.none from r]; rfl
 | .bl _, _, r => by rw [show _ = Value.bool _ from r]; rfl
 | .int _, _, ⟨_, r⟩ => by rw [r]; rfl
 | .str _, _, ⟨_, r⟩ => by rw [r]; rfl
 | .byt _, _, ⟨_, r⟩ => by rw [r]; rfl
 | .flt _, _, ⟨_, r⟩ => by rw [r]; rfl
 | .ref _, _, r => by rw [show _ = Value.ref _ from r]; rfl
 | .ty _, _, r => by rw [show _ = Value.type _ from r]; rfl
variable {D N fI : Addr} {e : Expr} {f : Str} {pos : Pos} {ta : TE}
def LR (K : PySem.W.Frag) (C : Addr) (ta : TE) (f : Str) : TE := fun σ H Q => ta σ H fun v H1 => ∃ x dx fs y, v = .ref x /\ H1 x = some (XR x C (some dx)) /\ H1 dx = some (.xd fs) /\ fs.lookup f = some y /\ findIn K (.ref C) f = some none /\ Q y H1
theorem Uy (XC : qg X.K C D N fI) (he : PE X e ta) (hb : attributeBase e f X.env (eval e X.env) = eval e X.env) : PE X (.Attribute e f pos) (LR X.K C ta f) := by
 intro pins s σ H Q I h
 refine Wn hb (thn (he pins s σ H _ I h) fun u s1 ⟨v, H1, I1, rv, x, dx, fs, y, ev, hx, hd, hf, hno, q⟩ => ?_)
 subst ev
 obtain rfl : u = Value.ref x := rv
 obtain ⟨cd, c1, c2, c3⟩ := XC.cls
 obtain ⟨vs, sl, h1⟩ := (show ∃ vs sl, _ from (I1.hok x _ hx).1)
 obtain ⟨mA, h2, h3⟩ := (show cQ X.prog X.w H1 s1.heap dx (.xd fs) from I1.hok dx _ hd)
 have h4 := h3 f
 rw [hf] at h4
 cases hm : mA f with
 | none => rw [hm] at h4; exact h4.elim
 | some uy =>
  rw [hm] at h4
  obtain ⟨hp, g, d, tk, os⟩ := s1
  exact aak I1.kIn c1 c2 c3 XC.ga XC.gk hno h1 rfl rfl rfl h2.ns hm (Gp h4) ⟨y, H1, I1.tok (tk + 1), h4, q⟩
end
structure Wr (P : Program) (w : World) (K : PySem.W.Frag) (mg : Str -> Option Value) (base : Heap) (x : Str) (k : Nat) (ps : List Str) (sp : Sp) : Prop where
 ex : ∃ (f : Addr) (fd : FuncData), dh P w K mg base (CX1 P w) k f fd ps sp /\ Binds K fd ps [] /\ PySem.W.keepIn K (.ref f) = true /\ mg x = some (.ref f)
structure Zf (P : Program) (w : World) (K : PySem.W.Frag) (mg : Str -> Option Value) (base : Heap) (x : Str) (C D : Addr) (k : Nat) (ps : List Str) (sp : Sp) : Prop where
 ex : ∃ (N fI : Addr) (fd : FuncData), qg K C D N fI /\ dh P w K mg base CX0 k fI fd ps sp /\ Binds K fd ps [] /\ (∃ oI, K.lookup fI = some oI /\ oI.cls = .type "function") /\ mg x = some (.ref C)
section
variable {P : Program} {w : World} {K : PySem.W.Frag} {mg : Str -> Option Value} {base : Heap}
theorem Fun.aaC {x qual : Str} {st : Stmt} {f : Addr} {fd : FuncData} {N ps : List Str} {k : Nat} {sp : Sp} (F : Fun K x qual st f fd) (S : bF N ps (aj st)) (len : ∀ vs H Q E, sp vs H Q E -> vs.length = ps.length)
  (hbody : ∀ (cdv : Value) (A : Around) (outer : List Env) (s : Shared) (H : Hp) (vs : List V) (Q : VK) (E : XK), gB k (A.deeper (envOfC qual (aj st) s.heap.objs.size f cdv)) -> sp vs H Q E ->
   ∃ t, QB (yE (CX1 P w) P w K mg base N qual (aj st) f cdv A outer s H E) (aZ st) t /\ t { nx := fun _ H' => Q .non H', rt := Q } (L2.start N vs) H) : dh P w K mg base (CX1 P w) (k + 1) f fd ps sp := by
 obtain ⟨oc, od, kV, doc, pm, an, cdv, ct, osl, rfl, lk, hcd⟩ := F.ex
 refine WN lk hcd S len fun A outer s H vs Q E hr hsp => ?_
 obtain ⟨t, h, q⟩ := hbody cdv A outer s H vs Q E hr hsp
 exact ⟨t, h.h, q⟩
theorem fH.aaJ {x : Str} {st : Stmt} {ps : List Str} {f : Addr} {fd : FuncData} {k : Nat} {sp : Sp} (D : fH K mg x st ps f fd) (F : dh P w K mg base (CX1 P w) k f fd ps sp) : Wr P w K mg base x k ps sp :=
 ⟨f, fd, F, D.bd, D.fn.kp, D.nm⟩
end
section
variable {X : Cx} {k : Nat} {ps : List Str} {sp : Sp} {x f : Str} {p np apos cpos pos pos' : Pos} {e o value : Expr} {es : List Expr} {t : TA} {E : XK} {C D N fI : Addr} {te ta tv : TE}
theorem T9 (c : Wr X.prog X.w X.K X.mg X.base x k ps sp) (hr : gB k X.A) (hg : Gl X x) (hx : qW (CX1 X.prog X.w) X E) (ha : QA X (e :: es) t) (hdb : (x == ("__debug__" : Str)) = false := by decide)
  (he : starEach (e :: es) X.env = (false, eval e X.env) :: starEach es X.env := by rfl) (hpl : (backTo pos (starEach es X.env)).any (·.1) = false := by rfl) : QE X (.Call (.Name x p) (e :: es) [] pos) (nQ sp [] E t) := by
 obtain ⟨f, fd, F, b, kp, hm⟩ := c.ex
 exact ⟨Ie F hr hg hm kp b .nil hx ha.h hdb he hpl⟩
theorem CQ (c : Zf X.prog X.w X.K X.mg X.base x C D k ps sp) (hr : gB (k + 1) X.A) (hg : Gl X x) (hcalm : X.calm = true) (ho : Ze X E) (ha : QA X (e :: es) t) (hdb : (x == ("__debug__" : Str)) = false := by decide)
  (hst : starEach (e :: es) X.env = (false, eval e X.env) :: starEach es X.env := by rfl) (hpl : (backTo cpos (starEach es X.env)).any (·.1) = false := by rfl) :
  QS X (.Raise (some (.Call (.Name x np) (e :: es) [] cpos)) none pos) (Ad C sp E t) := by
 obtain ⟨N, fI, fd, XC, F, b, hf, hm⟩ := c.ex
 exact ⟨JT XC F hr b hf hcalm ho hg hm ha.h hdb hst hpl⟩
theorem Oi {pl : Sem Bool} (XC : qg X.K C D N fI) (XD : XBase X.K D) (hg : Gl X x) (hm : X.mg x = some (.ref D)) (ha : QA X (e :: es) t) (hdb : (x == ("__debug__" : Str)) = false := by decide)
  (hst : starEach (e :: es) X.env = (false, eval e X.env) :: starEach es X.env := by rfl) (hpl : (backTo cpos (starEach es X.env)).any (·.1) = false := by rfl)
  (ht : eval (.Call (.Attribute (.Name x np) "__init__" apos) (e :: es) [] cpos) X.env = (do
   let ov <- eval (.Name x np) X.env
   standAt apos.atName
   let (f, first) <- holding [ov] (getMethod ov "__init__" pl)
   callWith cpos f first (backTo cpos (starEach (e :: es) X.env)) (backToKw cpos (keywordEach [] X.env))) := by rfl) :
  QE X (.Call (.Attribute (.Name x np) "__init__" apos) (e :: es) [] cpos) (tBI C t) := ⟨O2 XC XD hg hm ha.h hdb hst hpl ht⟩
theorem TX (XC : qg X.K C D N fI) (ha : QE X o ta) (hv : QE X value tv) (hs : swapsWith value (some (.Attribute o f pos')) pos.line X.env = pure false := by rfl) : QS X (.Assign [.Attribute o f pos'] value pos) (M8 X.K C ta tv f) := ⟨Ui XC ha.h hv.h hs⟩
theorem rG (XC : qg X.K C D N fI) (he : QE X e ta) (hb : attributeBase e f X.env (eval e X.env) = eval e X.env := by rfl) : QE X (.Attribute e f pos) (LR X.K C ta f) := ⟨Uy XC he.h hb⟩
theorem JR {v₁ v₂ : Expr} {rest : List Expr} {tj : TJ} (h : PJ X (v₁ :: v₂ :: rest) tj) (hl : (v₁ :: v₂ :: rest).length <= 100 := by decide) : QE X (.JoinedStr (v₁ :: v₂ :: rest) pos) (fun σ H Q => tj σ H fun H1 => ∀ x, Q (.str x) H1) := ⟨JX h hl⟩
theorem Xw {dn n : Str} {i : Nat} {ND : Addr} {body suite : List Stmt} {b₀ : Stmt} {hpos : Pos} {tb : XK -> TS} {ts : TS} (hstk : X.stack = X.env :: X.outer /\ X.env.frame = some X.env.locals) (hN : X.N.Nodup) (hi : X.N[i]? = some n) (hk : X.env.scope.names.lookup n = some .local) (hg : Gl X dn) (hm : X.mg dn = some (.ref D)) (XD : Wq X.K D ND) (XC : qg X.K C D N fI)
  (hbody : ∀ (E1 : XK) (xe : Value -> Shared -> Prop) (pins : List (Addr × Obj)), qW (CX1 X.prog X.w) (Eu X pins xe) E1 -> QB (Eu X pins xe) body (tb E1)) (hsuite : ∀ x, QB (Il X x) (b₀ :: suite) ts) (hdb : (dn == ("__debug__" : Str)) = false := by decide) :
  QS X (.Try body [.ExceptHandler (some (.Name dn np)) (some n) (b₀ :: suite) hpos] [] [] pos) (W8 C X.N.length i tb ts) :=
 ⟨XM hstk hN hi hk hg hm XD XC (fun E1 xe pins hp => (hbody E1 xe pins hp).h) (fun x => (hsuite x).h) hdb⟩
def Zy (K : PySem.W.Frag) : List V -> Hp -> VK -> Prop := fun xs H Q => ∃ x c C dx fs b, xs = [.ref x, c] /\ H x = some (XR x C (some dx)) /\ H dx = some (.xd fs) /\ XIs K C /\ (∀ u, RelV c u -> PySem.W.kitOne K (.ref C) u = some b) /\ Q (.bl b) H
theorem mJ : dH X (.builtin "isinstance") (Zy X.K) := by
 intro pins s σ H xs us Q I r h
 obtain ⟨x, c, C, dx, fs, b, rfl, hx, hd, Z, hk, q⟩ := h
 obtain ⟨u, v, rfl, r1, r2⟩ := Vals.two r
 obtain rfl : u = Value.ref x := r1
 exact Qy Z I hx hd (hk v r2) fun tk => ⟨.bl b, H, I.tok tk, rfl, q⟩
end
section
variable {X : Cx} {k : Nat} {ps : List Str} {sp : Sp} {x : Str} {p pos : Pos} {e : Expr} {es : List Expr} {t : TA} {E : XK}
theorem Xx (c : Wr X.prog X.w X.K X.mg X.base x k ps sp) (hr : gB k X.A) (hg : Gl X x) (b : Bn x) (hx : qW (CX1 X.prog X.w) X E) (ha : QA X (e :: es) t)
  (he : starEach (e :: es) X.env = (false, eval e X.env) :: starEach es X.env := by rfl) (hpl : (backTo pos (starEach es X.env)).any (·.1) = false := by rfl) : QE X (.Call (.Name x p) (e :: es) [] pos) (nQ sp [] E t) := T9 c hr hg hx ha b.hd he hpl
end
def vy (C : Addr) (fld : Str) : Sp := fun vs H Q _ => ∃ (a : Addr) (j : Int), vs = [.ref a, .int j] /\ (-(2 ^ 70) < j /\ j < 2 ^ 70) /\ H a = some (XO a C none) /\
 ∀ dx, H dx = none -> dx ≠ a -> Q .non (upd (upd H dx (.xd [(fld, .int j)])) a (XO a C (some dx)))
theorem vZ {H H1 : Hp} {E : XK} {C : Addr} {j : Int} {fld : Str} (hb : -(2 ^ 70) < j /\ j < 2 ^ 70) (s1 : Same H H1) (qx : ∀ dx H', Same H H' -> H' dx = some (.xd [(fld, .int j)]) -> E (.ref C) (some dx) H') :
  1 <= 1000 /\ ∀ a, H1 a = none -> vy C fld [.ref a, .int j] (upd H1 a (XO a C none)) (fun v H2 => v = .non /\ ∃ dx, H2 a = some (XO a C (some dx)) /\ E (.ref C) (some dx) (unt H2 a)) E0 := by
 refine ⟨by decide, fun a ha => ⟨a, j, rfl, hb, aB, fun dx hdx hne => ⟨rfl, dx, aB, qx dx _ (fun b o e => ?_) ?_⟩⟩⟩
 ·have e1 := s1 _ _ e
  have n1 : b ≠ a := fun z => by rw [z, ha] at e1; cases e1
  have n2 : b ≠ dx := fun z => by rw [aJ hne] at hdx; rw [z, hdx] at e1; cases e1
  rw [Aa n1, aJ n1, aJ n2, aJ n1, e1]
 ·rw [Aa hne, aJ hne, aB]
section
variable {X : Cx} {e o : Expr} {te to : TE} {pos : Pos}
def aaI (xs : List V) (y : V) (n : Nat) : Prop := ∃ (bl : List Bool) (b : Bool), xs = bl.map V.bl /\ y = .bl b /\ n = bl.count b
def Wv (K : PySem.W.Frag) (to te : TE) : TE := fun σ H Q => to σ H fun x H1 => ∃ (p : Addr), x = .ref p /\ (∃ xs, SqL K H1 p xs) /\ te σ H1 fun y H2 => ∃ (xs : List V) (n : Nat), SqL K H2 p xs /\ aaI xs y n /\ Q (.int (n : Nat)) H2
def isB (w : Bool) : Value -> Bool
 | .bool z => z == w
 | _ => false
theorem Jm (w : Bool) : ∀ {is : List Bool} {its : List Value}, Vals (is.map V.bl) its -> its.countP (isB w) = is.count w
 | [], _, .nil => rfl
 | i :: is, _, .cons r rs => by
  obtain rfl := (show _ = Value.bool i from r)
  rw [List.countP_cons, List.count_cons, Jm w rs]
  rfl
theorem G7 : ∀ {is : List Bool} {its : List Value}, Vals (is.map V.bl) its -> ∀ {y}, y ∈ its -> ∃ b, y = Value.bool b
 | [], _, .nil, _, h => by cases h
 | i :: is, _, .cons r rs, y, h => by
  rcases List.mem_cons.mp h with z | z
  ·exact ⟨i, z.trans r⟩
  ·exact G7 rs z
theorem UL {apos cpos : Pos} (hu : X.A.in1.units < cLine) (ho : PE X o to) (he : PE X e te)
  (hbase : attributeBase o "count" X.env (eval o X.env) = eval o X.env := by rfl)
  (hfew : ((backTo cpos (starEach [e] X.env)).all (fun x => !x.1) && (backToKw cpos (keywordEach [] X.env)).all (fun x => x.1.isSome)
   && decide ([e].length + ([] : List Keyword).length + (if ([] : List Keyword).isEmpty then 0 else 1) < 30)) = true := by rfl)
  (hline : (apos.endLine == cpos.line) = true := by rfl) (hs : starEach [e] X.env = (false, eval e X.env) :: starEach [] X.env := by rfl) (hplain : (backTo cpos (starEach [] X.env)).any (·.1) = false := by rfl) :
  PE X (.Call (.Attribute o "count" apos) [e] [] cpos) (Wv X.K to te) := by
 intro pins s σ H Q I h
 refine wpAny_Call_method_late hbase hfew hline rfl (thE (ho pins s σ H _ I h) fun v s1 x H1 I1 r1 q => ?_)
 obtain ⟨p, rfl, ⟨xs0, hq⟩, q⟩ := q
 obtain ⟨h1, h2⟩ := Ac (T := "list") I1 r1 (.inl ⟨rfl, _, hq⟩)
 refine ⟨"list", "list.count", PySem.F.plainAttrs_list, PySem.F.slot_list_count, PySem.F.type_list_count, h1, h2, ?_⟩
 rw [hs]
 refine Calls.callWith_builtin (by show (false || (backTo cpos (starEach [] X.env)).any (·.1)) = false; rw [hplain] <;> rfl) (Calls.evalArgs_plain ?_)
 refine Calls.spliced_cons (thn (he pins s1 σ H1 _ I1 q) fun u s2 ⟨y, H2, I2, r2, xs, n, hq2, hc, q3⟩ => Calls.spliced_nil ?_)
 cases r1
 obtain ⟨its, rv, pl, hz⟩ := I2.list hq2
 obtain ⟨ob, nn, eo, ec, ed, es⟩ := pl
 cases ob with
 | mk cls dict data slots =>
  cases ec
  cases es
  obtain ⟨bl, b, rfl, rfl, rfl⟩ := hc
  obtain rfl : u = Value.bool b := r2
  refine call_meets F.slot_list_count ⟨_, eo, rfl⟩ F.entry_list_count (F.args_list_count_2 _ _) (SeqAt.list_countAt p its.toArray nn _ _ _ (isB b)) ⟨eo, fun y hy => ?_, ?_⟩
  ·have hy' : y ∈ its := by simpa using hy
   obtain ⟨b', rfl⟩ := G7 rv hy'
   exact SeqAt.EqAt.bool_bool b' b
  ·rw [show its.toArray.toList = its from rfl, Jm b rv]
   exact ⟨.int (bl.count b : Nat), H2, I2.tok _, ⟨_, rfl⟩, q3⟩
theorem T8 (K : PySem.W.Frag) {apos cpos : Pos} (hu : X.A.in1.units < cLine) (ho : QE X o to) (he : QE X e te) (hK : X.K = K := by rfl)
  (hbase : attributeBase o "count" X.env (eval o X.env) = eval o X.env := by rfl)
  (hfew : ((backTo cpos (starEach [e] X.env)).all (fun x => !x.1) && (backToKw cpos (keywordEach [] X.env)).all (fun x => x.1.isSome)
   && decide ([e].length + ([] : List Keyword).length + (if ([] : List Keyword).isEmpty then 0 else 1) < 30)) = true := by rfl)
  (hline : (apos.endLine == cpos.line) = true := by rfl) (hs : starEach [e] X.env = (false, eval e X.env) :: starEach [] X.env := by rfl) (hplain : (backTo cpos (starEach [] X.env)).any (·.1) = false := by rfl) :
  QE X (.Call (.Attribute o "count" apos) [e] [] cpos) (Wv K to te) := by
 subst hK
 exact ⟨UL hu ho.h he.h hbase hfew hline hs hplain⟩
end
theorem vo : bootBuiltins "ValueError" = some (.type "ValueError") := by decide +kernel
theorem yG : Bn "ValueError" := ⟨by decide +kernel, by decide +kernel⟩
theorem uo {K : PySem.W.Frag} {x C dx : Addr} {fs : List (Str × V)} {c : V} {b : Bool} {H : Hp} {Q : VK} (Z : XIs K C) (hx : H x = some (XR x C (some dx))) (hd : H dx = some (.xd fs)) (hk : ∀ u, RelV c u -> PySem.W.kitOne K (.ref C) u = some b) (q : Q (.bl b) H) : Zy K [.ref x, c] H Q :=
 ⟨x, c, C, dx, fs, b, rfl, hx, hd, Z, hk, q⟩
theorem sy {K : PySem.W.Frag} {C a : Addr} {b : Bool} (h : PySem.W.kitOne K (.ref C) (.ref a) = some b) : ∀ u, RelV (.ref a) u -> PySem.W.kitOne K (.ref C) u = some b := fun u r => by
 obtain rfl : u = Value.ref a := r
 exact h
theorem YK {K : PySem.W.Frag} {C : Addr} {n : String} {b : Bool} (h : PySem.W.kitOne K (.ref C) (.type n) = some b) : ∀ u, RelV (.ty n) u -> PySem.W.kitOne K (.ref C) u = some b := fun u r => by
 obtain rfl : u = Value.type n := r
 exact h
def Hi (C : Addr) (wd fld : Str) : Sp := fun vs H Q _ => (vs = [.non] /\ Q .non H) \/ ∃ (x dx : Addr) (j : Int), vs = [.ref x] /\ H x = some (XR x C (some dx)) /\ H dx = some (.xd [(fld, .int j)]) /\
 ∀ t H', Same H H' -> H t = none -> H' t = some (.tup [.str wd, .int j]) -> Q (.ref t) H'
open Builtin
section
variable {X : Cx}
end
mutual
def noL : PyData -> Bool
 | .list _ => false
 | .tuple ds => Z7 ds
 | _ => true
def Z7 : List PyData -> Bool
 | [] => true
 | d :: ds => noL d && Z7 ds
end
theorem tL {ok : Addr -> Prop} {H : Hp} : ∀ gs : List Int, aM ok H (gs.map V.int) (gs.map PyData.int)
 | [] => .nil
 | g :: gs => .cons (.int g) (tL gs)
section
variable {X : Cx} {e e2 o i value : Expr} {te te2 to ti tv : TE} {pos tpos : Pos}
def QJ (xs : List V) (i : Int) (y : V) : List V := xs.take i.toNat ++ y :: xs.drop i.toNat
def VJ (ob : Option HO) (l : Addr) (i : Int) (y : V) (H : Hp) (Q : VK) : Prop := match ob with
 | some (.lst xs) => 0 <= i /\ i <= xs.length /\ xs.length < sizeLine /\ Q .non (upd H l (.lst (QJ xs i y)))
 | _ => False
def QM (l : Addr) (x y : V) (H : Hp) (Q : VK) : Prop := match x with
 | .int i => VJ (H l) l i y H Q
 | _ => False
def inK (x : V) (te te2 : TE) (σ : St) (H1 : Hp) (Q : VK) : Prop := match x with
 | .ref l => isq (H1 l) /\ te σ H1 fun x H2 => te2 σ H2 fun y H3 => QM l x y H3 Q
 | _ => False
def LQ (to te te2 : TE) : TE := fun σ H Q => to σ H fun x H1 => inK x te te2 σ H1 Q
theorem Lz (to te te2 : TE) (σ : St) (H : Hp) (Q : VK) : LQ to te te2 σ H Q = to σ H fun x H1 => inK x te te2 σ H1 Q := rfl
theorem VP (l : Addr) (te te2 : TE) (σ : St) (H1 : Hp) (Q : VK) : inK (.ref l) te te2 σ H1 Q = (isq (H1 l) /\ te σ H1 fun x H2 => te2 σ H2 fun y H3 => QM l x y H3 Q) := rfl
theorem QL (l : Addr) (i : Int) (y : V) (H : Hp) (Q : VK) : QM l (.int i) y H Q = VJ (H l) l i y H Q := rfl
theorem QF (xs : List V) (l : Addr) (i : Int) (y : V) (H : Hp) (Q : VK) : VJ (some (.lst xs)) l i y H Q = (0 <= i /\ i <= xs.length /\ xs.length < sizeLine /\ Q .non (upd H l (.lst (QJ xs i y)))) := rfl
theorem Kg {pins : List (Addr × Obj)} {s : Shared} {σ : St} {H : Hp} {l : Addr} {xs : List V} {i : Int} {t : Tok} {y : V} {u : Value} {Q : VK} (I : Inv X pins σ H s) (hH : H l = some (.lst xs)) (ru : RelV y u) (h0 : 0 <= i) (h1 : i <= xs.length) (hz : xs.length < sizeLine) (q : Q .non (upd H l (.lst (QJ xs i y)))) :
  wpAny (model X.prog X.w) X.A (call (.builtin "list.insert") [.ref l, .int i t, u]) (EP X pins σ Q) X.xe s := by
 obtain ⟨z, its, n, r, hl, e⟩ := I.Qg hH
 have hn := oV
 refine call_meets F.slot_list_insert ⟨_, e, rfl⟩ F.entry_list_insert (F.args_list_insert_3 _ _ _) (AutoSeq1.list_insert_list_int_val_1 l its.toArray n i t u (by unfold Builtin.List.listFitsIndex; rw [decide_eq_true (by omega), decide_eq_true (by omega)]; decide) (by rw [List.size_toArray]; omega)) ⟨e, ?_⟩
 refine ⟨.non, _, I.aad (its' := its.take i.toNat ++ u :: its.drop i.toNat) hH e ?_ ((r.take _).append (.cons ru (r.drop _))) ?_, rfl, q⟩
 ·rw [if_neg (by omega)]
  have : min i.toNat its.toArray.size = i.toNat := by rw [List.size_toArray]; omega
  show (its.toArray.extract 0 (min i.toNat its.toArray.size)).push u ++ its.toArray.extract (min i.toNat its.toArray.size) = _
  rw [this]
  simp [List.take_of_length_le]
 ·rw [List.length_append, List.length_cons, List.length_take, List.length_drop]
  omega
theorem Uw {apos cpos : Pos} (ho : PE X o to) (he : PE X e te) (he2 : PE X e2 te2)
  (hbase : attributeBase o "insert" X.env (eval o X.env) = eval o X.env := by rfl)
  (hfew : ((backTo cpos (starEach [e, e2] X.env)).all (fun x => !x.1) && (backToKw cpos (keywordEach [] X.env)).all (fun x => x.1.isSome)
   && decide ([e, e2].length + ([] : List Keyword).length + (if ([] : List Keyword).isEmpty then 0 else 1) < 30)) = true := by rfl)
  (hline : (apos.endLine == cpos.line) = true := by rfl) (hs : starEach [e, e2] X.env = (false, eval e X.env) :: (false, eval e2 X.env) :: starEach [] X.env := by rfl) (hplain : (backTo cpos ((false, eval e2 X.env) :: starEach [] X.env)).any (·.1) = false := by rfl) :
  PE X (.Call (.Attribute o "insert" apos) [e, e2] [] cpos) (LQ to te te2) := by
 intro pins s σ H Q I h
 refine wpAny_Call_method_late hbase hfew hline rfl (thE (ho pins s σ H _ I h) fun v s1 x H1 I1 r1 q => ?_)
 cases x with
 | ref l =>
  obtain ⟨q1, q2⟩ := q
  cases el : H1 l with
  | none => rw [el] at q1; exact q1.elim
  | some ob =>
   cases ob with
   | lst xs =>
    obtain ⟨h1, h2⟩ := Ac (T := "list") I1 r1 (.inl ⟨rfl, xs, SqL.of el⟩)
    refine ⟨"list", "list.insert", PySem.F.plainAttrs_list, PySem.F.slot_list_insert, PySem.F.type_list_insert, h1, h2, ?_⟩
    rw [hs]
    refine Calls.callWith_builtin (by show (false || (backTo cpos ((false, eval e2 X.env) :: starEach [] X.env)).any (·.1)) = false; rw [hplain] <;> rfl) (Calls.evalArgs_plain ?_)
    refine Calls.spliced_cons (thE (he pins s1 σ H1 _ I1 q2) fun u s2 y H2 I2 r2 q3 => ?_)
    refine Calls.spliced_cons (thE (he2 pins s2 σ H2 _ I2 q3) fun u2 s3 y2 H3 I3 r3 q4 => Calls.spliced_nil ?_)
    replace q4 : QM l y y2 H3 Q := q4
    unfold QM at q4
    split at q4
    ·rename_i i
     unfold VJ at q4
     split at q4
     ·rename_i ys e1
      cases r1
      obtain ⟨t, rfl⟩ := r2
      exact Kg I3 e1 r3 q4.1 q4.2.1 q4.2.2.1 q4.2.2.2
     ·exact q4.elim
    ·exact q4.elim
   | _ => rw [el] at q1; exact q1.elim
 | _ => exact q.elim
theorem T6 {apos cpos : Pos} (ho : QE X o to) (he : QE X e te) (he2 : QE X e2 te2)
  (hbase : attributeBase o "insert" X.env (eval o X.env) = eval o X.env := by rfl)
  (hfew : ((backTo cpos (starEach [e, e2] X.env)).all (fun x => !x.1) && (backToKw cpos (keywordEach [] X.env)).all (fun x => x.1.isSome)
   && decide ([e, e2].length + ([] : List Keyword).length + (if ([] : List Keyword).isEmpty then 0 else 1) < 30)) = true := by rfl)
  (hline : (apos.endLine == cpos.line) = true := by rfl) (hs : starEach [e, e2] X.env = (false, eval e X.env) :: (false, eval e2 X.env) :: starEach [] X.env := by rfl) (hplain : (backTo cpos ((false, eval e2 X.env) :: starEach [] X.env)).any (·.1) = false := by rfl) :
  QE X (.Call (.Attribute o "insert" apos) [e, e2] [] cpos) (LQ to te te2) := ⟨Uw ho.h he.h he2.h hbase hfew hline hs hplain⟩
end
def rdB := And.intro @Lz (And.intro @VP (And.intro @QL @QF))
theorem yM.k' {H : Hp} {a : Addr} {kvs : List (Key × V)} {k : Key} {v : V} (e : H a = some (.dK kvs)) (hv : qG kvs k = some v) : yM H a (kV k) (some v) := by
 rw [<- hv]
 exact yM.k e
def lbl (ss : Sts) (k : Nat) : Int := (Ag ss k).2.2
def kW (ss : Sts) : Pl -> List Nat -> List (List Nat × Pl)
 | .pick l, left => [(left, .pick l)]
 | .tab, left => [(left, .tab)]
 | .one k r, left => (left, .one k r) :: kW ss r (left.filter (· ≠ k))
 | .wit k r, left => (left, .wit k r) :: kW ss r (left.filter (· ≠ k))
 | .low k a b, left => (left, .low k a b) :: (kW ss b (left.filter (k <= ·)) ++ kW ss a (left.filter (· < k)))
 | .msk l r, left => (left, .msk l r) :: kW ss r (left.filter fun k => (Ag ss k).2.2 ≠ l)
def Mp (ss : Sts) (W : List (List Nat × Pl)) : List (List Nat × Pl) := (W.reverse.map fun x => kW ss x.2 x.1).flatten
theorem steps_kids (ss : Sts) (p : Pl) (left : List Nat) : kW ss p left = (left, p) :: Mp ss (kids ss p left) := by
 cases p <;> simp [kW, Mp, kids]
def VL (ss : Sts) (left : List Nat) : Pl -> Prop
 | .pick l => ∀ k ∈ left, lbl ss k = l
 | .tab => Ww ss left <= 200
 | .one k _ => k ∈ left /\ (Ag ss k).1 = (Ag ss k).2.1
 | .wit k _ => k ∈ left
 | .low k _ _ => k ∈ left
 | .msk l _ => Ww ss left <= 64 /\ ∃ k ∈ left, lbl ss k = l
def PlV (ss : Sts) : Pl -> List Nat -> Prop
 | .pick l, left => Lf ss left /\ VL ss left (.pick l)
 | .tab, left => Lf ss left /\ VL ss left .tab
 | .one k r, left => (Lf ss left /\ VL ss left (.one k r)) /\ PlV ss r (left.filter (· ≠ k))
 | .wit k r, left => (Lf ss left /\ VL ss left (.wit k r)) /\ PlV ss r (left.filter (· ≠ k))
 | .low k a b, left => (Lf ss left /\ VL ss left (.low k a b)) /\ PlV ss a (left.filter (· < k)) /\ PlV ss b (left.filter (k <= ·))
 | .msk l r, left => (Lf ss left /\ VL ss left (.msk l r)) /\ PlV ss r (left.filter fun k => (Ag ss k).2.2 ≠ l)
def nA : Pl -> Nat -> List (Nat × Nat)
 | .pick _, _ => []
 | .tab, _ => []
 | .one _ r, p => nA r (p + 1)
 | .wit _ r, p => nA r (p + 1)
 | .msk _ r, p => nA r (p + 1)
 | .low _ a b, p => nA b (p + 1) ++ (p, p + 1 + Bc b) :: nA a (p + 1 + Bc b)
def V4 : List Pl -> List Nat -> Nat -> List (Nat × Nat)
 | [], _, _ => []
 | c :: rest, T, p => nA c p ++ (match T with | [] => [] | t :: T' => match rest with | [] => [] | _ :: _ => (t, p + Bc c) :: V4 rest T' (p + Bc c))
theorem futA_one (c : Pl) (T : List Nat) (p : Nat) : V4 [c] T p = nA c p := by
 cases T <;> exact List.append_nil _
def Fit (cs : List RowC) (p : Nat) (R : List RowC) : Prop := ∀ (i : Nat) c, R[i]? = some c -> cs[p + i]? = some c
theorem Fit.hd {cs : List RowC} {p : Nat} {c : RowC} {R : List RowC} (h : Fit cs p (c :: R)) : cs[p]? = some c := h 0 c rfl
section
variable {X : Cx} {o e i : Expr} {to te td ty : TE} {pos : Pos}
end
theorem ln1 {α : Type} {us : List α} (h : us.length = 1) : ∃ a, us = [a] := by
 cases us with
 | nil => cases h
 | cons a r =>
  cases r with
  | nil => exact ⟨a, rfl⟩
  | cons b r => cases h
theorem ln2 {α : Type} {us : List α} (h : us.length = 2) : ∃ a0 a1, us = [a0, a1] := by
 cases us with
 | nil => cases h
 | cons a0 r =>
  obtain ⟨a1, rfl⟩ := ln1 (Nat.succ.inj h)
  exact ⟨a0, a1, rfl⟩
theorem ln3 {α : Type} {us : List α} (h : us.length = 3) : ∃ a0 a1 a2, us = [a0, a1, a2] := by
 cases us with
 | nil => cases h
 | cons a0 r =>
  obtain ⟨a1, a2, rfl⟩ := ln2 (Nat.succ.inj h)
  exact ⟨a0, a1, a2, rfl⟩
theorem ln4 {α : Type} {us : List α} (h : us.length = 4) : ∃ a0 a1 a2 a3, us = [a0, a1, a2, a3] := by
 cases us with
 | nil => cases h
 | cons a0 r =>
  obtain ⟨a1, a2, a3, rfl⟩ := ln3 (Nat.succ.inj h)
  exact ⟨a0, a1, a2, a3, rfl⟩
section
variable {X : Cx} {i : Nat} {x : Str} {pos : Pos}
end
def Y4 : Pl -> Bool
 | .pick _ => true
 | .tab => true
 | _ => false
def Rj (ss : Sts) (C : List (List Nat × Pl)) : List (List Nat × Pl) := (C.map fun x => kW ss x.2 x.1).flatten
def Qh (S : List (List Nat × Pl)) : Nat -> Bool
 | 0 => false
 | i + 1 => match S[i]? with
  | some x => Y4 x.2
  | none => false
structure AhSt (ss : Sts) (S : List (List Nat × Pl)) (tot : List (Nat × Nat)) (i : Nat) (C : List (List Nat × Pl)) (T : List Nat) (done : List (Nat × Nat)) : Prop where
 fl : S.drop i = Rj ss C
 no : Qh S i = false -> T.length + 1 = C.length /\ tot = done ++ V4 (C.map (·.2)) T i
 yes : Qh S i = true -> T.length = C.length /\ ((C = [] /\ tot = done) \/ ∃ t T', T = t :: T' /\ tot = done ++ (t, i) :: V4 (C.map (·.2)) T' i)
theorem flat_cons (ss : Sts) (x : List Nat × Pl) (C : List (List Nat × Pl)) : Rj ss (x :: C) = kW ss x.2 x.1 ++ Rj ss C := rfl
section
variable {X : Cx} {pos : Pos} {te : TE}
end
section
variable {X : Cx} {e o : Expr} {te to : TE} {pos : Pos}
end
def RV (many own : Int) : RowC -> Prop
 | .one _ t => btw own many t = true
 | .rng a b t => a <= b /\ btw own many t = true
 | .low _ t => btw own many t = true
 | .msk _ wd bits t => (1 <= wd /\ wd <= 64) /\ (0 <= bits /\ bits < 2 ^ wd.toNat) /\ btw own many t = true
 | .tab _ gs => gs ≠ [] /\ gs.all (btw own many) = true
 | .pik l => 0 <= l
theorem RV.c {many own : Int} {c : RowC} (h : RV many own c) : Zg many own c := by
 cases c with
 | one n t => exact h
 | low n t => exact h
 | rng a b t => exact h.2
 | msk lo wd bits t => exact ⟨h.2.2, h.1.1, h.1.2, h.2.1.1⟩
 | tab lo gs => exact h.2
 | pik l => trivial
open PySem PySem.Spec PyProof.Rows Builtin Builtin.Str
theorem yO : ∀ {ts : List Str} {us : List Value}, Vals (ts.map V.str) us -> ∃ l : List (Str × Tok), strValues l = us /\ l.map (·.1) = ts
 | [], _, h => by
  cases h
  exact ⟨[], rfl, rfl⟩
 | t :: ts, _, h => by
  cases h with
  | cons r h =>
   obtain ⟨l, rfl, e⟩ := yO h
   obtain ⟨k, rfl⟩ := r
   exact ⟨(t, k) :: l, rfl, by rw [List.map_cons, e]⟩
theorem yV : ∀ (l : List (Str × Tok)), Vals ((l.map (·.1)).map V.str) (strValues l)
 | [] => .nil
 | (x, k) :: l => .cons ⟨k, rfl⟩ (yV l)
def jnq (ob : Option HO) (sep : Str) (H : Hp) (Q : VK) : Prop := match ob with
 | some (.lst xs) => ∃ ts : List Str, xs = ts.map V.str /\ JoinOk sep ts = true /\ Q (.str (Txt.join sep ts)) H
 | _ => False
def rJoin : V -> List V -> Hp -> VK -> Prop := fun x vs H Q => match x, vs with
 | .str sep, [.ref b] => jnq (H b) sep H Q
 | _, _ => False
theorem NQ (sep : Str) (b : Addr) (H : Hp) (Q : VK) : rJoin (.str sep) [.ref b] H Q = jnq (H b) sep H Q := rfl
theorem Vp (xs : List V) (sep : Str) (H : Hp) (Q : VK) : jnq (some (.lst xs)) sep H Q = ∃ ts : List Str, xs = ts.map V.str /\ JoinOk sep ts = true /\ Q (.str (Txt.join sep ts)) H := rfl
def Fp : V -> List V -> Hp -> VK -> Prop := fun x vs H Q => match x, vs with
 | .str z, [.str y] => (y.length == 0) = false /\ z.length <= sizeLine /\ (Txt.split z y).length <= sizeLine /\ ∀ p, H p = none -> Q (.ref p) (upd H p (.lst ((Txt.split z y).map V.str)))
 | _, _ => False
theorem JL (z y : Str) (H : Hp) (Q : VK) : Fp (.str z) [.str y] H Q = ((y.length == 0) = false /\ z.length <= sizeLine /\ (Txt.split z y).length <= sizeLine /\ ∀ p, H p = none -> Q (.ref p) (upd H p (.lst ((Txt.split z y).map V.str)))) := rfl
def Ax : V -> List V -> Hp -> VK -> Prop := fun x vs H Q => match x, vs with
 | .str z, [.str y] => Q (.bl (Txt.startswith z y)) H
 | _, _ => False
theorem Fo (z y : Str) (H : Hp) (Q : VK) : Ax (.str z) [.str y] H Q = Q (.bl (Txt.startswith z y)) H := rfl
def VB : V -> Prop
 | .str _ => True
 | _ => False
theorem Qz (z : Str) : VB (.str z) = True := rfl
def tSM (r : V -> List V -> Hp -> VK -> Prop) (to : TE) (t : TA) : TE := fun σ H Q => to σ H fun x H1 => VB x /\ t σ H1 fun xs H2 => r x xs H2 Q
theorem W9 (r : V -> List V -> Hp -> VK -> Prop) (to : TE) (t : TA) (σ : St) (H : Hp) (Q : VK) : tSM r to t σ H Q = to σ H fun x H1 => VB x /\ t σ H1 fun xs H2 => r x xs H2 Q := rfl
def Nf : List V -> Hp -> VK -> Prop := fun vs H Q => match vs with
 | [.int i] => i.natAbs.log2 < 1920 /\ Q (.str (toString i)) H
 | [.str x] => Q (.str x) H
 | _ => False
theorem S5 (i : Int) (H : Hp) (Q : VK) : Nf [.int i] H Q = (i.natAbs.log2 < 1920 /\ Q (.str (toString i)) H) := rfl
def Oa : List V -> Hp -> VK -> Prop := fun vs H Q => match vs with
 | [.str x] => ∃ n, PySem.intText? x = some n /\ x.length <= 640 /\ Q (.int n) H
 | _ => False
theorem N8 (x : Str) (H : Hp) (Q : VK) : Oa [.str x] H Q = ∃ n, PySem.intText? x = some n /\ x.length <= 640 /\ Q (.int n) H := rfl
theorem W6 (K : PySem.W.Frag) (x : V) (H : Hp) : tyV K "str" x H = VB x := by
 refine propext ⟨fun h => ?_, fun h => ?_⟩
 ·cases x with
  | str z => trivial
  | int z => exact absurd (show "str" = "int" from h) (by decide)
  | ref p =>
   rcases h with ⟨e, _⟩ | ⟨e, _⟩ | ⟨e, _⟩ | ⟨e, _⟩
   ·exact absurd e (by decide)
   ·exact absurd e (by decide)
   ·exact absurd e (by decide)
   ·exact absurd e (by decide)
  | _ => exact h.elim
 ·cases x with
  | str z => rfl
  | _ => exact h.elim
section
variable {X : Cx}
theorem rW : MtR X "str.join" rJoin := by
 intro pins s σ H x xs v us Q I rx rv h
 unfold rJoin at h
 split at h
 ·rename_i sep b
  obtain ⟨t, rfl⟩ := rx
  obtain ⟨u, rfl, ru⟩ := rv.one
  cases ru
  cases e : H b with
  | none => rw [e] at h; exact h.elim
  | some o =>
   rw [e] at h
   cases o with
   | lst ys =>
    obtain ⟨ts, rfl, hok, q⟩ := h
    obtain ⟨its, r, pl, hz⟩ := I.list (SqL.of e)
    obtain ⟨l, rfl, hl⟩ := yO r
    exact SC.join pl.isList hl hok fun t' k => ⟨.str _, H, I.tok _, ⟨_, rfl⟩, q⟩
   | _ => exact h.elim
 ·exact h.elim
theorem gG : MtR X "str.split" Fp := by
 intro pins s σ H x xs v us Q I rx rv h
 unfold Fp at h
 split at h
 ·rename_i z y
  obtain ⟨hy, hz, hl, q⟩ := h
  obtain ⟨t, rfl⟩ := rx
  obtain ⟨u, rfl, ru⟩ := rv.one
  obtain ⟨tu, rfl⟩ := ru
  have fin : ∀ (l : List (Str × Tok)) (k : Nat), l.map (·.1) = Txt.split z y -> EP X pins σ Q (.ref s.heap.objs.size) { s with toks := k, heap := s.heap.push { cls := .type "list", data := .seq (strValues l).toArray } } := by
   intro l k hlm
   refine ⟨.ref _, _, I.laid (a := s.heap.objs.size) (o := .lst ((Txt.split z y).map V.str)) (t' := k) (fun b u e => Heap.get?_push_of_some _ e) (Nat.le_refl _) ?_, rfl, q _ (I.hok.fresh (Nat.le_refl _))⟩
   have hv := yV l
   rw [hlm] at hv
   exact ⟨by rw [List.length_map]; exact hl, _, 0, hv, Heap.get?_push_size _ rfl⟩
  cases h1 : (decide (z.length < y.length) || decide (strKind z < strKind y))
  ·cases hf : (occurrences z y 0 z.length (z.length + 1)).isEmpty
   ·have es : Txt.split z y = partsBetween z (occurrences z y 0 z.length (z.length + 1)) y.length := (if_neg (ne_true_of_eq_false h1)).trans (if_neg (ne_true_of_eq_false hf))
    refine call_meets F.slot_str_split (typeIs_str _ _ _) F.entry_str_split (F.args_str_split_2 _ _) (meets_str_split_sep z y t tu h1 hy hf hz (by rw [<- es]; exact hl)) ?_
    show wants _ _ _ { s with toks := _, heap := s.heap.push { cls := .type "list", data := .seq (strsFrom s.toks (partsBetween z (occurrences z y 0 z.length (z.length + 1)) y.length)).toArray } }
    rw [strsFrom_eq]
    exact fin (numbered s.toks _) _ ((numbered_texts _ _).trans es.symm)
   ·exact call_meets F.slot_str_split (typeIs_str _ _ _) F.entry_str_split (F.args_str_split_2 _ _) (meets_str_split_not_found z y t tu h1 hy hf)
     (fin [(z, t)] s.toks ((if_neg (ne_true_of_eq_false h1)).trans (if_pos hf)).symm)
  ·exact call_meets F.slot_str_split (typeIs_str _ _ _) F.entry_str_split (F.args_str_split_2 _ _) (meets_str_split_cannot_occur z y t tu h1)
    (fin [(z, t)] s.toks (if_pos h1).symm)
 ·exact h.elim
theorem Kf : MtR X "str.startswith" Ax := by
 intro pins s σ H x xs v us Q I rx rv h
 unfold Ax at h
 split at h
 ·rename_i z y
  obtain ⟨t, rfl⟩ := rx
  obtain ⟨u, rfl, ru⟩ := rv.one
  obtain ⟨tu, rfl⟩ := ru
  exact SC.startswith ⟨.bl _, H, I, rfl, h⟩
 ·exact h.elim
variable {o e : Expr} {to : TE} {t : TA} {apos cpos : Pos}
theorem ZM {name : Str} {id : String} {r : V -> List V -> Hp -> VK -> Prop} (slot : Slot "str" name id) (hty : typeOf (.builtin id) = pure (.type "method_descriptor")) (hm : MtR X id r) (ho : PE X o to) (ha : PA X [e] t)
  (hbase : attributeBase o name X.env (eval o X.env) = eval o X.env := by rfl)
  (hfew : ((backTo cpos (starEach [e] X.env)).all (fun x => !x.1) && (backToKw cpos (keywordEach [] X.env)).all (fun x => x.1.isSome)
   && decide ([e].length + ([] : List Keyword).length + (if ([] : List Keyword).isEmpty then 0 else 1) < 30)) = true := by rfl)
  (hline : (apos.endLine == cpos.line) = true := by rfl) (hs : starEach [e] X.env = (false, eval e X.env) :: starEach [] X.env := by rfl) (hplain : (backTo cpos (starEach [] X.env)).any (·.1) = false := by rfl) :
  PE X (.Call (.Attribute o name apos) [e] [] cpos) (tSM r to t) := by
 have h := Z0 (X := X) F.plainAttrs_str slot hty hm ho ha hbase hfew hline hs hplain
 have e1 : tBM X.K "str" r to t = tSM r to t := by
  unfold tBM tSM
  simp only [W6]
 rwa [e1] at h
theorem iz {name : Str} {id : String} {r : V -> List V -> Hp -> VK -> Prop} (slot : Slot "str" name id) (hty : typeOf (.builtin id) = pure (.type "method_descriptor")) (hm : MtR X id r) (ho : QE X o to) (ha : QA X [e] t)
  (hbase : attributeBase o name X.env (eval o X.env) = eval o X.env := by rfl)
  (hfew : ((backTo cpos (starEach [e] X.env)).all (fun x => !x.1) && (backToKw cpos (keywordEach [] X.env)).all (fun x => x.1.isSome)
   && decide ([e].length + ([] : List Keyword).length + (if ([] : List Keyword).isEmpty then 0 else 1) < 30)) = true := by rfl)
  (hline : (apos.endLine == cpos.line) = true := by rfl) (hs : starEach [e] X.env = (false, eval e X.env) :: starEach [] X.env := by rfl) (hplain : (backTo cpos (starEach [] X.env)).any (·.1) = false := by rfl) :
  QE X (.Call (.Attribute o name apos) [e] [] cpos) (tSM r to t) := ⟨ZM slot hty hm ho.h ha.h hbase hfew hline hs hplain⟩
theorem gm : dH X (.type "str") Nf := by
 intro pins s σ H xs us Q I r h
 unfold Nf at h
 split at h
 ·rename_i i
  exact BP pins s σ H _ us Q I r ⟨i, rfl, h.1, h.2⟩
 ·rename_i x
  obtain ⟨u, rfl, t, rfl⟩ := vals1 r
  exact PySem.P.str_of_str ⟨.str _, H, I, ⟨_, rfl⟩, h⟩
 ·exact h.elim
theorem zO : dH X (.type "int") Oa := by
 intro pins s σ H xs us Q I r h
 unfold Oa at h
 split at h
 ·rename_i x
  obtain ⟨n, hn, hl, q⟩ := h
  obtain ⟨u, rfl, t, rfl⟩ := vals1 r
  exact PySem.W.KIN.call_text hn hl ⟨.int _, H, I.tok _, ⟨_, rfl⟩, q⟩
 ·exact h.elim
end
def Its (z : Str) : It := ⟨fun i _ => i < z.length, fun i H x H' => H' = H /\ ∃ c, z.cps[i]? = some c /\ x = .str ⟨#[c]⟩, fun i _ => i = z.length⟩
theorem Ce {P : Program} {w : World} {K : PySem.W.Frag} {tg : Expr} (it : Addr) (z : Str) {n : String} {t : Tok} (hn : ["enumerate", "zip", "dict_itemiterator", "dict_reverseitemiterator", "odict_iterator", "itertools.zip_longest", "itertools.pairwise"].contains n = false)
  (W : ∀ A : Around, A.handled = none -> Walks P w A it [it] [it] z.cps.size (SignAt z) (fun i h => h.IsStrIter it n z t i))
  (hself : ∀ (A : Around) (i : Nat) (s : Shared) (Q : Value -> Shared -> Prop) (E : Value -> Shared -> Prop), s.heap.IsStrIter it n z t i -> Q (.ref it) s -> wpAny (model P w) A (pyIter (.ref it)) Q E s) : Turn P w K tg (Its z) [it] it (fun i h => h.IsStrIter it n z t i) where
 mem := by simp
 obj := fun i h st b hb => by
  have e : b = it := by simpa using hb
  subst e
  obtain ⟨o, e, c, d⟩ := st
  exact ⟨o, e, fun v z => by rw [d] at z; cases z⟩
 keep := fun i h h' st k => by
  obtain ⟨o, e, r⟩ := st
  exact ⟨o, k it (by simp) o e, r⟩
 item := by
  intro X hP hw hK hc i pins s σ H E I hf st hg
  subst hP hw hK
  obtain ⟨f0, f1, f2, f3, f4, f5⟩ := hf it (by simp)
  refine (W X.A (I.ok.hd hc)).item i s _ _ hg st fun v h' tk hv st' kk => ?_
  obtain ⟨c, u, hcx, rfl⟩ := hv
  have I1 : Inv X pins σ H { s with heap := h', toks := tk } := I.turned (fun b o hb e => kk b o (by simpa using hb) e) f0 f1 f3 f4 f5
  obtain ⟨o, e, co, d⟩ := id st'
  exact ⟨_, rfl, IW (s := { s with heap := h', toks := tk }) e co d hn ⟨.str ⟨#[c]⟩, H, I1, ⟨u, rfl⟩, ⟨rfl, c, hcx, rfl⟩, st', fun b hb => (hf b hb).1⟩⟩
 done := by
  intro X hP hw hK hc i pins s σ H E I hf st hg
  subst hP hw hK
  obtain ⟨f0, f1, f2, f3, f4, f5⟩ := hf it (by simp)
  have hg' : i = z.cps.size := hg
  subst hg'
  exact (W X.A (I.ok.hd hc)).done s _ _ st fun h' tk kk => ⟨rfl, I.turned (fun b o hb e => kk b o (by simpa using hb) e) f0 f1 f3 f4 f5⟩
 self := hself
def Y6 (tl : TE) : TI := fun σ H R => tl σ H fun x H1 => match x with
 | .str z => R (Its z) H1
 | _ => False
def isK (x : V) (H : Hp) (R : It -> Hp -> Prop) : Prop := match x with
 | .str z => R (Its z) H
 | _ => False
theorem VR (tl : TE) (σ : St) (H : Hp) (R : It -> Hp -> Prop) : Y6 tl σ H R = tl σ H fun x H1 => isK x H1 R := rfl
theorem VD (z : Str) (H : Hp) (R : It -> Hp -> Prop) : isK (.str z) H R = R (Its z) H := rfl
section
variable {X : Cx} {tg l : Expr} {tl : TE}
theorem Yd (hl : PE X l tl) : PI X tg l (Y6 tl) := by
 intro pins s σ H R I h
 refine thn (hl pins s σ H _ I h) fun v s1 ⟨x, H1, I1, r1, q1⟩ => ?_
 cases x with
 | str z =>
  obtain ⟨t, rfl⟩ := r1
  replace q1 : R (Its z) H1 := q1
  have fp : ∀ b ∈ [s1.heap.objs.size], tH X pins H1 b := fun b hb => by
   have e : b = s1.heap.objs.size := by simpa using hb
   subst e
   exact I1.GJ (Nat.le_refl _) (I1.hok.fresh (Nat.le_refl _))
  cases ha : z.cps.all (· < 128)
  ·exact wpAny_pyIter_wide ha ⟨s1.heap.objs.size, [s1.heap.objs.size], _, _, H1, rfl, I1.kept (t' := s1.toks) fun b o e => Heap.get?_push_of_some _ e, Ce _ z (by decide) (fun A hA => Walks.strWide hA _ z t) (fun _ _ _ _ _ st hQ => wpAny_pyIter_striter_wide st hQ), ⟨_, Heap.get?_push_size _ rfl, rfl, rfl⟩, fp, q1⟩
  ·exact wpAny_pyIter_ascii ha ⟨s1.heap.objs.size, [s1.heap.objs.size], _, _, H1, rfl, I1.kept (t' := s1.toks) fun b o e => Heap.get?_push_of_some _ e, Ce _ z (by decide) (fun A hA => Walks.strAscii hA _ z t) (fun _ _ _ _ _ st hQ => wpAny_pyIter_striter_ascii st hQ), ⟨_, Heap.get?_push_size _ rfl, rfl, rfl⟩, fp, q1⟩
 | _ => exact q1.elim
theorem Og (hl : QE X l tl) : QI X tg l (Y6 tl) := ⟨Yd hl.h⟩
end
section
variable {mp : List (Option Nat)} {g : TG} {tc : TT} {te : TE} {σ : St} {H : Hp} {Q : VK} {R : It -> Hp -> Prop}
theorem Rv {z : Str} (hR : R = xX mp g tc te σ Q) (hz : z.length <= sizeLine) (Pv : Nat -> List V -> St -> Hp -> Prop) (h0 : Pv 0 [] (jM mp σ) H) (hl : ∀ i acc τ H, Pv i acc τ H -> acc.length <= i)
  (hs : ∀ i c acc τ H, z.cps[i]? = some c -> Pv i acc τ H -> g (.str ⟨#[c]⟩) τ H fun τ1 H4 => tc τ1 H4 fun b H5 => if b = true then te τ1 H5 fun v H6 => Pv (i + 1) (acc ++ [v]) τ1 H6 else Pv (i + 1) acc τ1 H5)
  (hd : ∀ acc τ H d, Pv z.length acc τ H -> H d = none -> Q (.ref d) (upd H d (.lst acc))) : R (Its z) H := by
 refine sW hR z.length hz Pv h0 hl (fun i acc τ H hi _ => hi) (fun acc τ H _ => rfl) (fun i acc τ H x H3 hi p y => ?_) hd
 obtain ⟨rfl, c, hc, rfl⟩ := y
 exact hs i c acc τ _ hc p
end
open PySem PySem.Spec PyProof.Rows PySem.NumText
def jnL (c : Nat) : List (List Nat) -> List Nat
 | [] => []
 | [x] => x
 | x :: y :: r => x ++ c :: jnL c (y :: r)
theorem mq (c : Nat) : ∀ ts : List Str, (Str.join ⟨#[c]⟩ ts).cps.toList = jnL c (ts.map fun t => t.cps.toList)
 | [] => rfl
 | [x] => rfl
 | x :: y :: r => by
  have ih := mq c (y :: r)
  show ((x ++ (⟨#[c]⟩ : Str) ++ Str.join ⟨#[c]⟩ (y :: r)) : Str).cps.toList = _
  rw [Str.cps_append, Str.cps_append, Array.toList_append, Array.toList_append, ih]
  show x.cps.toList ++ [c] ++ _ = x.cps.toList ++ c :: _
  rw [List.append_assoc]
  rfl
theorem Ir {c : Nat} {x : List Nat} {r : List (List Nat)} : ∃ t, jnL c (x :: r) = x ++ t /\ (t = [] /\ r = [] \/ ∃ y s, r = y :: s /\ t = c :: jnL c r) := by
 cases r with
 | nil => exact ⟨[], (List.append_nil x).symm, .inl ⟨rfl, rfl⟩⟩
 | cons y s => exact ⟨_, rfl, .inr ⟨y, s, rfl, rfl⟩⟩
theorem DX {c : Nat} : ∀ {x y s t : List Nat}, c ∉ x -> c ∉ y -> (s = [] \/ ∃ s', s = c :: s') -> (t = [] \/ ∃ t', t = c :: t') -> x ++ s = y ++ t -> x = y /\ s = t
 | [], [], s, t, _, _, _, _, e => ⟨rfl, e⟩
 | [], b :: y, s, t, _, hy, hs, _, e => by
  rcases hs with rfl | ⟨s', rfl⟩
  ·cases e
  ·have : c = b := by injection e
   exact absurd (this ▸ List.mem_cons_self ..) hy
 | a :: x, [], s, t, hx, _, _, ht, e => by
  rcases ht with rfl | ⟨t', rfl⟩
  ·cases e
  ·have : a = c := by injection e
   exact absurd (this ▸ List.mem_cons_self ..) hx
 | a :: x, b :: y, s, t, hx, hy, hs, ht, e => by
  have e1 : a = b := by injection e
  have e2 : x ++ s = y ++ t := by injection e
  obtain ⟨h1, h2⟩ := DX (fun z => hx (List.mem_cons_of_mem _ z)) (fun z => hy (List.mem_cons_of_mem _ z)) hs ht e2
  exact ⟨by rw [e1, h1], h2⟩
theorem Qq {c : Nat} : ∀ {ps qs : List (List Nat)}, ps ≠ [] -> qs ≠ [] -> (∀ p ∈ ps, c ∉ p) -> (∀ q ∈ qs, c ∉ q) -> jnL c ps = jnL c qs -> ps = qs
 | [], _, h, _, _, _, _ => absurd rfl h
 | _ :: _, [], _, h, _, _, _ => absurd rfl h
 | p :: ps, q :: qs, _, _, hp, hq, e => by
  obtain ⟨t1, e1, c1⟩ := Ir (c := c) (x := p) (r := ps)
  obtain ⟨t2, e2, c2⟩ := Ir (c := c) (x := q) (r := qs)
  rw [e1, e2] at e
  have k1 : t1 = [] \/ ∃ s', t1 = c :: s' := by
   rcases c1 with ⟨z, _⟩ | ⟨_, _, _, z⟩
   ·exact .inl z
   ·exact .inr ⟨_, z⟩
  have k2 : t2 = [] \/ ∃ s', t2 = c :: s' := by
   rcases c2 with ⟨z, _⟩ | ⟨_, _, _, z⟩
   ·exact .inl z
   ·exact .inr ⟨_, z⟩
  obtain ⟨h1, h2⟩ := DX (hp p (List.mem_cons_self ..)) (hq q (List.mem_cons_self ..)) k1 k2 e
  subst h1
  rcases c1 with ⟨z1, z2⟩ | ⟨y1, s1, z1, z2⟩
  ·rcases c2 with ⟨w1, w2⟩ | ⟨y2, s2, w1, w2⟩
   ·rw [z2, w2]
   ·rw [z1, w2] at h2; cases h2
  ·rcases c2 with ⟨w1, w2⟩ | ⟨y2, s2, w1, w2⟩
   ·rw [z2, w1] at h2; cases h2
   ·rw [z2, w2] at h2
    have h3 : jnL c ps = jnL c qs := by injection h2
    rw [Qq (by rw [z1]; exact List.cons_ne_nil _ _) (by rw [w1]; exact List.cons_ne_nil _ _) (fun a ha => hp a (List.mem_cons_of_mem _ ha)) (fun a ha => hq a (List.mem_cons_of_mem _ ha)) h3]
theorem nR (x : Str) (c : Nat) : Txt.split x ⟨#[c]⟩ ≠ [] := by
 intro e
 have h := StrLaws.join_split x ⟨#[c]⟩
 unfold Txt.split at e
 split at e
 ·cases e
 ·split at e
  ·cases e
  ·rename_i h2
   rw [StrLaws.partsBetween_eq] at e
   revert e
   cases Builtin.Str.occurrences x ⟨#[c]⟩ 0 x.length (x.length + 1) <;> (intro e; cases e)
theorem Fb {c : Nat} {ts : List Str} (hne : ts ≠ []) (hf : ∀ t ∈ ts, c ∉ t.cps.toList) : Txt.split (Txt.join ⟨#[c]⟩ ts) ⟨#[c]⟩ = ts := by
 have ej : Txt.join ⟨#[c]⟩ ts = Str.join ⟨#[c]⟩ ts := StrLaws.glued_eq_join _ _
 rw [ej]
 have h1 := StrLaws.join_split (Str.join ⟨#[c]⟩ ts) ⟨#[c]⟩
 have h2 := nR (Str.join ⟨#[c]⟩ ts) c
 have h3 := StrLaws.split_free (Str.join ⟨#[c]⟩ ts) c
 generalize Txt.split (Str.join ⟨#[c]⟩ ts) ⟨#[c]⟩ = ps at h1 h2 h3
 have h4 := congrArg (fun z : Str => z.cps.toList) h1
 simp only [mq] at h4
 have h5 := Qq (c := c) (by simpa using h2) (by simpa using hne) (fun p hp => by
  obtain ⟨t, ht, rfl⟩ := List.mem_map.mp hp
  exact h3 t ht) (fun p hp => by
  obtain ⟨t, ht, rfl⟩ := List.mem_map.mp hp
  exact hf t ht) h4
 have inj : ∀ {as bs : List Str}, as.map (fun t => t.cps.toList) = bs.map (fun t => t.cps.toList) -> as = bs := by
  intro as
  induction as with
  | nil =>
   intro bs e
   cases bs with
   | nil => rfl
   | cons b bs => cases e
  | cons a as ih =>
   intro bs e
   cases bs with
   | nil => cases e
   | cons b bs =>
    rw [List.map_cons, List.map_cons] at e
    have e1 : a.cps.toList = b.cps.toList := by injection e
    have e2 : as.map (fun t => t.cps.toList) = bs.map (fun t => t.cps.toList) := by injection e
    rw [ih e2, Str.ext' (Array.toList_inj.mp e1)]
 exact inj h5
def eG (x : Str) : List Nat := if x.cps.toList.head? = some 45 then x.cps.toList.tail else x.cps.toList
def iM (c : Nat) : Bool := decide (48 <= c) && decide (c <= 57)
def aY (x : Str) : Bool := decide (1 <= (eG x).length) && decide ((eG x).length <= 20) && (eG x).all iM && !(decide ((eG x).head? = some 48) && decide (x ≠ "0"))
def cU (x : Str) : Int := if x.cps.toList.head? = some 45 then -((digitsVal (eG x) : Nat) : Int) else ((digitsVal (eG x) : Nat) : Int)
def eN (x : Str) : V := if aY x = true then .int (cU x) else .non
theorem xM {l : List Nat} : l.all iM = true ↔ AllDigits l := by
 rw [List.all_eq_true]
 unfold iM AllDigits
 constructor
 ·intro h c hc
  simpa using h c hc
 ·intro h c hc
  simpa using h c hc
theorem nY {x : Str} (h : aY x = true) : PySem.intText? x = some (cU x) /\ x.length <= 21 := by
 unfold aY at h
 simp only [Bool.and_eq_true, decide_eq_true_eq] at h
 obtain ⟨⟨⟨h1, h2⟩, h3⟩, _⟩ := h
 have hd := xM.mp h3
 have hl : x.cps.toList.length = x.length := by simp [Str.length]
 unfold cU
 by_cases c : x.cps.toList.head? = some 45
 ·have hf : eG x = x.cps.toList.tail := by unfold eG; rw [if_pos c]
  rw [if_pos c]
  cases e : x.cps.toList with
  | nil => rw [e] at c; cases c
  | cons a r =>
   rw [e] at c
   have ha : a = 45 := by simpa using c
   subst ha
   rw [hf, e, List.tail_cons] at h1 h2 hd |-
   have hl2 : x.length <= 21 := by rw [<- hl, e, List.length_cons]; omega
   exact ⟨intText_neg e hd (fun z => by rw [z] at h1; simp at h1) (by omega), hl2⟩
 ·have hf : eG x = x.cps.toList := by unfold eG; rw [if_neg c]
  rw [if_neg c]
  rw [hf] at h1 h2 hd |-
  exact ⟨intText_digits hd (fun z => by rw [z] at h1; simp at h1) (by omega), by omega⟩
theorem Ji {m : Nat} (h : 10 <= m) : Nat.toDigits 10 m = Nat.toDigits 10 (m / 10) ++ [Nat.digitChar (m % 10)] := by
 have q := Nat.toDigits_append_toDigits (b := 10) (n := m / 10) (d := m % 10) (by decide) (by omega) (by omega)
 rw [Nat.toDigits_of_lt_base (n := m % 10) (by omega), show 10 * (m / 10) + m % 10 = m by omega] at q
 exact q.symm
theorem yR (m : Nat) : ∀ k : Nat, m < 10 ^ (k + 1) -> (Nat.toDigits 10 m).length <= k + 1 :=
 Nat.strongRecOn m fun m ih k hk => by
  rcases Nat.lt_or_ge m 10 with g | g
  ·rw [show Nat.toDigits 10 m = _ from Nat.toDigits_of_lt_base g]; simp
  ·rw [Ji g, List.length_append]
   cases k with
   | zero => omega
   | succ k =>
    have := ih (m / 10) (by omega) k (by rw [Nat.pow_succ] at hk; omega)
    show _ + 1 <= _
    omega
theorem vO (m : Nat) : 0 < m -> ∃ c r, Nat.toDigits 10 m = c :: r /\ c ≠ '0' :=
 Nat.strongRecOn m fun m ih h0 => by
  rcases Nat.lt_or_ge m 10 with g | g
  ·rw [show Nat.toDigits 10 m = _ from Nat.toDigits_of_lt_base g]
   have dg : ∀ d : Nat, d < 10 -> 0 < d -> Nat.digitChar d ≠ '0' := by decide
   exact ⟨_, [], rfl, dg m g h0⟩
  ·obtain ⟨c, r, e, hc⟩ := ih (m / 10) (by omega) (by omega)
   exact ⟨c, r ++ [Nat.digitChar (m % 10)], by rw [Ji g, e]; rfl, hc⟩
theorem Jh (m : Nat) : AllDigits ((Nat.toDigits 10 m).map Char.toNat) := fun c hc => by
 rcases List.mem_map.mp hc with ⟨d, hd, rfl⟩
 exact digit_range (Nat.isDigit_of_mem_toDigits (b := 10) (n := m) (by decide) (by decide) hd)
theorem Rq (m : Nat) : (Nat.toDigits 10 m).map Char.toNat ≠ [] := List.ne_nil_of_length_pos (by rw [List.length_map]; exact toDigits_len_ge 10 m)
theorem JD (m : Nat) : (Str.ofString (toString (Int.negSucc m))).cps.toList = 45 :: (Nat.toDigits 10 (m + 1)).map Char.toNat := by
 rw [signs_ofString]
 show (("-" ++ Nat.repr (m + 1)) : String).toList.map Char.toNat = _
 rw [String.toList_append, List.map_append, Nat.toList_repr]
 rfl
theorem Pn {n : Int} (h : n.natAbs < 10 ^ 20) : eN (Str.ofString (toString n)) = .int n := by
 have key : aY (Str.ofString (toString n)) = true /\ cU (Str.ofString (toString n)) = n := by
  cases n with
  | ofNat m =>
   have e := PySem.W.KIN.signs_num m
   replace h : m < 10 ^ 20 := h
   have hall := Jh m
   have hne := Rq m
   have hn45 : ¬ ((Nat.toDigits 10 m).map Char.toNat).head? = some 45 := fun z => by
    have := hall 45 (List.mem_of_head? z)
    omega
   have hf : eG (Str.ofString (toString (Int.ofNat m))) = (Nat.toDigits 10 m).map Char.toNat := by
    unfold eG
    rw [show (Str.ofString (toString (Int.ofNat m))).cps.toList = _ from e, if_neg hn45]
   have hz : ¬ (((Nat.toDigits 10 m).map Char.toNat).head? = some 48 /\ Str.ofString (toString (Int.ofNat m)) ≠ "0") := fun ⟨z1, z2⟩ => by
    rcases Nat.eq_zero_or_pos m with rfl | hm
    ·exact z2 rfl
    ·obtain ⟨c, r, e2, hc⟩ := vO m hm
     rw [e2] at z1
     have : c.toNat = 48 := by simpa using z1
     exact hc (Char.ext (UInt32.toNat_inj.mp this))
   refine ⟨?_, ?_⟩
   ·unfold aY
    rw [hf]
    have hl := yR m 19 h
    have hl1 : 1 <= ((Nat.toDigits 10 m).map Char.toNat).length := List.length_pos_iff.mpr hne
    rw [decide_eq_true hl1, decide_eq_true (by rw [List.length_map]; exact hl), xM.mpr hall]
    simp only [Bool.and_true, Bool.true_and, Bool.not_eq_true', Bool.and_eq_false_iff, decide_eq_false_iff_not]
    by_cases z : ((Nat.toDigits 10 m).map Char.toNat).head? = some 48
    ·exact .inr fun z2 => hz ⟨z, z2⟩
    ·exact .inl z
   ·unfold cU
    rw [hf, show (Str.ofString (toString (Int.ofNat m))).cps.toList = _ from e, if_neg hn45, PySem.W.KIN.val_back]
    rfl
  | negSucc m =>
   have e := JD m
   replace h : m + 1 < 10 ^ 20 := h
   have hall := Jh (m + 1)
   have hne := Rq (m + 1)
   have hf : eG (Str.ofString (toString (Int.negSucc m))) = (Nat.toDigits 10 (m + 1)).map Char.toNat := by
    unfold eG
    rw [e]
    rfl
   have hz : ¬ ((Nat.toDigits 10 (m + 1)).map Char.toNat).head? = some 48 := fun z1 => by
    obtain ⟨c, r, e2, hc⟩ := vO (m + 1) (by omega)
    rw [e2] at z1
    have : c.toNat = 48 := by simpa using z1
    exact hc (Char.ext (UInt32.toNat_inj.mp this))
   refine ⟨?_, ?_⟩
   ·unfold aY
    rw [hf]
    have hl := yR (m + 1) 19 h
    have hl1 : 1 <= ((Nat.toDigits 10 (m + 1)).map Char.toNat).length := List.length_pos_iff.mpr hne
    rw [decide_eq_true hl1, decide_eq_true (by rw [List.length_map]; exact hl), xM.mpr hall, decide_eq_false hz]
    rfl
   ·unfold cU
    rw [hf, e, if_pos (List.head?_cons ..), PySem.W.KIN.val_back]
    rfl
 unfold eN
 rw [if_pos key.1, key.2]
def Xu : R2 := fun x y H Q => match x, y with
 | .str i, .str j => Q (.bl (!(Builtin.Str.occurrences j i 0 j.length 1).isEmpty)) H
 | _, _ => False
theorem Tg (i j : Str) (H : Hp) (Q : VK) : Xu (.str i) (.str j) H Q = Q (.bl (!(Builtin.Str.occurrences j i 0 j.length 1).isEmpty)) H := rfl
theorem Ys {X : Cx} : OpR X (compareOp .In) Xu := by
 intro pins s σ H x y v u Q I rx ry h
 unfold Xu at h
 split at h
 ·exact J1 pins s σ H _ _ v u Q I rx ry ⟨_, _, rfl, rfl, h⟩
 ·exact h.elim
theorem Rk (c : Nat) : (!(Builtin.Str.occurrences ("0123456789" : Str) ⟨#[c]⟩ 0 ("0123456789" : Str).length 1).isEmpty) = iM c := by
 rw [StrLaws.found_one]
 have e : ("0123456789" : Str).cps.toList = [48, 49, 50, 51, 52, 53, 54, 55, 56, 57] := by decide
 rw [e]
 unfold iM
 rw [<- Bool.decide_and]
 refine decide_eq_decide.mpr ?_
 simp only [List.mem_cons, List.not_mem_nil, or_false]
 omega
theorem vU (x : Str) (c : Nat) : Txt.startswith x ⟨#[c]⟩ = decide (x.cps.toList.head? = some c) := by
 have h := StrLaws.subAt_one x c 0
 rw [<- List.head?_eq_getElem?] at h
 unfold Txt.startswith
 cases e : Builtin.Str.subAt x ⟨#[c]⟩ 0 with
 | true =>
  rw [Bool.and_true]
  exact decide_eq_decide.mpr ⟨fun z => h.mp ⟨z, e⟩, fun z => (h.mpr z).1⟩
 | false =>
  rw [Bool.and_false]
  exact (decide_eq_false fun z => by have := (h.mpr z).2; rw [e] at this; cases this).symm
def Xl : V -> Option Int -> Option Int -> Hp -> VK -> Prop := fun x lo hi H Q => match x with
 | .str z => z.length <= sizeLine /\ Q (.str (Txt.slice z lo hi)) H
 | _ => False
theorem S6 (z : Str) (lo hi : Option Int) (H : Hp) (Q : VK) : Xl (.str z) lo hi H Q = (z.length <= sizeLine /\ Q (.str (Txt.slice z lo hi)) H) := rfl
theorem MK {X : Cx} : SlR X Xl := by
 intro pins s σ H x v vl vu lo hi sl Q I rx hs pl pu h
 unfold Xl at h
 split at h
 ·rename_i z
  obtain ⟨hz, q⟩ := h
  obtain ⟨t, rfl⟩ := rx
  refine ⟨"str", _, F.slot_str_getitem.lookup, typeIs_str _ _ _, ?_⟩
  have fin : ∀ t' k, EP X pins σ Q (.str (Txt.slice z lo hi) t') { s with toks := k } := fun t' k => ⟨.str _, H, I.tok _, ⟨_, rfl⟩, q⟩
  cases pl with
  | none =>
   cases pu with
   | none => exact wpAny_getItem_str_slice (l := none) (u := none) (st := none) hs rfl (post_val_or_str ⟨Nat.le_trans (Txt.slice_le z _ _) hz, fin⟩)
   | int j uj => exact wpAny_getItem_str_slice (l := none) (u := some (j, uj)) (st := none) hs rfl (post_val_or_str ⟨Nat.le_trans (Txt.slice_le z _ _) hz, fin⟩)
  | int i ui =>
   cases pu with
   | none => exact wpAny_getItem_str_slice (l := some (i, ui)) (u := none) (st := none) hs rfl (post_val_or_str ⟨Nat.le_trans (Txt.slice_le z _ _) hz, fin⟩)
   | int j uj => exact wpAny_getItem_str_slice (l := some (i, ui)) (u := some (j, uj)) (st := none) hs rfl (post_val_or_str ⟨Nat.le_trans (Txt.slice_le z _ _) hz, fin⟩)
 ·exact h.elim
theorem JC {z : Str} {c : Nat} {r : List Nat} (h : z.cps.toList = c :: r) : (Txt.slice z (some 1) none).cps.toList = r := by
 have hl : z.length = r.length + 1 := by rw [<- List.length_cons, <- h]; simp [Str.length]
 rw [slice_from_eq (b := (z.length : Int)) (by decide) (by omega) rfl, h]
 show (((c :: r).drop 1).take _).toArray.toList = r
 rw [List.drop_one, List.tail_cons]
 simp only [List.toList_toArray]
 exact List.take_of_length_le (by omega)
def Xp : R2 := fun x y H Q => match x, y with
 | .str z, .int i => z.length <= sizeLine /\ ∃ c, atI z.cps.toList i = some c /\ Q (.str ⟨#[c]⟩) H
 | _, _ => False
theorem Td (z : Str) (i : Int) (H : Hp) (Q : VK) : Xp (.str z) (.int i) H Q = (z.length <= sizeLine /\ ∃ c, atI z.cps.toList i = some c /\ Q (.str ⟨#[c]⟩) H) := rfl
theorem Iv {X : Cx} : IxR X Xp := by
 intro value slice pins s σ H x y v u Q I rx ry q hs
 unfold Xp at q
 split at q
 ·obtain ⟨h1, c, h2, h3⟩ := q
  exact YZ value slice pins s σ H _ _ v u Q I rx ry ⟨_, _, c, rfl, rfl, h1, h2, h3⟩ hs
 ·exact q.elim
def NP : List V -> Hp -> VK -> Prop := fun vs H Q => match vs with
 | [.str z] => z.length <= sizeLine /\ Q (.int z.length) H
 | _ => False
theorem NK (z : Str) (H : Hp) (Q : VK) : NP [.str z] H Q = (z.length <= sizeLine /\ Q (.int z.length) H) := rfl
theorem zN {X : Cx} : dH X (.builtin "len") NP := by
 intro pins s σ H xs us Q I r h
 unfold NP at h
 split at h
 ·exact BV pins s σ H _ us Q I r ⟨_, rfl, h.1, h.2⟩
 ·exact h.elim
def rdT := And.intro @W9 (And.intro @Qz (And.intro @NQ (And.intro @Vp (And.intro @JL (And.intro @Fo (And.intro @S5 (And.intro @N8 (And.intro @VR (And.intro @VD (And.intro @Tg (And.intro @S6 (And.intro @Td @NK))))))))))))
def nU : Sp := fun vs H Q _ => ∃ x : Str, vs = [.str x] /\ x.length <= sizeLine /\ ∀ H', Same H H' -> Q (eN x) H'
theorem Je {x : Str} : eG x = (if Txt.startswith x ⟨#[45]⟩ = true then Txt.slice x (some 1) none else x).cps.toList := by
 rw [vU]
 unfold eG
 by_cases c : x.cps.toList.head? = some 45
 ·rw [if_pos c, if_pos (by rw [decide_eq_true c])]
  cases e : x.cps.toList with
  | nil => rw [e] at c; cases c
  | cons a r => rw [JC e]; rfl
 ·rw [if_neg c, if_neg (by rw [decide_eq_false c]; decide)]
theorem J8 (x : Str) : gW (eN x) = true := by
 unfold eN
 split <;> rfl
theorem zj (ts : List Str) : (ts.map eN).all gW = true := by
 rw [List.all_map, List.all_eq_true]
 exact fun t _ => J8 t
def Hs : Sp := fun vs H Q _ => ∃ (a : Addr) (ts : List Str), vs = [.ref a] /\ H a = some (.lst (ts.map V.str)) /\ ts.length <= 1000000 /\ (∀ t ∈ ts, t.length <= sizeLine) /\
 (∀ H', Same H H' -> (∃ t ∈ ts, aY t = false) -> Q .non H') /\ ∀ (p : Addr) H', H p = none -> Same H H' -> (∀ t ∈ ts, aY t = true) -> H' p = some (.lst ((ts.map cU).map V.int)) -> Q (.ref p) H'
theorem vB (ts : List Str) : inV .non (ts.map eN) = true ↔ ∃ t ∈ ts, aY t = false := by
 unfold inV
 rw [List.any_map, List.any_eq_true]
 have key : ∀ t, ((fun y => eqV y V.non) ∘ eN) t = true ↔ aY t = false := fun t => by
  show eqV (eN t) V.non = true ↔ _
  unfold eN
  cases aY t with
  | true => rw [if_pos rfl]; exact ⟨fun z => (nomatch z), fun z => (nomatch z)⟩
  | false => rw [if_neg (by decide)]; exact ⟨fun _ => rfl, fun _ => rfl⟩
 exact ⟨fun ⟨t, h1, h2⟩ => ⟨t, h1, (key t).mp h2⟩, fun ⟨t, h1, h2⟩ => ⟨t, h1, (key t).mpr h2⟩⟩
theorem zf {ts : List Str} (h : ∀ t ∈ ts, aY t = true) : ts.map eN = (ts.map cU).map V.int := by
 rw [List.map_map]
 refine List.map_congr_left fun t ht => ?_
 unfold eN
 rw [if_pos (h t ht)]
 rfl
abbrev tsI (i : Int) : Str := Str.ofString (toString i)
def SmI (i : Int) : Prop := i.natAbs < 10 ^ 20
theorem gZ {i : Int} (h : SmI i) : (tsI i).length <= 21 := by
 have hb := Pn h
 have ho : aY (tsI i) = true := by
  unfold eN at hb
  split at hb
  ·assumption
  ·cases hb
 exact (nY ho).2
theorem jz {i : Int} (h : SmI i) : i.natAbs.log2 < 1920 := by
 by_cases z : i.natAbs = 0
 ·rw [z]; decide
 ·have : i.natAbs < 2 ^ 70 := Nat.lt_of_lt_of_le h (by decide)
  have := (Nat.log2_lt z).mpr this
  omega
theorem Im {L : Nat} : ∀ {ts : List Str}, (∀ t ∈ ts, t.length <= L) -> (ts.map (·.length)).sum <= ts.length * L
 | [], _ => by simp
 | t :: ts, h => by
  have h1 := h t (List.mem_cons_self ..)
  have h2 := Im fun a ha => h a (List.mem_cons_of_mem _ ha)
  rw [List.map_cons, List.sum_cons, List.length_cons]
  have e : (ts.length + 1) * L = ts.length * L + L := Nat.succ_mul ..
  omega
theorem Dy {L n : Nat} {sep : Str} {ts : List Str} (h : ∀ t ∈ ts, t.length <= L) (hn : ts.length <= n) : (ts.map (·.length)).sum + ts.length * sep.length <= n * (L + sep.length) := by
 have h1 := Im h
 have h2 := Nat.mul_le_mul_right (L + sep.length) hn
 rw [Nat.mul_add] at h2
 omega
theorem qd {L n : Nat} {sep : Str} {ts : List Str} (h : ∀ t ∈ ts, t.length <= L) (hn : ts.length <= n) (hb : n * (L + sep.length) <= 10000000) : JoinOk sep ts = true := by
 unfold JoinOk Builtin.Str.tooLong
 rw [StrLaws.joinTotal, Bool.not_eq_true', decide_eq_false_iff_not]
 have := Dy (sep := sep) h hn
 rw [sizeLine_eq]
 omega
theorem join_le {L n : Nat} {sep : Str} {ts : List Str} (h : ∀ t ∈ ts, t.length <= L) (hn : ts.length <= n) : (Txt.join sep ts).length <= n * (L + sep.length) := by
 show (Builtin.Str.glued sep ts).length <= _
 rw [StrLaws.glued_eq_join]
 exact Nat.le_trans (StrLaws.join_length_le sep ts) (Dy h hn)
theorem lR (x : Str) (c : Nat) : ∀ t ∈ Txt.split x ⟨#[c]⟩, t.length <= x.length := by
 have h : ∀ (ps : List (List Nat)) (p : List Nat), p ∈ ps -> p.length <= (jnL c ps).length := by
  intro ps
  induction ps with
  | nil => intro p hp; cases hp
  | cons a ps ih =>
   intro p hp
   cases ps with
   | nil =>
    have e := List.mem_singleton.mp hp
    exact e ▸ Nat.le_refl _
   | cons b r =>
    have e : (jnL c (a :: b :: r)).length = a.length + ((jnL c (b :: r)).length + 1) := by
     show (a ++ c :: jnL c (b :: r)).length = _
     rw [List.length_append, List.length_cons]
    rw [e]
    rcases List.mem_cons.mp hp with rfl | hp
    ·omega
    ·have := ih p hp
     omega
 intro t ht
 have e := congrArg (fun z : Str => z.cps.toList) (StrLaws.join_split x ⟨#[c]⟩)
 simp only [mq] at e
 have := h _ _ (List.mem_map_of_mem (f := fun t : Str => t.cps.toList) ht)
 rw [e] at this
 simp only [Array.length_toList] at this
 exact this
theorem qj : ((" " : Str)) = ⟨#[32]⟩ := by decide +kernel
theorem Pr : (("\n" : Str)) = ⟨#[10]⟩ := by decide +kernel
theorem nT (x : Str) : ∃ w ts, Txt.split x " " = w :: ts := by
 rw [qj]
 cases e : Txt.split x ⟨#[32]⟩ with
 | nil => exact absurd e (nR x 32)
 | cons w ts => exact ⟨w, ts, rfl⟩
theorem Qo {c a : Nat} : ∀ {ps : List (List Nat)}, a ∈ jnL c ps -> a = c \/ ∃ p ∈ ps, a ∈ p
 | [], h => (nomatch h)
 | [p], h => .inr ⟨p, List.mem_singleton_self p, h⟩
 | p :: q :: r, h => by
  replace h : a ∈ p ++ c :: jnL c (q :: r) := h
  rcases List.mem_append.mp h with hp | h
  ·exact .inr ⟨p, List.mem_cons_self .., hp⟩
  ·rcases List.mem_cons.mp h with h | h
   ·exact .inl h
   ·rcases Qo h with h | ⟨s, hs, h⟩
    ·exact .inl h
    ·exact .inr ⟨s, List.mem_cons_of_mem _ hs, h⟩
def CP : R2 := fun x y H Q => match x, y with
 | .str a, .str b => a.length + b.length <= sizeLine /\ Q (.str (a ++ b)) H
 | x, y => zb x y H Q
theorem Tt (a b : Str) (H : Hp) (Q : VK) : CP (.str a) (.str b) H Q = (a.length + b.length <= sizeLine /\ Q (.str (a ++ b)) H) := rfl
theorem Tv (a b : Int) (H : Hp) (Q : VK) : CP (.int a) (.int b) H Q = Q (.int (a + b)) H := rfl
theorem HX (p q : Addr) (H : Hp) (Q : VK) : CP (.ref p) (.ref q) H Q = adq (H p) (H q) H Q := rfl
theorem bT {X : Cx} : OpR X (binaryOp .Add) CP := by
 intro pins s σ H x y v u Q I rx ry h
 unfold CP at h
 split at h
 ·exact Fy pins s σ H _ _ v u Q I rx ry ⟨_, _, rfl, rfl, h.1, h.2⟩
 ·exact cN pins s σ H _ _ v u Q I rx ry h
def Zu : V -> Option Int -> Option Int -> Hp -> VK -> Prop := fun x lo hi H Q => match x with
 | .str z => z.length <= sizeLine /\ Q (.str (Txt.slice z lo hi)) H
 | x => S7 x lo hi H Q
theorem Xk (z : Str) (lo hi : Option Int) (H : Hp) (Q : VK) : Zu (.str z) lo hi H Q = (z.length <= sizeLine /\ Q (.str (Txt.slice z lo hi)) H) := rfl
theorem Sw {X : Cx} : SlR X Zu := by
 intro pins s σ H x v vl vu lo hi sl Q I rx hs pl pu h
 cases x with
 | str z => exact MK pins s σ H _ v vl vu lo hi sl Q I rx hs pl pu h
 | _ => exact uX pins s σ H _ v vl vu lo hi sl Q I rx hs pl pu h
def Te : R2 := fun x y H Q => match x, y with
 | .str z, .int i => z.length <= sizeLine /\ ∃ c, atI z.cps.toList i = some c /\ Q (.str ⟨#[c]⟩) H
 | x, y => CN x y H Q
theorem Xq (z : Str) (i : Int) (H : Hp) (Q : VK) : Te (.str z) (.int i) H Q = (z.length <= sizeLine /\ ∃ c, atI z.cps.toList i = some c /\ Q (.str ⟨#[c]⟩) H) := rfl
theorem Xr (p : Addr) (i : Int) (H : Hp) (Q : VK) : Te (.ref p) (.int i) H Q = ixq (H p) i H Q := rfl
theorem Dz {X : Cx} : IxR X Te := by
 intro value slice pins s σ H x y v u Q I rx ry q hs
 unfold Te at q
 split at q
 ·exact Iv value slice pins s σ H _ _ v u Q I rx ry q hs
 ·exact eO value slice pins s σ H _ _ v u Q I rx ry q hs
def HS : List V -> Hp -> VK -> Prop := fun vs H Q => match vs with
 | [.str z] => z.length <= sizeLine /\ Q (.int z.length) H
 | vs => HW vs H Q
theorem S9 (z : Str) (H : Hp) (Q : VK) : HS [.str z] H Q = (z.length <= sizeLine /\ Q (.int z.length) H) := rfl
theorem Tc (p : Addr) (H : Hp) (Q : VK) : HS [.ref p] H Q = lnq (H p) H Q := rfl
theorem jK {X : Cx} : dH X (.builtin "len") HS := by
 intro pins s σ H xs us Q I r h
 unfold HS at h
 split at h
 ·exact zN pins s σ H _ us Q I r h
 ·exact dO pins s σ H _ us Q I r h
def Nq : R2 := fun x y H Q => match x, y with
 | .str i, .str j => Q (.bl (!(!(Builtin.Str.occurrences j i 0 j.length 1).isEmpty))) H
 | _, _ => False
theorem Np (i j : Str) (H : Hp) (Q : VK) : Nq (.str i) (.str j) H Q = Q (.bl (!(!(Builtin.Str.occurrences j i 0 j.length 1).isEmpty))) H := rfl
theorem U5 {X : Cx} : OpR X (compareOp .NotIn) Nq := by
 intro pins s σ H x y v u Q I rx ry h
 unfold Nq at h
 split at h
 ·exact Bd pins s σ H _ _ v u Q I rx ry ⟨_, _, rfl, rfl, h⟩
 ·exact h.elim
def rdX := And.intro @rdT (And.intro @Tt (And.intro @Tv (And.intro @HX (And.intro @Xk (And.intro @Xq (And.intro @Xr (And.intro @S9 (And.intro @Tc @Np))))))))
theorem yX {z : Str} : Txt.slice z none (some 1) = ⟨#[45]⟩ ↔ z.cps.toList.head? = some 45 := by
 cases e : z.cps.toList with
 | nil =>
  have hz : z = ⟨#[]⟩ := Str.ext' (Array.toList_inj.mp e)
  subst hz
  have h0 := Txt.slice_le ⟨#[]⟩ none (some 1)
  refine ⟨fun z => ?_, fun z => (nomatch z)⟩
  rw [z] at h0
  exact absurd h0 (by decide)
 | cons c r =>
  have hl : z.length = r.length + 1 := by rw [<- List.length_cons, <- e]; simp [Str.length]
  have hs : Txt.slice z none (some 1) = ⟨#[c]⟩ := by
   have := beq_iff_eq.mp (slice_closes_toL (x := z) (j := 1) (by decide) (by omega))
   rw [this, e]
   rfl
  rw [hs, List.head?_cons]
  exact ⟨fun z => by injection z with z; injection z with z; injection z with z; rw [z], fun z => by cases z; rfl⟩
def rowsOf (x : Str) : List Str := Txt.split x "\n"
theorem yZ (x : Str) : rowsOf x ≠ [] := by
 unfold rowsOf
 rw [Pr]
 exact nR x 10
theorem Qp {c : Nat} : ∀ {ps : List (List Nat)}, ps ≠ [] -> (jnL c ps).length + 1 = (ps.map (·.length)).sum + ps.length
 | [], h => absurd rfl h
 | [p], _ => by
  show p.length + 1 = p.length + 0 + 1
  omega
 | p :: q :: r, _ => by
  have ih := Qp (c := c) (ps := q :: r) (List.cons_ne_nil _ _)
  have e : (jnL c (p :: q :: r)).length = p.length + ((jnL c (q :: r)).length + 1) := by
   show (p ++ c :: jnL c (q :: r)).length = _
   rw [List.length_append, List.length_cons]
  rw [List.map_cons, List.sum_cons, List.length_cons, e]
  omega
theorem pW (x : Str) (c : Nat) : ((Txt.split x ⟨#[c]⟩).map (·.length)).sum + (Txt.split x ⟨#[c]⟩).length = x.length + 1 := by
 have e := congrArg (fun z : Str => z.cps.toList) (StrLaws.join_split x ⟨#[c]⟩)
 simp only [mq] at e
 have h := Qp (c := c) (ps := (Txt.split x ⟨#[c]⟩).map fun t => t.cps.toList) (by simpa using nR x c)
 rw [e, List.map_map, List.length_map] at h
 have e2 : ((List.length ∘ fun t : Str => t.cps.toList)) = fun t : Str => t.length := by
  funext t
  simp [Str.length]
 have e3 : x.cps.toList.length = x.length := by simp [Str.length]
 rw [e3] at h
 rw [show ((fun x : List Nat => x.length) ∘ fun t : Str => t.cps.toList) = fun t : Str => t.length from e2] at h
 exact h.symm
theorem CJ (x : Str) : (rowsOf x).length <= x.length + 1 /\ ∀ r ∈ rowsOf x, r.length <= x.length := by
 unfold rowsOf
 rw [Pr]
 have := pW x 10
 exact ⟨by omega, lR x 10⟩
theorem pK (x : Str) : (Txt.split x " ").length <= x.length + 1 := by
 rw [qj]
 have := pW x 32
 omega
theorem nu (a b : Str) : (a ++ b).length = a.length + b.length := Str.length_append a b
theorem join_one {c : Nat} {us : List Str} {n : Nat} (h : (us.map (·.length)).sum + us.length <= n) (hn : n <= 1000000) : JoinOk ⟨#[c]⟩ us = true /\ (Txt.join ⟨#[c]⟩ us).length <= n := by
 have e : (⟨#[c]⟩ : Str).length = 1 := rfl
 refine ⟨?_, ?_⟩
 ·unfold JoinOk Builtin.Str.tooLong
  rw [StrLaws.joinTotal, Bool.not_eq_true', decide_eq_false_iff_not, e, sizeLine_eq]
  omega
 ·have h1 := StrLaws.join_length_le ⟨#[c]⟩ us
  rw [<- StrLaws.glued_eq_join, e] at h1
  show (Builtin.Str.glued ⟨#[c]⟩ us).length <= n
  omega
end L2
set_option maxHeartbeats 4100000
namespace SRT
open PySem PyProof.Rows
def Ris (xs : Array Nat) : Prop := xs.toList.Pairwise (· < ·)
def TOk (b : Bool) (t : SetTable) : Prop := Ris t.place /\ t.dummies = #[] /\ t.led = b
end SRT
namespace SRT
open PySem PyProof.Rows
section
variable {prog : Program} {w : World} {K : Type} [DecidableEq K]
def SetT (knd : KeyKind prog w K) (b : Bool) (h : Heap) (a : Addr) (S : K -> Bool) (n : Nat) : Prop :=
 ∃ o es ep t, h.get? a = some o /\ o.ExactSet /\ o.data = .set es ep t /\ (ElemsOf knd es.toList /\ (∀ k, S k = true ↔ ∃ e ∈ es.toList, knd.is k e.2 = true) /\ es.size < scanBound) /\ t.fits es.size = true /\ es.size = n /\ TOk b t
variable {knd : KeyKind prog w K} {A : Around} {E : Value -> Shared -> Prop} {s : Shared} {b : Bool}
end
end SRT
namespace SRT
open PySem PyProof.Rows
section
variable {prog : Program} {w : World} {A : Around} {R : Result -> Shared -> Prop} {I : Addr} {fp wr : List Addr} {G : Array GenState -> Array GenState -> Prop} {n : Nat} {P : Nat -> Value -> Prop} {St : Nat -> Shared -> Prop} {b : Bool}
end
section
variable {prog : Program} {w : World} {A : Around} {E : Value -> Shared -> Prop} {s : Shared}
end
end SRT
namespace SRT
open PySem PyProof.Rows
section
variable {prog : Program} {w : World} {A : Around} {E : Value -> Shared -> Prop}
end
def IterAt (h : Heap) (I : Addr) (first : Value) (i : Nat) (S : Addr) (n ep : Nat) : Prop :=
 h.get? I = some { cls := .type "set_iterator", dict := none, data := .fields #[first, .int i 0, .ref S, .int n 0, .int ep 0], slots := #[] }
section
variable {prog : Program} {w : World} {A : Around} {E : Value -> Shared -> Prop} {s : Shared} {S : Addr} {es : Array (Int × Value)} {ep : Nat} {t : SetTable}
end
end SRT
namespace SRT
open PySem PyProof.Rows
section
variable {prog : Program} {w : World} {A : Around} {E : Value -> Shared -> Prop} {s : Shared} {S I : Addr} {es : Array (Int × Value)} {ep : Nat} {t : SetTable}
end
end SRT
namespace SRT
open PySem PyProof.Rows
section
variable {prog : Program} {w : World} {A : Around} {E : Value -> Shared -> Prop} {s : Shared} {S I T : Addr} {es : Array (Int × Value)} {ep : Nat} {t : SetTable}
end
end SRT
namespace SRT
open PySem PyProof.Rows
section
variable {prog : Program} {w : World} {A : Around} {E : Value -> Shared -> Prop} {s : Shared} {S : Addr} {es : Array (Int × Value)} {ep : Nat} {t : SetTable}
end
end SRT
set_option maxHeartbeats 4000000
namespace L2
open PySem PySem.Spec PyProof.Rows
section
variable {X : Cx} {pins : List (Addr × Obj)} {s : Shared} {σ : St} {H : Hp}
end
theorem Jw {ok : Addr -> Prop} {H : Hp} {x : V} {it : It1} (t : aX ok H x (itD it)) : ∃ p, x = .ref p /\ ok p /\ qX H p it := by
 cases it with
 | one a =>
  cases t with
  | tup o e z ts => cases ts with | cons t1 ts => cases t1; cases ts with | cons t2 ts => cases t2; cases ts; exact ⟨_, rfl, o, ⟨e⟩⟩
 | rng a b =>
  cases t with
  | tup o e z ts => cases ts with | cons t1 ts => cases t1; cases ts with | cons t2 ts => cases t2; cases ts with | cons t3 ts => cases t3; cases ts; exact ⟨_, rfl, o, ⟨e⟩⟩
 | bits m v =>
  cases t with
  | tup o e z ts => cases ts with | cons t1 ts => cases t1; cases ts with | cons t2 ts => cases t2; cases ts with | cons t3 ts => cases t3; cases ts; exact ⟨_, rfl, o, ⟨e⟩⟩
theorem Jx {ok : Addr -> Prop} {H : Hp} {x : V} {its : List It1} (t : aX ok H x (zM its)) : ∃ q us, x = .ref q /\ ok q /\ H q = some (.lst us) /\ us.length <= 1000000 /\ aM ok H us (its.map itD) := by
 cases t with
 | lst o e z ts => exact ⟨_, _, rfl, o, e, z, ts⟩
theorem uM {ok : Addr -> Prop} {H : Hp} {x : V} {w s : Int} {css : List (List It1)} (t : aX ok H x (BL w s css)) :
  ∃ p c vs, x = .ref p /\ ok p /\ H p = some (.tup [.int w, .int s, .ref c]) /\ ok c /\ H c = some (.lst vs) /\ vs.length <= 1000000 /\ aM ok H vs (css.map zM) := by
 cases t with
 | tup o e z ts => cases ts with | cons t1 ts => cases t1; cases ts with | cons t2 ts => cases t2; cases ts with | cons t3 ts => cases ts; cases t3 with | lst o2 e2 z2 ts2 => exact ⟨_, _, _, rfl, o, e, o2, e2, z2, ts2⟩
open Classical in
noncomputable def pickD (w n : Int) (d : PyData) : Bool := decide (∃ it, d = itD it /\ Yc w n it = true)
section
variable {prog : Program} {w : World} {A : Around} {R : Result -> Shared -> Prop} {s : Shared}
end
end L2
set_option maxHeartbeats 8000000
namespace L2
open PySem PySem.Spec PyProof.Rows
section
variable {X : Cx} {NX N : List Str} {kX : List (Str × NameKind)} {mp : List (Option Nat)} {scope : Scope}
end
end L2
set_option maxHeartbeats 4000000
namespace L2
open PySem PySem.Spec PyProof.Rows
section
variable {mp : List (Option Nat)} {wi wi2 : TI} {g g2 : TG} {te : TE} {σ τ1 : St} {H : Hp} {Q : VK} {R : It -> Hp -> Prop} {K : PySem.W.Frag} {a : Addr} {xs : List V}
end
section
variable {X : Cx}
end
section
variable {X : Cx} {o e : Expr} {p pos : Pos} {to ti : TE}
end
def kw1 (n : Int) (u : Tok) : List (Str × Value) := [("start", .int n u)]
theorem KN (t : Addr) (items : Array Value) (n : Int) (u : Tok) (hn : Builtin.SmallTypes.fitsIndex n = true) : Meets (Builtin.«enumerate.__new__» { pos := [Value.type "enumerate", Value.ref t], kw := kw1 n u }) fun _ R s =>
  s.heap.IsList t items /\ R (.ok (.ret (.ref (s.heap.objs.size + 1)))) { s with heap := (s.heap.push { cls := .type "list_iterator", data := .fields #[.ref t, .int 0 0] }).push { cls := .type "enumerate", data := .fields #[.none, .bool false, .ref s.heap.objs.size, rawInt n, .none, .none] } } := by
 refine Meets.of_wp fun prog w A R s h => ?_
 obtain ⟨ht, hR⟩ := h
 unfold Builtin.«enumerate.__new__» Builtin.SmallTypes.newClass kw1
 refine wpAny_bind (wpAny_bind (wpAny_pure (wpAny_ite_false rfl (wpAny_bind (wpAny_of_eq sub_enumerate (wpAny_ite_false rfl (wpAny_pure (wpAny_ite_true rfl (wpAny_bind ?_)))))))))
 unfold Builtin.SmallTypes.calledThroughType
 refine wpAny_bind (wpAny_stack_any fun st => wpAny_pure ?_)
 have fin : wpAny (model prog w) A.in1 (do
   let it <- pyIter (Value.ref t)
   let r <- Builtin.SmallTypes.newRecord (Value.type "enumerate") (Builtin.SmallTypes.ownedTupleFields ++ [it, rawInt n, Value.none, Value.none])
   ret r) (fun fin s' => ∃ v, fin = Fin.done (Flow.ret v) /\ R (Except.ok (Flow.ret v)) s') (fun e s' => R (Except.error e) s') s := by
  refine wpAny_bind (wpAny_pyIter_list ht ?_)
  show wpAny _ _ (newObj (.type "enumerate") (.fields #[.none, .bool false, .ref s.heap.objs.size, rawInt n, .none, .none]) >>= fun r => ret r) _ _ _
  refine wpAny_bind (wpAny_newObj_type ?_)
  refine wpAny_pure ⟨_, rfl, ?_⟩
  have e : (s.heap.push { cls := Value.type "list_iterator", data := Data.fields #[Value.ref t, Value.int 0 0] }).objs.size = s.heap.objs.size + 1 := Heap.size_push ..
  rw [e]
  exact hR
 have hf : decide ((!Builtin.SmallTypes.fitsIndex n) = true) = false := by rw [hn]; rfl
 dsimp only
 split
 ·split
  ·exact wpAny_bind (wpAny_pure (wpAny_bind (wpAny_of_eq (a := Value.int n u) rfl (wpAny_bind (wpAny_of_eq (a := some n) rfl (wpAny_ite_false hf fin))))))
  ·exact wpAny_bind (wpAny_pure (wpAny_bind (wpAny_of_eq (a := Value.int n u) rfl (wpAny_bind (wpAny_of_eq (a := some n) rfl (wpAny_ite_false hf fin))))))
 ·split
  ·exact wpAny_bind (wpAny_pure (wpAny_bind (wpAny_of_eq (a := Value.int n u) rfl (wpAny_bind (wpAny_of_eq (a := some n) rfl (wpAny_ite_false hf fin))))))
  ·exact wpAny_bind (wpAny_pure (wpAny_bind (wpAny_of_eq (a := Value.int n u) rfl (wpAny_bind (wpAny_of_eq (a := some n) rfl (wpAny_ite_false hf fin))))))
theorem KQ {prog : Program} {w : World} {A : Around} {it : Addr} {fp : List Addr} {n : Nat} {P : Nat -> Value -> Prop} {St : Nat -> Heap -> Prop} (k : Nat) (D : Draws prog w A it fp n P St) : Draws prog w A it fp (n + k) (fun i v => P (i - k) v) fun i h => k <= i /\ St (i - k) h where
 live := fun i h st => D.live _ _ st.2
 frame := fun i h h' st q => ⟨st.1, D.frame _ _ _ st.2 q⟩
 item := fun i s Q E hi st hQ => D.item (i - k) s Q E (by have := st.1; omega) st.2 fun x h' tk p q r => hQ x h' tk p ⟨by have := st.1; omega, by
  have e : i + 1 - k = i - k + 1 := by have := st.1; omega
  rw [e]
  exact q⟩ r
 done := fun s Q E st hE => D.done s Q E (Nat.add_sub_cancel n k ▸ st.2) hE
def Itn (K : PySem.W.Frag) (k : Nat) (a : Addr) : It :=
 ⟨fun i H => ∃ xs x, SqL K H a xs /\ xs[i]? = some x,
  fun i H v H' => ∃ p x, v = .ref p /\ H p = none /\ H' = upd H p (.tup [.int ((i + k : Nat) : Int), x]) /\ ∀ xs, SqL K H a xs -> xs[i]? = some x,
  fun i H => ∃ xs, SqL K H a xs /\ xs.length = i⟩
theorem Et {P : Program} {w : World} {K : PySem.W.Frag} {es : List Expr} {kk k : Nat} {tpos : Pos} {e it l : Addr} (hne : e ≠ it) :
  Turn P w K (.Tuple es kk tpos) (Itn K k l) [e, it] e (fun i h => (∃ old, IsEnum h e it ((i + k : Nat) : Int) old) /\ h.IsListIter it l i) where
 mem := by simp
 obj := fun i h st b hb => by
  obtain ⟨⟨old, he⟩, ⟨o1, e1, c1, d1⟩⟩ := st
  simp only [List.mem_cons, List.not_mem_nil, or_false] at hb
  rcases hb with rfl | rfl
  ·exact ⟨_, he, fun v q => by cases q⟩
  ·exact ⟨o1, e1, fun v q => by rw [d1] at q; cases q⟩
 keep := fun i h h' st k => by
  obtain ⟨⟨old, he⟩, h1⟩ := st
  exact ⟨⟨old, k e (by simp) _ he⟩, h1.at fun o q => k it (by simp) o q⟩
 item := by
  intro X hP hw hK hc i pins s σ H E I hf st hg
  subst hP hw hK
  obtain ⟨xs, x, q1, hx⟩ := hg
  obtain ⟨its1, rv1, p1, hz1⟩ := I.list q1
  obtain ⟨u1, hu1, ru1⟩ := rv1.get hx
  obtain ⟨⟨old, he⟩, h1⟩ := st
  have hL := p1.isList
  have hel : e ≠ l := fun z => by
   obtain ⟨ol, g1, g2, _⟩ := hL
   rw [<- z, he] at g1
   cases g1
   injection g2 with g2
   exact absurd g2 (by decide)
  have hil : l ≠ it := fun z => by
   obtain ⟨ol, g1, g2, _⟩ := hL
   obtain ⟨oi, g3, g4, _⟩ := h1
   rw [z, g3] at g1
   cases g1
   rw [g4] at g2
   injection g2 with g2
   exact absurd g2 (by decide)
  have hsz1 : i < its1.toArray.size := by
   obtain ⟨z, _⟩ := List.getElem?_eq_some_iff.mp hu1
   simpa using z
  refine wpAny_pyNext_enum_itemD (KQ k (Draws.list (A := X.A.in1) (I.ok.hd hc) it l hil its1.toArray)) he ⟨by omega, by rw [Nat.add_sub_cancel]; exact ⟨h1, hL⟩⟩ (by omega) hne (by simp [hne, hel]) fun x1 h' tk hP a1 a2 a3 a4 hk => ?_
  have ex : x1 = u1 := by
   have hP' : its1[i]? = some x1 := by simpa using hP
   rw [hu1] at hP'
   exact (Option.some.inj hP').symm
  subst ex
  obtain ⟨_, a2, _⟩ := a2
  have e2 : i + k + 1 - k = i + 1 := by omega
  rw [e2] at a2
  have new : cQ X.prog X.w (upd H s.heap.objs.size (.tup [.int ((i + k : Nat) : Int), x])) h' s.heap.objs.size (.tup [.int ((i + k : Nat) : Int), x]) := ⟨by show 2 <= sizeLine; decide, [.int ((i + k : Nat) : Int) tk, x1], .cons ⟨_, rfl⟩ (.cons ru1 .nil), _, a3, rfl, _, rfl⟩
  have I1 : Inv X pins σ (upd H s.heap.objs.size (.tup [.int ((i + k : Nat) : Int), x])) { s with heap := h', toks := tk + 1 } := I.G8 (ch := [e, it]) hf
   (fun b o hb q => hk b o (fun z => hb (by simp [z])) (fun z => hb (by simp [z])) q) (Nat.le_refl _) new
  have hsz : ∀ b, b ∈ [e, it] -> b ≠ s.heap.objs.size := fun b hb => by
   have lt : ∃ o, s.heap.get? b = some o := by
    simp only [List.mem_cons, List.not_mem_nil, or_false] at hb
    rcases hb with rfl | rfl
    ·exact ⟨_, he⟩
    ·obtain ⟨o, q, _⟩ := h1; exact ⟨o, q⟩
   obtain ⟨o, q⟩ := lt
   exact Nat.ne_of_lt (Heap.lt_size q)
  refine ⟨_, rfl, wpAny_letOwnedTupleGo_enum (s := { s with heap := h', toks := tk + 1 }) a1 fun h'' z2 sb => ?_⟩
  have fz := hf e (by simp)
  have I2 : Inv X pins σ (upd H s.heap.objs.size (.tup [.int ((i + k : Nat) : Int), x])) { s with heap := h'', toks := tk + 1 } := Inv.turned (s := { s with heap := h', toks := tk + 1 }) (it := e) I1 (fun b o hb q => (sb.2 b hb).trans q) (by rw [aJ (hsz e (by simp))]; exact fz.1) fz.2.1 fz.2.2.2.1 fz.2.2.2.2.1 fz.2.2.2.2.2
  have e3 : ((i + k : Nat) : Int) + 1 = ((i + 1 + k : Nat) : Int) := by omega
  refine ⟨.ref s.heap.objs.size, _, I2, rfl, ⟨_, x, rfl, I.fresh, rfl, fun xs' q => by rw [I.oU q q1]; exact hx⟩,
   ⟨⟨_, e3 ▸ z2⟩, a2.extBut sb.extBut hne.symm⟩, fun b hb => by rw [aJ (hsz b hb)]; exact (hf b hb).1⟩
 done := by
  intro X hP hw hK hc i pins s σ H E I hf st hg
  subst hP hw hK
  obtain ⟨xs, q1, hx⟩ := hg
  obtain ⟨its1, rv1, p1, hz1⟩ := I.list q1
  obtain ⟨⟨old, he⟩, h1⟩ := st
  have hL := p1.isList
  have hil : l ≠ it := fun z => by
   obtain ⟨ol, g1, g2, _⟩ := hL
   obtain ⟨oi, g3, g4, _⟩ := h1
   rw [z, g3] at g1
   cases g1
   rw [g4] at g2
   injection g2 with g2
   exact absurd g2 (by decide)
  have hl1 := rv1.length
  have hsi : its1.toArray.size = i := by rw [List.size_toArray]; omega
  exact wpAny_pyNext_enum_endD (Draws.list (A := X.A.in1) (I.ok.hd hc) it l hil its1.toArray) he (by rw [hsi]; exact ⟨h1, hL⟩) fun h' hk => ⟨rfl, I.G9 (t' := s.toks) (ch := [e, it]) hf (fun b o hb q => hk b o (fun z => hb (by simp [z])) q)⟩
 self := fun _ _ _ _ _ st h => by
  obtain ⟨⟨old, he⟩, _⟩ := st
  exact wpAny_pyIter_enum he h
section
variable {prog : Program} {w : World} {A : Around} {E : Value -> Shared -> Prop} {s : Shared}
theorem Pk {T nid : String} {self : Value} {rest : List Value} {kw : List (Str × Value)} (hl : typeLookup (.type T) "__init__" = pure (some (.builtin "object.__init__")))
  (hm : Bind.madeBy (.type T) = pure (some nid)) (hne : (some nid != some "object.__new__") = true) :
  Meets (Builtin.«object.__init__» ⟨self :: rest, kw⟩) (fun _ R s => s.TypeIs self T /\ R (.ok (.ret .none)) s) := by
 refine Meets.of_wp fun prog w A R s hs => ?_
 obtain ⟨hT, hq⟩ := hs
 cases rest <;> cases kw <;> repeat (any_goals (first | assumption | wp_step))
 all_goals exact ⟨_, rfl, hq⟩
theorem RB {T newId : String} {Bn : Builtin} {us : List Value} {kw : List (Str × Value)} {S : PySem.Spec} {Q : Value -> Shared -> Prop} (ft : TypeCalled T newId "object.__init__")
  (hne : (some newId != some "object.__new__") = true) (hct : checkTypeCall T ⟨us, kw⟩ = pure ()) (hcn : checkBuiltinCall newId ⟨.type T :: us, kw⟩ = pure ())
  (hok : ∀ obj, argsOk "object.__init__" ⟨obj :: us, kw⟩) (en : entryFor table newId = some Bn) (g : Meets (Bn ⟨.type T :: us, kw⟩) S)
  (h : S A.in1 (wants (fun obj s₁ => s₁.TypeIs obj T /\ Q obj s₁) E) s) : wpAny (model prog w) A (call (.type T) us kw) Q E s := by
 obtain ⟨c, tl, hmro⟩ := ft.mro
 have hmade := ft.made
 have hsub := ft.sub
 refine wpAny_call (codeAny_of_tree ?_)
 show wpAny (model prog w) _ (callAny (.type T) _) _ _ _
 refine wpAny_pure (And.intro (Code.quiet_builtin _ (by decide +kernel)) (codeAny_builtin F.entry_type_call ?_))
 rw [Around.under_plain (weight_type_call_type T us kw) (units_type_call_type T us kw)]
 have h1 := ft.notType
 have h2 := ft.canCreate
 repeat (any_goals (first | assumption | wp_step))
 refine codeAny_mono (codeAny_call_builtin ft.plain en (wpAny_of_eq hcn (g prog w A.in1 _ s h))) fun z s1 hz => ?_
 rcases z with e | fl
 ·exact hz
 ·cases fl with
  | ret o =>
   obtain ⟨hT, hq⟩ := hz
   have hli := ft.init.lookup
   have hbi := ft.init.bind o
   repeat (any_goals (first | assumption | wp_step))
   refine codeAny_mono (codeAny_call_builtin ft.init.plain F.entry_object_init (ft.init.check _ _ _ _ _ _ _ _ hT (hok o) (Pk ft.init.lookup ft.made hne prog w A.in1 (wants (fun r s2 => r = .none /\ Q o s2) E) s1 ⟨hT, rfl, hq⟩))) fun z2 s2 hz2 => ?_
   rcases z2 with e | fl2
   ·exact hz2
   ·cases fl2 with
    | ret r =>
     obtain ⟨rfl, hq2⟩ := hz2
     repeat (any_goals (first | assumption | wp_step))
    | _ => exact hz2.elim
  | _ => exact hz.elim
theorem RD {l : Addr} {items : Array Value} {n : Int} {u : Tok} (hn : Builtin.SmallTypes.fitsIndex n = true) {Q : Value -> Shared -> Prop} (hL : s.heap.IsList l items)
  (h : ∀ h', IsEnum h' (s.heap.objs.size + 1) s.heap.objs.size n .none -> h'.IsListIter s.heap.objs.size l 0 -> (∀ b o, s.heap.get? b = some o -> h'.get? b = some o) -> Q (.ref (s.heap.objs.size + 1)) { s with heap := h' }) :
  wpAny (model prog w) A (call (.type "enumerate") [.ref l] (kw1 n u)) Q E s := by
 refine RB F.called_enumerate (by decide) ?_ ?_ ?_ F.entry_enumerate_new (KN l items n u hn) ⟨hL, ?_⟩
 ·kernel_rfl
 ·kernel_rfl
 ·intro o
  unfold argsOk
  rw [signature?_of (n := "__tini__".toList) (o := "tcejbo".toList) (by kernel_rfl) F.owner_object]
  kernel_rfl
 ·have hz : (s.heap.push { cls := Value.type "list_iterator", data := Data.fields #[Value.ref l, Value.int 0 0] }).objs.size = s.heap.objs.size + 1 := Heap.size_push ..
  have b1 : ((s.heap.push { cls := Value.type "list_iterator", data := Data.fields #[Value.ref l, Value.int 0 0] }).push { cls := Value.type "enumerate", data := Data.fields #[Value.none, Value.bool false, Value.ref s.heap.objs.size, rawInt n, Value.none, Value.none] }).get? (s.heap.objs.size + 1) = some { cls := Value.type "enumerate", data := Data.fields #[Value.none, Value.bool false, Value.ref s.heap.objs.size, rawInt n, Value.none, Value.none] } := by
   rw [<- hz]
   exact Heap.get?_push_size _ rfl
  exact ⟨⟨_, b1, rfl⟩, h _ b1 ⟨_, Heap.get?_push_of_some _ (Heap.get?_push_size _ rfl), rfl, rfl⟩ fun b o z => Heap.get?_push_of_some _ (Heap.get?_push_of_some _ z)⟩
end
theorem Rt {M : Model} {A : Around} {E : Value -> Shared -> Prop} {s : Shared} {env : Env} {pos : Pos} {T : String} {e : Expr} {es : List Expr} {kws : List Keyword} {Q : Value -> Shared -> Prop}
  (h : wpAny M A (spliced (backTo pos (starEach (e :: es) env))) (fun vs s1 => wpAny M A (evalAll ((backToKw pos (keywordEach kws env)).map (·.2)))
   (fun ws s2 => wpAny M A (call (.type T) vs (((backToKw pos (keywordEach kws env)).filterMap (·.1)).zip ws)) Q E s2) E s1) E s)
  (he : backTo pos (starEach (e :: es) env) = (false, eval e env) :: backTo pos (starEach es env)) (hp : (backTo pos (starEach (e :: es) env)).any (·.1) = false)
  (ha : (backToKw pos (keywordEach kws env)).all (·.1.isSome) = true) (hk : (backToKw pos (keywordEach kws env)).any (·.1.isNone) = false) :
  wpAny M A (callWith pos (.type T) [] (backTo pos (starEach (e :: es) env)) (backToKw pos (keywordEach kws env))) Q E s := by
 unfold callWith
 have h1 : wpAny M A (evalArgs (.type T) true (backTo pos (starEach (e :: es) env)) (backToKw pos (keywordEach kws env))) (fun a s2 => wpAny M A (call (.type T) a.pos a.kw) Q E s2) E s := by
  rw [he] at h |-
  exact evalArgs_kwB ha h
 refine wpAny_bind (wpAny_holding (wpAny_mono h1 (fun a s1 h2 => wpAny_bind (wpAny_standAt ?_)) fun _ _ x => x))
 simp only [hp, hk, Bool.or_false]
 exact wpAny_bind (wpAny_pure (wpAny_bind (wpAny_mono h2 (fun r s2 hr => wpAny_bind (wpAny_holding (wpAny_point (wpAny_pure hr)))) fun _ _ x => x)))
def enq (K : PySem.W.Frag) (ob : Option HO) (k : Nat) (a : Addr) (H : Hp) (R : It -> Hp -> Prop) : Prop := match ob with
 | some (.lst _) => R (Itn K k a) H
 | _ => False
def enK (K : PySem.W.Frag) (vs zs : List V) (H : Hp) (R : It -> Hp -> Prop) : Prop := match vs, zs with
 | [.ref a], [.int n] => 0 <= n /\ n < 2 ^ 63 /\ enq K (H a) n.toNat a H R
 | _, _ => False
def Gm (K : PySem.W.Frag) (ta tk : TA) : TI := fun σ H R => ta σ H fun vs H1 => tk σ H1 fun zs H2 => enK K vs zs H2 R
theorem Kz (K : PySem.W.Frag) (ta tk : TA) (σ : St) (H : Hp) (R : It -> Hp -> Prop) : Gm K ta tk σ H R = ta σ H fun vs H1 => tk σ H1 fun zs H2 => enK K vs zs H2 R := rfl
theorem V9 (K : PySem.W.Frag) (a : Addr) (n : Int) (H : Hp) (R : It -> Hp -> Prop) : enK K [.ref a] [.int n] H R = (0 <= n /\ n < 2 ^ 63 /\ enq K (H a) n.toNat a H R) := rfl
theorem V8 (K : PySem.W.Frag) (xs : List V) (k : Nat) (a : Addr) (H : Hp) (R : It -> Hp -> Prop) : enq K (some (.lst xs)) k a H R = R (Itn K k a) H := rfl
section
variable {X : Cx}
theorem Ot {es : List Expr} {kk : Nat} {tpos : Pos} {a e : Expr} {ta tk : TA} {p pos kp : Pos} (hg : Gl X "enumerate") (hm : X.mg "enumerate" = none) (ha : PA X [a] ta) (hk : PK X [⟨some "start", e, kp⟩] tk) (hs : starEach [a] X.env = [(false, eval a X.env)] := by rfl) :
  PI X (.Tuple es kk tpos) (.Call (.Name "enumerate" p) [a] [⟨some "start", e, kp⟩] pos) (Gm X.K ta tk) := by
 intro pins s σ H R I h
 refine wpAny_Call_Name_kw (qL I hg hm PyProof.Rows.Boot.«enumerate» (Rt (thA (ha pos pins s σ H _ I h) fun us s1 vs H1 I1 r1 q1 => thn (hk pos pins s1 σ H1 _ I1 q1) fun ws s2 ⟨zs, H2, I2, r2, q2⟩ => ?_) (by rw [hs]; rfl) (by rw [hs]; rfl) rfl rfl))
 show wpAny _ _ (call (.type "enumerate") us ((["start"] : List Str).zip ws)) _ _ _
 replace q2 : enK X.K vs zs H2 R := q2
 unfold enK at q2
 split at q2
 ·rename_i l1 n zz
  obtain ⟨h0, hn, q2⟩ := q2
  cases r1 with
  | cons r rr =>
   cases rr
   cases r
   cases r2 with
   | cons r rr =>
    cases rr
    obtain ⟨u, rfl⟩ := r
    unfold enq at q2
    split at q2
    ·rename_i xs e
     obtain ⟨its1, rv1, p1, hz1⟩ := I2.list (SqL.of e)
     have hfi : Builtin.SmallTypes.fitsIndex n = true := by
      unfold Builtin.SmallTypes.fitsIndex
      simp only [Bool.and_eq_true, decide_eq_true_eq]
      omega
     refine RD (u := u) hfi p1.isList fun h' b1 b2 hk => ?_
     refine wpAny_pyIter_enum (s := { s2 with heap := h' }) b1 ?_
     have I3 : Inv X pins σ H2 { s2 with heap := h' } := I2.kept (t' := s2.toks) hk
     have en : n = ((0 + n.toNat : Nat) : Int) := by omega
     refine ⟨_, _, _, _, H2, rfl, I3, Et (Nat.ne_of_gt (Nat.lt_succ_self _)), ⟨⟨_, en ▸ b1⟩, b2⟩, fun b hb => ?_, q2⟩
     have hle : s2.heap.objs.size <= b := by
      simp only [List.mem_cons, List.not_mem_nil, or_false] at hb
      rcases hb with rfl | rfl <;> simp
     exact I2.GJ hle (I2.hok.fresh hle)
    ·exact q2.elim
 ·exact q2.elim
theorem Oh {es : List Expr} {kk : Nat} {tpos : Pos} {a e : Expr} {ta tk : TA} {p pos kp : Pos} (hg : Gl X "enumerate") (hm : X.mg "enumerate" = none) (ha : QA X [a] ta) (hk : PK X [⟨some "start", e, kp⟩] tk) (hs : starEach [a] X.env = [(false, eval a X.env)] := by rfl) :
  QI X (.Tuple es kk tpos) (.Call (.Name "enumerate" p) [a] [⟨some "start", e, kp⟩] pos) (Gm X.K ta tk) := ⟨Ot hg hm ha.h hk hs⟩
end
open PySem PySem.Spec PyProof.Rows Builtin Builtin.Str
def rH (z y : Str) : List Str := match occurrences z y 0 z.length 1 with
 | i :: _ => [strSub z 0 i, y, strSub z (i + y.length) z.length]
 | [] => [z, Str.empty, Str.empty]
def Nk : V -> List V -> Hp -> VK -> Prop := fun x vs H Q => match x, vs with
 | .str z, [.str y] => (y.length == 0) = false /\ z.length <= sizeLine /\ ∀ p, H p = none -> Q (.ref p) (upd H p (.tup ((rH z y).map V.str)))
 | _, _ => False
theorem Nj (z y : Str) (H : Hp) (Q : VK) : Nk (.str z) [.str y] H Q = ((y.length == 0) = false /\ z.length <= sizeLine /\ ∀ p, H p = none -> Q (.ref p) (upd H p (.tup ((rH z y).map V.str)))) := rfl
def xK (z y : Str) : Int := match occurrences z y 0 z.length 1 with
 | i :: _ => (i : Int)
 | [] => -1
def Oe : V -> List V -> Hp -> VK -> Prop := fun x vs H Q => match x, vs with
 | .str z, [.str y] => Q (.int (xK z y)) H
 | _, _ => False
theorem Od (z y : Str) (H : Hp) (Q : VK) : Oe (.str z) [.str y] H Q = Q (.int (xK z y)) H := rfl
section
variable {X : Cx}
theorem Ik : MtR X "str.partition" Nk := by
 intro pins s σ H x xs v us Q I rx rv h
 unfold Nk at h
 split at h
 ·rename_i z y
  obtain ⟨hy, hz, q⟩ := h
  obtain ⟨t, rfl⟩ := rx
  obtain ⟨u, rfl, ru⟩ := rv.one
  obtain ⟨tu, rfl⟩ := ru
  have fin : ∀ (l : List Value) (k : Nat), Vals ((rH z y).map V.str) l -> EP X pins σ Q (.ref s.heap.objs.size) { s with toks := k, heap := s.heap.push { cls := .type "tuple", data := .seq l.toArray } } := by
   intro l k hl
   refine ⟨.ref _, _, I.laid (a := s.heap.objs.size) (o := .tup ((rH z y).map V.str)) (t' := k) (fun b u e => Heap.get?_push_of_some _ e) (Nat.le_refl _) ?_, rfl, q _ (I.hok.fresh (Nat.le_refl _))⟩
   refine ⟨?_, _, hl, _, Heap.get?_push_size _ rfl, rfl, _, rfl⟩
   rw [List.length_map]
   unfold rH
   split <;> (show 3 <= sizeLine; decide)
  refine call_meets F.slot_str_partition (typeIs_str _ _ _) F.entry_str_partition (F.args_str_partition_2 _ _) (meets_str_partition z y t tu hy hz) ?_
  unfold rH at fin
  revert fin
  cases e : occurrences z y 0 z.length 1 with
  | nil => exact fun fin => fin _ _ (.cons ⟨_, rfl⟩ (.cons ⟨_, rfl⟩ (.cons ⟨_, rfl⟩ .nil)))
  | cons i r => exact fun fin => fin _ _ (.cons ⟨_, rfl⟩ (.cons ⟨_, rfl⟩ (.cons ⟨_, rfl⟩ .nil)))
 ·exact h.elim
theorem Vi : MtR X "str.find" Oe := by
 intro pins s σ H x xs v us Q I rx rv h
 unfold Oe at h
 split at h
 ·rename_i z y
  obtain ⟨t, rfl⟩ := rx
  obtain ⟨u, rfl, ru⟩ := rv.one
  obtain ⟨tu, rfl⟩ := ru
  refine call_gives F.slot_str_find (typeIs_str _ _ _) F.entry_str_find (F.args_str_find_2 _ _) (gives_str_find z y t tu) ?_
  exact ⟨.int (xK z y), H, I.tok _, ⟨_, rfl⟩, h⟩
 ·exact h.elim
end
section
variable {prog : Program} {w : World} {A : Around} {E : Value -> Shared -> Prop}
theorem WR {it l : Addr} {items : Array Value} (hne : l ≠ it) : ∀ (n i : Nat) (s : Shared) (Q : List Value -> Shared -> Prop), s.heap.IsListIter it l i -> s.heap.IsList l items -> i + n <= items.size ->
  (∀ g, g.IsListIter it l (i + n) -> Heap.SameBut it s.heap g -> Q ((items.toList.drop i).take n) { s with heap := g }) -> wpAny (model prog w) A (draw (.ref it) n) Q E s
 | 0, i, s, Q, h1, _, _, hQ => wpAny_pure (by simpa using hQ s.heap h1 (Heap.SameBut.refl ..))
 | n + 1, i, s, Q, h1, h2, hle, hQ => by
  have lt : i < items.size := by omega
  refine wpAny_bind (m := pyNext (.ref it)) (wpAny_pyNext_list_item h1 h2 (x := items[i]) (by simp [lt]) fun g1 k1 s1 => ?_)
  refine wpAny_bind (wpAny_holding (WR hne n (i + 1) _ _ k1 (h2.extBut s1.extBut hne) (by omega) fun g2 k2 s2 => wpAny_pure ?_))
  have hd : items.toList.drop i = items[i] :: items.toList.drop (i + 1) := by simp [List.drop_eq_getElem_cons, lt]
  have e : i + (n + 1) = i + 1 + n := by omega
  have q := hQ g2 (e ▸ k2) (s1.trans s2)
  rw [hd, List.take_succ_cons] at q
  exact q
theorem aar {s : Shared} {l : Addr} {items : Array Value} {Q : List Value -> Shared -> Prop} (hh : A.handled = none) (hl : s.heap.IsList l items)
  (hQ : ∀ g, Heap.ExtBut s.heap.objs.size s.heap g -> Q items.toList { s with heap := g }) : wpAny (model prog w) A (unpackItems (.ref l) items.size none) Q E s := by
 have lt : l ≠ s.heap.objs.size := by
  obtain ⟨o, ho, _⟩ := hl
  exact Nat.ne_of_lt (Heap.lt_size ho)
 have hT : s.TypeIs (.ref l) "list" := by
  obtain ⟨o, ho, hc, _⟩ := hl
  exact ⟨o, ho, hc⟩
 unfold unpackItems notIterableAtAll
 refine wpAny_bind (wpAny_bind (wpAny_specialOf hT F.slot_list_iter.lookup (wpAny_pure ?_)))
 simp only [Bool.false_eq_true, if_false]
 refine wpAny_bind ?_
 refine wpAny_holding (wpAny_pyIter_list hl ?_)
 have hp := hl.extBut (h' := s.heap.push { cls := .type "list_iterator", data := .fields #[.ref l, .int 0 0] }) (fun b o _ e => Heap.get?_push_of_some _ e) lt
 refine wpAny_bind (wpAny_holding (WR lt items.size 0 _ _ ⟨_, Heap.get?_push_size _ rfl, rfl, rfl⟩ hp (by omega) fun g1 k1 s1 => ?_))
 have ha : List.take items.size (List.drop 0 items.toList) = items.toList := by
  rw [List.drop_zero]
  exact List.take_of_length_le (Nat.le_of_eq (by simp))
 rw [ha, if_neg (by simp)]
 refine wpAny_bind (wpAny_holding (wpAny_pyNext_list_end hh k1 (hp.extBut s1.extBut lt) (by simp) fun g2 x2 => ?_))
 simp only [if_false, Option.isSome_none, Bool.false_eq_true]
 exact wpAny_pure (hQ g2 fun b o hb e => x2 b o hb (s1.extBut b o hb (Heap.get?_push_of_some _ e)))
end
def gxq (o : Option HO) (n : Nat) (t : TGs) (σ : St) (H : Hp) (Q : St -> Hp -> Prop) : Prop := match o with
 | some (.tup xs) => xs.length = n /\ t xs σ H Q
 | some (.lst xs) => xs.length = n /\ t xs σ H Q
 | _ => False
def Ja (n : Nat) (t : TGs) : TG := fun v σ H Q => match v with
 | .ref a => gxq (H a) n t σ H Q
 | _ => False
theorem zJ (n : Nat) (t : TGs) (a : Addr) (σ : St) (H : Hp) (Q : St -> Hp -> Prop) : Ja n t (.ref a) σ H Q = gxq (H a) n t σ H Q := rfl
theorem V0 (xs : List V) (n : Nat) (t : TGs) (σ : St) (H : Hp) (Q : St -> Hp -> Prop) : gxq (some (.tup xs)) n t σ H Q = (xs.length = n /\ t xs σ H Q) := rfl
theorem V1 (xs : List V) (n : Nat) (t : TGs) (σ : St) (H : Hp) (Q : St -> Hp -> Prop) : gxq (some (.lst xs)) n t σ H Q = (xs.length = n /\ t xs σ H Q) := rfl
section
variable {X : Cx} {es : List Expr} {k : Nat} {t : TGs} {n : Nat} {pos : Pos}
theorem Uu (hc : X.calm = true) (h : PGs X es t) (hn : (assignEach es X.env).length = n := by rfl) (hst : (assignEach es X.env).findIdx? (·.1) = none := by rfl) : PG X (.Tuple es k pos) (Ja n t) := by
 intro pins s σ H v u Q I r hw
 unfold Ja at hw
 split at hw
 ·rename_i a
  unfold gxq at hw
  split at hw
  ·rename_i xs e
   exact Ov hc h hn hst pins s σ H _ u Q I r ⟨a, xs, rfl, SqT.of e, hw.1, hw.2⟩
  ·rename_i xs e
   cases r
   obtain ⟨its, rv, hp, hz⟩ := I.list (SqL.of e)
   rw [assign_Tuple]
   refine wpAny_bind (wpAny_standAt ?_)
   unfold unpack
   have hs : (assignEach es X.env).length = its.toArray.size := by simp [hn, <- hw.1, rv.length]
   rw [hs, hst]
   refine wpAny_bind (wpAny_holding (aar (I.ok.hd hc) hp.isList fun h' hx => ?_))
   have I1 : Inv X pins σ H { s with heap := h' } := I.kept (t' := s.toks) fun b o e => hx b o (Nat.ne_of_lt (Heap.lt_size e)) e
   exact h pins _ σ H xs _ Q I1 (by simpa using rv) hw.2
  ·exact hw.elim
 ·exact hw.elim
end
abbrev TF := St -> Hp -> Str -> (Str -> Hp -> Prop) -> Prop
section
variable {X : Cx} {e : Expr} {es : List Expr} {t : TF} {te : TE} {x : Str} {pos : Pos}
end
theorem Ba {X : Cx} {es : List Expr} {k : Nat} {t : TGs} {n : Nat} {pos : Pos} (hc : X.calm = true) (h : QGs X es t) (hn : (assignEach es X.env).length = n := by rfl) (hst : (assignEach es X.env).findIdx? (·.1) = none := by rfl) : QG X (.Tuple es k pos) (Ja n t) := ⟨Uu hc h.h hn hst⟩
def rdF := And.intro @rdX (And.intro @Kz (And.intro @V9 (And.intro @V8 (And.intro @Nj (And.intro @Od (And.intro @zJ @V1))))))
theorem qH (x : Str) (i j : Nat) : (strSub x i j).cps.toList = (x.cps.toList.take j).drop i := by
 simp [strSub, Array.toList_extract, List.extract, List.drop_take]
theorem vR {x y : Str} (h : x.cps.toList = y.cps.toList) : x = y := by
 cases x with
 | mk a => cases y with
  | mk b =>
   have e : a = b := Array.toList_inj.mp h
   rw [e]
theorem kO (x y : Str) : (x ++ y).cps.toList = x.cps.toList ++ y.cps.toList := by
 show (x.cps ++ y.cps).toList = _
 simp
def itW : It1 -> Str
 | .one a => tsI a
 | .rng a b => tsI a ++ ".." ++ tsI b
 | .bits m v => tsI m ++ "&" ++ tsI v
def qR (its : List It1) : List Str := "case" :: its.map itW
def qF (its : List It1) : Str := Txt.join " " (qR its)
def ju (w s : Int) : Str := "choice " ++ tsI w ++ " " ++ tsI s
def vJ (w s : Int) (css : List (List It1)) : Str := Txt.join "\n" (ju w s :: css.map qF)
def G5 : It1 -> Prop
 | .one a => SmI a
 | .rng a b => SmI a /\ SmI b
 | .bits m v => SmI m /\ SmI v
theorem XF {w : Int} (hw : w <= 40) : (2 : Int) ^ w.toNat <= 2 ^ 40 := by
 have h : w.toNat <= 40 := by omega
 exact_mod_cast Nat.pow_le_pow_right (n := 2) (by decide) h
theorem ZD {w : Int} (hw : w <= 40) : 2 ^ w.toNat <= 2 ^ 40 := Nat.pow_le_pow_right (by decide) (by omega)
theorem Zm {w s : Int} (hw : w <= 40) (hs : s = 0 \/ s = 1) : -(2 ^ 40) <= wl w s /\ wl w s <= 0 := by
 have h2 := XF (w := w - 1) (by omega)
 have h3 := two_pow_pos (w - 1).toNat
 unfold wl
 rcases hs with rfl | rfl <;> omega
theorem uq {w s a : Int} (hw : w <= 40) (hs : s = 0 \/ s = 1) (h : lH w s a) : SmI a := by
 have h1 := Zm hw hs
 have h2 := XF hw
 obtain ⟨h3, h4⟩ := h
 have h5 : a.natAbs <= 2 ^ 40 := by omega
 exact Nat.lt_of_le_of_lt h5 (by decide)
theorem aag {w s : Int} {it : It1} (hw : w <= 40) (hs : s = 0 \/ s = 1) (h : it.Ok w s) : G5 it := by
 cases it with
 | one a => exact uq hw hs h
 | rng a b => exact ⟨uq hw hs h.1, uq hw hs h.2.1⟩
 | bits m v =>
  have h2 := ZD hw
  have h3 : (2 : Nat) ^ 40 < 10 ^ 20 := by decide
  exact ⟨show (m : Int).natAbs < _ by have := h.1; omega, show (v : Int).natAbs < _ by have := h.2.1; omega⟩
theorem mL (c : Nat) (hc : c = 32 \/ c = 10 \/ c = 46 \/ c = 38) (i : Int) : c ∉ (tsI i).cps.toList := by
 rcases hc with rfl | rfl | rfl | rfl
 ·exact int_text_free' 32 (by decide) i
 ·exact int_text_free' 10 (by decide) i
 ·exact int_text_free' 46 (by decide) i
 ·exact int_text_free' 38 (by decide) i
theorem Qv (it : It1) : 32 ∉ (itW it).cps.toList /\ 10 ∉ (itW it).cps.toList := by
 have d1 : ∀ c, c ∈ (".." : Str).cps.toList -> c = 46 := by decide +kernel
 have d2 : ∀ c, c ∈ ("&" : Str).cps.toList -> c = 38 := by decide +kernel
 have f : ∀ c, c = 32 \/ c = 10 -> c ∉ (itW it).cps.toList := by
  intro c hc z
  have hc' : c = 32 \/ c = 10 \/ c = 46 \/ c = 38 := by omega
  cases it with
  | one a => exact mL c hc' a z
  | rng a b =>
   rw [itW, kO, kO] at z
   rcases List.mem_append.mp z with z | z
   ·rcases List.mem_append.mp z with z | z
    ·exact mL c hc' a z
    ·have := d1 c z; omega
   ·exact mL c hc' b z
  | bits a b =>
   rw [itW, kO, kO] at z
   rcases List.mem_append.mp z with z | z
   ·rcases List.mem_append.mp z with z | z
    ·exact mL c hc' a z
    ·have := d2 c z; omega
   ·exact mL c hc' b z
 exact ⟨f 32 (.inl rfl), f 10 (.inr rfl)⟩
theorem Ea (its : List It1) : ∀ t ∈ qR its, 32 ∉ t.cps.toList /\ 10 ∉ t.cps.toList := by
 intro t ht
 rcases List.mem_cons.mp ht with rfl | ht
 ·exact ⟨by decide +kernel, by decide +kernel⟩
 ·obtain ⟨i, _, rfl⟩ := List.mem_map.mp ht
  exact Qv i
theorem zG {ts : List Str} (h : ∀ t ∈ ts, 10 ∉ t.cps.toList) : 10 ∉ (Txt.join " " ts).cps.toList := by
 rw [qj]
 show 10 ∉ (Builtin.Str.glued ⟨#[32]⟩ ts).cps.toList
 rw [StrLaws.glued_eq_join, mq]
 intro z
 rcases Qo z with z | ⟨p, hp, z⟩
 ·cases z
 ·obtain ⟨t, ht, rfl⟩ := List.mem_map.mp hp
  exact h t ht z
theorem Gh (w s : Int) : ju w s = Txt.join " " [("choice" : Str), tsI w, tsI s] := by
 refine vR ?_
 have e : (Txt.join " " ["choice", tsI w, tsI s]).cps.toList = jnL 32 [("choice" : Str).cps.toList, (tsI w).cps.toList, (tsI s).cps.toList] := by
  rw [qj]
  show (Builtin.Str.glued ⟨#[32]⟩ _).cps.toList = _
  rw [StrLaws.glued_eq_join, mq]
  rfl
 have c1 : ("choice " : Str).cps.toList = ("choice" : Str).cps.toList ++ [32] := by decide +kernel
 have c2 : (" " : Str).cps.toList = [32] := by decide +kernel
 rw [e]
 unfold ju
 rw [kO, kO, kO, c1, c2]
 show _ = _ ++ 32 :: (_ ++ 32 :: _)
 simp
 rfl
theorem yF (w s : Int) (css : List (List It1)) : Txt.split (vJ w s css) "\n" = ju w s :: css.map qF := by
 unfold vJ
 rw [Pr]
 refine Fb (List.cons_ne_nil _ _) fun t ht => ?_
 rcases List.mem_cons.mp ht with rfl | ht
 ·rw [Gh]
  refine zG fun t ht => ?_
  simp only [List.mem_cons, List.not_mem_nil, or_false] at ht
  rcases ht with rfl | rfl | rfl
  ·decide +kernel
  ·exact mL 10 (by decide) w
  ·exact mL 10 (by decide) s
 ·obtain ⟨its, _, rfl⟩ := List.mem_map.mp ht
  exact zG fun t ht => (Ea its t ht).2
theorem Vv {it : It1} (h : G5 it) : (itW it).length <= 44 := by
 have d1 : (".." : Str).length = 2 := by decide +kernel
 have d2 : ("&" : Str).length = 1 := by decide +kernel
 cases it with
 | one a => exact Nat.le_trans (gZ h) (by decide)
 | rng a b =>
  have h1 := gZ h.1
  have h2 := gZ h.2
  show (tsI a ++ ".." ++ tsI b).length <= 44
  rw [@strLen_append, @strLen_append]
  omega
 | bits a b =>
  have h1 := gZ h.1
  have h2 := gZ h.2
  show (tsI a ++ "&" ++ tsI b).length <= 44
  rw [@strLen_append, @strLen_append]
  omega
theorem xQ {its : List It1} (h : ∀ it ∈ its, G5 it) : ∀ t ∈ qR its, t.length <= 44 := by
 intro t ht
 rcases List.mem_cons.mp ht with rfl | ht
 ·decide +kernel
 ·obtain ⟨i, hi, rfl⟩ := List.mem_map.mp ht
  exact Vv (h i hi)
theorem GQ {its : List It1} (h : ∀ it ∈ its, G5 it) (hl : its.length <= 6) : JoinOk " " (qR its) = true :=
 qd (L := 44) (n := 7) (xQ h) (by simp [qR]; omega) (by decide)
theorem KY {its : List It1} (h : ∀ it ∈ its, G5 it) (hl : its.length <= 6) : (qF its).length <= 315 :=
 join_le (sep := " ") (L := 44) (n := 7) (xQ h) (by simp [qR]; omega)
theorem Km {w s : Int} (hw : SmI w) (hs : SmI s) : (ju w s).length <= 315 := by
 have d1 : ("choice " : Str).length = 7 := by decide +kernel
 have d2 : (" " : Str).length = 1 := by decide +kernel
 have h1 := gZ hw
 have h2 := gZ hs
 unfold ju
 rw [strLen_append, strLen_append, strLen_append]
 omega
def yN (w s : Int) (css : List (List It1)) : Prop := 1 <= w /\ w <= 40 /\ (s = 0 \/ s = 1) /\ (∀ its ∈ css, its.length <= 6 /\ ∀ it ∈ its, it.Ok w s) /\ css.length <= 12
theorem yN.sm {w s : Int} {css : List (List It1)} (h : yN w s css) : SmI w /\ SmI s /\ ∀ its ∈ css, its.length <= 6 /\ ∀ it ∈ its, G5 it := by
 obtain ⟨h1, h2, h3, h4, h5⟩ := h
 refine ⟨?_, ?_, fun its hi => ⟨(h4 its hi).1, fun it hit => aag h2 h3 ((h4 its hi).2 it hit)⟩⟩
 ·show w.natAbs < 10 ^ 20
  have : w.natAbs <= 40 := by omega
  exact Nat.lt_of_le_of_lt this (by decide)
 ·show s.natAbs < 10 ^ 20
  have : s.natAbs <= 40 := by omega
  exact Nat.lt_of_le_of_lt this (by decide)
theorem yN.rows {w s : Int} {css : List (List It1)} (h : yN w s css) : ∀ t ∈ ju w s :: css.map qF, t.length <= 315 := by
 obtain ⟨h1, h2, h3⟩ := h.sm
 intro t ht
 rcases List.mem_cons.mp ht with rfl | ht
 ·exact Km h1 h2
 ·obtain ⟨its, hi, rfl⟩ := List.mem_map.mp ht
  exact KY (h3 its hi).2 (h3 its hi).1
theorem yN.fits {w s : Int} {css : List (List It1)} (h : yN w s css) : JoinOk "\n" (ju w s :: css.map qF) = true :=
 qd (L := 315) (n := 13) h.rows (by have := h.2.2.2.2; simp; omega) (by decide)
theorem yN.len {w s : Int} {css : List (List It1)} (h : yN w s css) : (vJ w s css).length <= 4108 :=
 join_le (sep := "\n") (L := 315) (n := 13) h.rows (by have := h.2.2.2.2; simp; omega)
def Wy : Sp := fun vs H Q _ => ∃ (t : Addr) (it : It1), vs = [.ref t] /\ qX H t it /\ G5 it /\ ∀ H', Same H H' -> Q (.str (itW it)) H'
def Wz : Sp := fun vs H Q _ => ∃ (x : V) (w s : Int) (ok : Addr -> Prop) (css : List (List It1)), vs = [x] /\ yN w s css /\ aX ok H x (BL w s css) /\ ∀ H', Same H H' -> Q (.str (vJ w s css)) H'
def trS (x : V) (H : Hp) (Q : Bool -> Hp -> Prop) : Prop := match x with
 | .str y => y.length <= sizeLine /\ Q ((y.length : Int) != 0) H
 | _ => False
def Wu (te : TE) : TT := fun σ H Q => te σ H fun x H1 => trS x H1 Q
theorem Lq (te : TE) (σ : St) (H : Hp) (Q : Bool -> Hp -> Prop) : Wu te σ H Q = te σ H fun x H1 => trS x H1 Q := rfl
theorem R6 (y : Str) (H : Hp) (Q : Bool -> Hp -> Prop) : trS (.str y) H Q = (y.length <= sizeLine /\ Q ((y.length : Int) != 0) H) := rfl
theorem HY {X : Cx} {a : Expr} {ta : TE} (h : QE X a ta) (he : ∀ whole, isTrue a X.env whole = (do let v <- whole; standAt a.pos; holding [v] (truthy v)) := by intro _; rfl) : QT X a (Wu ta) := by
 refine ⟨fun pins s σ H Q I hw => ?_⟩
 refine isTrue_plain (thE (h.h pins s σ H _ I hw) fun v s1 x H1 I1 r1 q1 => ?_) (he _)
 cases x with
 | str y => exact W7 pins s1 σ H1 _ v Q I1 r1 ⟨_, ⟨q1.1, rfl⟩, q1.2⟩
 | _ => exact q1.elim
def rdG := And.intro @rdF (And.intro @Lq @R6)
def IV : V -> Bool
 | .non => true
 | _ => false
def wU : Value -> Bool
 | .none => true
 | _ => false
theorem DG : ∀ {x : V} {u : Value}, RelV x u -> wU u = IV x
 | .non, _, r => by cases r; rfl
 | .bl _, _, r => by cases r; rfl
 | .int _, _, ⟨_, r⟩ => by cases r; rfl
 | .str _, _, ⟨_, r⟩ => by cases r; rfl
 | .byt _, _, ⟨_, r⟩ => by cases r; rfl
 | .flt _, _, ⟨_, r⟩ => by cases r; rfl
 | .ref _, _, r => by cases r; rfl
 | .ty _, _, r => by cases r; rfl
theorem zY : ∀ {xs : List V} {us : List Value}, Vals xs us -> us.any wU = xs.any IV
 | _, _, .nil => rfl
 | _ :: _, _ :: _, .cons r t => by rw [List.any_cons, List.any_cons, DG r, zY t]
def RX (H : Hp) (v : V) : Prop := v = .non \/ ∃ (q : Addr) (ys : List V), v = .ref q /\ H q = some (.tup ys)
def aaA : R2 := fun x y H Q => ∃ (p : Addr) (xs : List V), x = .non /\ y = .ref p /\ H p = some (.lst xs) /\ (∀ v ∈ xs, RX H v) /\ Q (.bl (xs.any IV)) H
theorem Yt {X : Cx} (hu : X.A.in1.units < cLine) : OpR X (compareOp .In) aaA := by
 intro pins s σ H x y v u Q I rx ry h
 obtain ⟨p, xs, rfl, rfl, e, hx, q⟩ := h
 cases ry
 cases rx
 obtain ⟨its, r, pl, hz⟩ := I.list (SqL.of e)
 refine SeqAt.in_listAt wU pl.isList (fun w hw => ?_) ⟨.bl _, H, I, rfl, ?_⟩
 ·obtain ⟨j, hj, ej⟩ := List.mem_iff_getElem.mp (show w ∈ its by simpa using hw)
  have hl := r.length
  have hxj : xs[j]? = some xs[j] := List.getElem?_eq_getElem (by omega)
  obtain ⟨u', hu', ru⟩ := r.get hxj
  rw [List.getElem?_eq_getElem hj, ej] at hu'
  cases hu'
  rw [DG ru]
  rcases hx _ (List.getElem_mem (show j < xs.length by omega)) with z | ⟨q0, ys, z, e2⟩
  ·rw [z] at ru |-
   cases ru
   exact SeqAt.EqAt.same _
  ·rw [z] at ru |-
   cases ru
   obtain ⟨its2, r2, pl2, hz2⟩ := I.tuple (SqT.of e2)
   exact SeqAt.EqAt.tuple_none pl2 hu
 ·rw [show its.toArray.any wU = its.any wU by simp, zY r]
  exact q
def jt (t y : Str) : Option (Str × Str) := match occurrences t y 0 t.length 1 with
 | i :: _ => some (strSub t 0 i, strSub t (i + y.length) t.length)
 | [] => none
theorem CT {t y a b : Str} (h : jt t y = some (a, b)) : rH t y = [a, y, b] := by
 unfold jt at h
 unfold rH
 cases e : occurrences t y 0 t.length 1 with
 | nil => rw [e] at h; cases h
 | cons i r => rw [e] at h; cases h; rfl
theorem CV {t y : Str} (h : jt t y = none) : rH t y = [t, Str.empty, Str.empty] := by
 unfold jt at h
 unfold rH
 cases e : occurrences t y 0 t.length 1 with
 | nil => rfl
 | cons i r => rw [e] at h; cases h
theorem sub_len (t : Str) (i j : Nat) : (strSub t i j).length <= t.length := by
 show (strSub t i j).cps.size <= t.cps.size
 rw [<- Array.length_toList, qH, <- Array.length_toList, List.length_drop, List.length_take]
 omega
theorem vI {t y a b : Str} (h : jt t y = some (a, b)) : a.length <= t.length /\ b.length <= t.length := by
 unfold jt at h
 split at h
 ·cases h
  exact ⟨sub_len _ _ _, sub_len _ _ _⟩
 ·cases h
theorem find_some {t y a b : Str} (h : jt t y = some (a, b)) : ∃ i : Nat, xK t y = (i : Int) /\ Txt.slice t none (some (i : Int)) = a /\ Txt.slice t (some ((i : Int) + (y.length : Int))) none = b := by
 unfold jt at h
 unfold xK
 cases e : occurrences t y 0 t.length 1 with
 | nil => rw [e] at h; cases h
 | cons i r =>
  rw [e] at h
  cases h
  have hb := (StrLaws.occ_spec t y 0 t.length 1 i (by rw [e]; exact List.mem_cons_self)).1
  refine ⟨i, rfl, ?_, ?_⟩
  ·refine (beq_iff_eq.mp (slice_closes_toL (x := t) (j := (i : Int)) (by omega) (by omega))).trans (vR ?_)
   rw [qH]
   simp
  ·refine (beq_iff_eq.mp (slice_closes_fromL (x := t) (i := (i : Int) + (y.length : Int)) (by omega) (by omega) rfl)).trans (vR ?_)
   rw [qH]
   have t1 : (i + y.length : Int).toNat = i + y.length := by omega
   have e2 : ((t.length : Int) - ((i : Int) + (y.length : Int))).toNat = t.length - (i + y.length) := by omega
   show ((t.cps.toList.drop ((i : Int) + (y.length : Int)).toNat).take ((t.length : Int) - ((i : Int) + (y.length : Int))).toNat).toArray.toList = _
   rw [t1, e2, List.toList_toArray, List.drop_take]
theorem find_none {t y : Str} (h : jt t y = none) : xK t y = -1 := by
 unfold jt at h
 unfold xK
 cases e : occurrences t y 0 t.length 1 with
 | nil => rfl
 | cons i r => rw [e] at h; cases h
def iT (t : Str) : PyData := if aY t = true then .int (cU t) else .none
theorem gU {ok : Addr -> Prop} {H : Hp} (t : Str) : aX ok H (eN t) (iT t) := by
 unfold eN iT
 split
 ·exact .int _
 ·exact .non
def u0 (t : Str) : Str × List Str := match jt t ".." with
 | some (a, b) => ("from", [a, b])
 | none => match jt t "&" with
  | some (a, b) => ("bits", [a, b])
  | none => ("is", [t])
def dX (t : Str) : PyData := .tuple (.str (u0 t).1 :: (u0 t).2.map iT)
def iK (t : Str) : Bool := (u0 t).2.all aY
theorem Bo {t a b : Str} (h : jt t ".." = some (a, b)) : u0 t = (("from" : Str), [a, b]) := by unfold u0; rw [h]
theorem Gj {t a b : Str} (h0 : jt t ".." = none) (h : jt t "&" = some (a, b)) : u0 t = (("bits" : Str), [a, b]) := by unfold u0; rw [h0, h]
theorem Gi {t : Str} (h0 : jt t ".." = none) (h : jt t "&" = none) : u0 t = (("is" : Str), [t]) := by unfold u0; rw [h0, h]
theorem wR (t : Str) : (∃ (w : Str) (a b : Str), (w = "from" \/ w = "bits") /\ u0 t = (w, [a, b])) \/ u0 t = (("is" : Str), [t]) := by
 cases h : jt t ".." with
 | some p => exact .inl ⟨_, p.1, p.2, .inl rfl, Bo h⟩
 | none =>
  cases h2 : jt t "&" with
  | some p => exact .inl ⟨_, p.1, p.2, .inr rfl, Gj h h2⟩
  | none => exact .inr (Gi h h2)
theorem Qt {w s : Int} {t : Str} (h : iK t = false) : bK w s (dX t) = false := by
 unfold iK at h
 unfold dX
 rcases wR t with ⟨w0, a, b, _, e⟩ | e
 ·rw [e] at h |-
  simp only [List.all_cons, List.all_nil, Bool.and_true] at h
  show bK w s (.tuple [.str w0, iT a, iT b]) = false
  unfold iT
  cases ha : aY a with
  | false => rfl
  | true =>
   rw [ha, Bool.true_and] at h
   rw [h]
   rfl
 ·rw [e] at h |-
  simp only [List.all_cons, List.all_nil, Bool.and_true] at h
  show bK w s (.tuple [.str "is", iT t]) = false
  unfold iT
  rw [h]
  rfl
def j4 (r : Str) : Option (Int × Int) := match Txt.split r " " with
 | [w0, a, b] => if w0 = "choice" /\ aY a = true /\ aY b = true /\ jC (.int (cU a)) (.int (cU b)) = true then some (cU a, cU b) else none
 | _ => none
def jh (w s : Int) (r : Str) : Bool := match Txt.split r " " with
 | w0 :: ts => decide (w0 = "case") && (ts.map dX).all (bK w s)
 | [] => false
def jb (r : Str) : PyData := .list (((Txt.split r " ").drop 1).map dX)
def cX (w s : Int) : Nat -> List Str -> Option Nat
 | _, [] => none
 | i, r :: rs => if jh w s r = true then cX w s (i + 1) rs else some i
def lN (x : Str) : Nat ⊕ PyData := match rowsOf x with
 | [] => .inl 0
 | r0 :: rs => match j4 r0 with
  | none => .inl 0
  | some (w, s) => match cX w s 1 rs with
   | some j => .inl j
   | none => .inr (.tuple [.int w, .int s, .list (rs.map jb)])
def qY (x : Str) : PyData := match lN x with
 | .inl j => .tuple [.str "text", .int (j : Int)]
 | .inr d => d
theorem Dw {r : Str} {w s : Int} (h : j4 r = some (w, s)) : 1 <= w /\ w <= 40 /\ (s = 0 \/ s = 1) := by
 unfold j4 at h
 split at h
 ·split at h
  ·rename_i c
   obtain ⟨_, _, _, c⟩ := c
   cases h
   replace c : ((decide (1 <= cU _) && decide (cU _ <= 40)) && (decide (0 <= cU _) && decide (cU _ <= 1))) = true := c
   simp only [Bool.and_eq_true, decide_eq_true_eq] at c
   omega
  ·cases h
 ·cases h
theorem zX {w s : Int} {rs : List Str} {i : Nat} {r : Str} (h : rs[i]? = some r) (hi : cX w s 1 rs = cX w s (i + 1) (rs.drop i)) : (jh w s r = true -> cX w s 1 rs = cX w s (i + 1 + 1) (rs.drop (i + 1))) /\ (jh w s r = false -> cX w s 1 rs = some (i + 1)) := by
 have hl := (List.getElem?_eq_some_iff.mp h).1
 have e : rs.drop i = r :: rs.drop (i + 1) := by
  rw [List.drop_eq_getElem_cons hl]
  rw [List.getElem?_eq_getElem hl] at h
  rw [Option.some.inj h]
 rw [e] at hi
 have e2 : cX w s (i + 1) (r :: rs.drop (i + 1)) = if jh w s r = true then cX w s (i + 1 + 1) (rs.drop (i + 1)) else some (i + 1) := rfl
 rw [e2] at hi
 exact ⟨fun z => by rw [hi, if_pos z], fun z => by rw [hi, if_neg (by rw [z]; decide)]⟩
theorem v7 {x r0 : Str} {rs : List Str} (h : rowsOf x = r0 :: rs) (hk : j4 r0 = none) : lN x = .inl 0 := by
 unfold lN
 rw [h]
 simp only [hk]
theorem za {x r0 : Str} {rs : List Str} {w s : Int} {j : Nat} (h : rowsOf x = r0 :: rs) (hk : j4 r0 = some (w, s)) (hb : cX w s 1 rs = some j) : lN x = .inl j := by
 unfold lN
 rw [h]
 simp only [hk, hb]
theorem v5 {x r0 : Str} {rs : List Str} {w s : Int} (h : rowsOf x = r0 :: rs) (hk : j4 r0 = some (w, s)) (hb : cX w s 1 rs = none) : lN x = .inr (.tuple [.int w, .int s, .list (rs.map jb)]) := by
 unfold lN
 rw [h]
 simp only [hk, hb]
def Mw : Sp := fun vs H Q _ => ∃ (x : Str) (ok : Addr -> Prop), vs = [.str x] /\ x.length <= sizeLine /\ uW ok H /\ ∀ v H', Same H H' -> aX ok H' v (dX x) -> Q v H'
def Mu : Sp := fun vs H Q _ => ∃ (x : Str), vs = [.str x] /\ x.length <= 900000 /\ (j4 x = none -> ∀ H', Same H H' -> Q .non H') /\ (∀ w s, j4 x = some (w, s) -> ∀ (p : Addr) H', Same H H' -> H' p = some (.tup [.int w, .int s]) -> Q (.ref p) H')
def Mx : Sp := fun vs H Q _ => ∃ (w s : Int) (x : Str) (ok : Addr -> Prop), vs = [.int w, .int s, .str x] /\ 1 <= w /\ w <= 40 /\ (s = 0 \/ s = 1) /\ x.length <= 900000 /\ uW ok H /\ (jh w s x = false -> ∀ H', Same H H' -> Q .non H') /\
 (jh w s x = true -> ∀ (p : Addr) H', Same H H' -> aX ok H' (.ref p) (jb x) -> Q (.ref p) H')
def Mz (C : Addr) : Sp := fun vs H Q E => ∃ (x : Str), vs = [.str x] /\ x.length <= 900000 /\
 (∀ d, lN x = .inr d -> ∀ v H', Same H H' -> aX (fun _ => True) H' v d -> Q v H') /\
 (∀ j : Nat, lN x = .inl j -> ∀ dx H', Same H H' -> H' dx = some (.xd [("row", .int (j : Int))]) -> E (.ref C) (some dx) H')
def Hl : Sp := fun vs H Q _ => ∃ (x : Str), vs = [.str x] /\ x.length <= 900000 /\ ∀ v H', Same H H' -> aX (fun _ => True) H' v (qY x) -> Q v H'
def Hj : Sp := fun vs H Q _ => ∃ (x : Str) (ok : Addr -> Prop), vs = [.str x] /\ x.length <= sizeLine /\ uW ok H /\ (iK x = false -> ∀ H', Same H H' -> Q .non H') /\ (iK x = true -> ∀ (p : Addr) (ys : List V) H', Same H H' -> H' p = some (.tup ys) -> aX ok H' (.ref p) (dX x) -> Q (.ref p) H')
def Hr : Sp := fun vs H Q _ => ∃ (x : Str), vs = [.str x] /\ x.length <= 900000 /\
 (∀ d, lN x = .inr d -> ∀ (p : Addr) (v : V) H', Same H H' -> H' p = some (.tup [v, .non]) -> aX (fun _ => True) H' v d -> Q (.ref p) H') /\
 (∀ j : Nat, lN x = .inl j -> ∀ (p : Addr) H', Same H H' -> H' p = some (.tup [.non, .int (j : Int)]) -> Q (.ref p) H')
theorem Qx (t : Str) : (dX t).depth <= 1 := by
 have hn : ∀ z : Str, (iT z).depth = 0 := fun z => by unfold iT; split <;> rfl
 unfold dX
 rcases wR t with ⟨w0, a, b, _, e⟩ | e
 ·rw [e]
  show max 0 (max (iT a).depth (max (iT b).depth 0)) + 1 <= 1
  rw [hn, hn]
  decide
 ·rw [e]
  show max 0 (max (iT t).depth 0) + 1 <= 1
  rw [hn]
  decide
theorem yQ (x : Str) : (qY x).depth < 5 := by
 have hc : ∀ r, (jb r).depth <= 2 := fun r => by
  have : PyData.depthAll (((Txt.split r " ").drop 1).map dX) <= 1 := pD fun d hd => by
   obtain ⟨t, _, rfl⟩ := List.mem_map.mp hd
   exact Qx t
  show PyData.depthAll (((Txt.split r " ").drop 1).map dX) + 1 <= 2
  omega
 have bad : ∀ j : Nat, (PyData.tuple [.str "text", .int (j : Int)]).depth < 5 := fun j => by
  show max 0 (max 0 0) + 1 < 5
  decide
 unfold qY
 cases hr : lN x with
 | inl j => exact bad j
 | inr d =>
  show d.depth < 5
  unfold lN at hr
  split at hr
  ·cases hr
  ·rename_i r0 rs h0
   split at hr
   ·cases hr
   ·split at hr
    ·cases hr
    ·cases hr
     have : PyData.depthAll (rs.map jb) <= 2 := pD fun d hd => by
      obtain ⟨t, _, rfl⟩ := List.mem_map.mp hd
      exact hc t
     show max 0 (max 0 (max (PyData.depthAll (rs.map jb) + 1) 0)) + 1 < 5
     omega
def WIt (ok : Addr -> Prop) (H : Hp) (v : V) (t : Str) : Prop := (iK t = false /\ v = .non) \/ (iK t = true /\ ∃ (q : Addr) (ys : List V), v = .ref q /\ H q = some (.tup ys) /\ aX ok H (.ref q) (dX t))
inductive nM (ok : Addr -> Prop) (H : Hp) : List V -> List Str -> Prop
 | nil : nM ok H [] []
 | cons {v : V} {t : Str} {vs : List V} {ts : List Str} : WIt ok H v t -> nM ok H vs ts -> nM ok H (v :: vs) (t :: ts)
theorem WIt.same {ok : Addr -> Prop} {H H' : Hp} {v : V} {t : Str} (h : WIt ok H v t) (s : Same H H') : WIt ok H' v t := by
 rcases h with ⟨a, b⟩ | ⟨a, q, ys, b, c, d⟩
 ·exact .inl ⟨a, b⟩
 ·exact .inr ⟨a, q, ys, b, s _ _ c, d.same s⟩
theorem nM.same {ok : Addr -> Prop} {H H' : Hp} {vs : List V} {ts : List Str} (h : nM ok H vs ts) (s : Same H H') : nM ok H' vs ts := by
 induction h with
 | nil => exact .nil
 | cons a _ ih => exact .cons (a.same s) ih
theorem nM.snoc {ok : Addr -> Prop} {H : Hp} {vs : List V} {ts : List Str} {v : V} {t : Str} (h : nM ok H vs ts) (a : WIt ok H v t) : nM ok H (vs ++ [v]) (ts ++ [t]) := by
 induction h with
 | nil => exact .cons a .nil
 | cons b _ ih => exact .cons b ih
theorem nM.length {ok : Addr -> Prop} {H : Hp} {vs : List V} {ts : List Str} (h : nM ok H vs ts) : vs.length = ts.length := by
 induction h with
 | nil => rfl
 | cons _ _ ih => exact congrArg (· + 1) ih
theorem nM.flat {ok : Addr -> Prop} {H : Hp} {vs : List V} {ts : List Str} (h : nM ok H vs ts) : ∀ v ∈ vs, RX H v := by
 induction h with
 | nil => intro v hv; cases hv
 | cons a _ ih =>
  intro v hv
  rcases List.mem_cons.1 hv with rfl | hv
  ·rcases a with ⟨_, b⟩ | ⟨_, q, ys, b, c, _⟩
   ·exact .inl b
   ·exact .inr ⟨q, ys, b, c⟩
  ·exact ih v hv
theorem nM.any {ok : Addr -> Prop} {H : Hp} {vs : List V} {ts : List Str} (h : nM ok H vs ts) : vs.any IV = !ts.all iK := by
 induction h with
 | nil => rfl
 | cons a _ ih =>
  rw [List.any_cons, List.all_cons, ih]
  rcases a with ⟨a, rfl⟩ | ⟨a, q, ys, rfl, _⟩
  ·rw [a]; rfl
  ·rw [a]
   show (false || _) = _
   rw [Bool.false_or, Bool.true_and]
theorem nM.trees {ok : Addr -> Prop} {H : Hp} {vs : List V} {ts : List Str} (h : nM ok H vs ts) (hok : ts.all iK = true) : aM ok H vs (ts.map dX) := by
 induction h with
 | nil => exact .nil
 | cons a _ ih =>
  rw [List.all_cons, Bool.and_eq_true] at hok
  rcases a with ⟨a, rfl⟩ | ⟨a, q, ys, rfl, _, d⟩
  ·rw [a] at hok; exact absurd hok.1 (by decide)
  ·exact .cons d (ih hok.2)
theorem Kr {w s : Int} {ts : List Str} (h : ts.all iK = false) : (ts.map dX).all (bK w s) = false := by
 cases e : (ts.map dX).all (bK w s) with
 | false => rfl
 | true =>
  have : ts.all iK = true := List.all_eq_true.mpr fun t ht => by
   cases e2 : iK t with
   | true => rfl
   | false =>
    have := List.all_eq_true.mp e (dX t) (List.mem_map_of_mem ht)
    rw [Qt e2] at this
    cases this
  rw [this] at h
  cases h
theorem sG {x w0 : Str} {ts : List Str} (hsp : Txt.split x " " = w0 :: ts) (hno : ∀ a b, ts = [a, b] -> ¬ (w0 = "choice" /\ aY a = true /\ aY b = true /\ jC (.int (cU a)) (.int (cU b)) = true)) : j4 x = none := by
 unfold j4
 rw [hsp]
 match ts, hno with
 | [], _ => rfl
 | [a], _ => rfl
 | [a, b], hno => exact if_neg (hno a b rfl)
 | a :: b :: c :: r, _ => rfl
theorem Ko {x a b : Str} (hsp : Txt.split x " " = [("choice" : Str), a, b]) (ha : aY a = true) (hb : aY b = true) (hk : jC (.int (cU a)) (.int (cU b)) = true) : j4 x = some (cU a, cU b) := by
 unfold j4
 rw [hsp]
 exact if_pos ⟨rfl, ha, hb, hk⟩
theorem Qu {ok : Addr -> Prop} {H : Hp} {v : V} {t : Str} (h : iK t = true) (tr : aX ok H v (dX t)) : ∃ (p : Addr) (w0 : Str) (is : List Int), v = .ref p /\ H p = some (.tup (V.str w0 :: is.map V.int)) /\ dX t = .tuple (.str w0 :: is.map PyData.int) /\ ((w0 = "is" /\ is.length = 1) \/ ((w0 = "from" \/ w0 = "bits") /\ is.length = 2)) := by
 unfold iK at h
 have hz : ∀ z : Str, aY z = true -> iT z = .int (cU z) := fun z hz => by unfold iT; rw [if_pos hz]
 have e : ∃ (w0 : Str) (is : List Int), dX t = .tuple (.str w0 :: is.map PyData.int) /\ ((w0 = "is" /\ is.length = 1) \/ ((w0 = "from" \/ w0 = "bits") /\ is.length = 2)) := by
  unfold dX
  rcases wR t with ⟨w0, a, b, hw, e⟩ | e
  ·rw [e] at h |-
   simp only [List.all_cons, List.all_nil, Bool.and_true, Bool.and_eq_true] at h
   refine ⟨w0, [cU a, cU b], ?_, .inr ⟨hw, rfl⟩⟩
   show PyData.tuple [.str w0, iT a, iT b] = _
   rw [hz a h.1, hz b h.2]
   rfl
  ·rw [e] at h |-
   simp only [List.all_cons, List.all_nil, Bool.and_true] at h
   refine ⟨"is", [cU t], ?_, .inl ⟨rfl, rfl⟩⟩
   show PyData.tuple [.str "is", iT t] = _
   rw [hz t h]
   rfl
 obtain ⟨w0, is, e, hw⟩ := e
 rw [e] at tr
 cases tr with
 | tup o ep z ts =>
  cases ts with
  | cons t1 t2 =>
   cases t1
   rw [t2.ints] at ep
   exact ⟨_, w0, is, rfl, ep, e, hw⟩
def Hx : Sp := fun vs H Q _ => ∃ (w s : Int) (v : V) (ok : Addr -> Prop) (t : Str), vs = [.int w, .int s, v] /\ 1 <= w /\ w <= 40 /\ (s = 0 \/ s = 1) /\ iK t = true /\ aX ok H v (dX t) /\ ∀ H', Same H H' -> Q (.bl (bK w s (dX t))) H'
theorem Ku {w s : Int} {is : List Int} (h : is.length = 1) : bK w s (.tuple (.str "is" :: is.map PyData.int)) = is.all (inB w s) := by
 match is, h with
 | [a], _ =>
  show (decide (("is" : Str) = "is") && inB w s a) = (inB w s a && true)
  rw [decide_eq_true rfl, Bool.true_and, Bool.and_true]
theorem DN {w s : Int} {is : List Int} (h : is.length = 2) : bK w s (.tuple (.str "bits" :: is.map PyData.int)) = is.all (upB w) := by
 match is, h with
 | [a, b], _ =>
  show ((decide (("bits" : Str) = "from") && (inB w s a && inB w s b && decide (a <= b))) || (decide (("bits" : Str) = "bits") && (upB w a && upB w b))) = (upB w a && (upB w b && true))
  rw [decide_eq_false (by decide +kernel), Bool.false_and, Bool.false_or, decide_eq_true rfl, Bool.true_and, Bool.and_true]
theorem DK {w s a b : Int} : bK w s (.tuple [.str "from", .int a, .int b]) = ([a, b].all (inB w s) && decide (a <= b)) := by
 show ((decide (("from" : Str) = "from") && (inB w s a && inB w s b && decide (a <= b))) || (decide (("from" : Str) = "bits") && (upB w a && upB w b))) = ((inB w s a && (inB w s b && true)) && decide (a <= b))
 rw [decide_eq_false (show ¬ ("from" : Str) = "bits" by decide +kernel), Bool.false_and, Bool.or_false, decide_eq_true rfl, Bool.true_and, Bool.and_true]
def onI (g : Int -> Bool) : PyData -> Bool
 | .int a => g a
 | _ => false
theorem Ih (g : Int -> Bool) (is : List Int) : ((is.map PyData.int).map (onI g)).all id = is.all g := by
 rw [List.map_map, List.all_map]
 rfl
def Nt : R2 := fun x y H Q => match x, y with
 | .str z, .int n => MulOk z n /\ Q (.str (Txt.mul z n)) H
 | _, _ => False
theorem Nr (z : Str) (n : Int) (H : Hp) (Q : VK) : Nt (.str z) (.int n) H Q = (MulOk z n /\ Q (.str (Txt.mul z n)) H) := rfl
theorem vA {X : Cx} : OpR X (binaryOp .Mult) Nt := by
 intro pins s σ H x y v u Q I rx ry h
 unfold Nt at h
 split at h
 ·rename_i z n
  obtain ⟨hok, q⟩ := h
  obtain ⟨t, rfl⟩ := rx
  obtain ⟨t', rfl⟩ := ry
  exact SB.mul hok fun t2 k => ⟨.str _, H, I.tok _, ⟨_, rfl⟩, q⟩
 ·exact h.elim
def Ho : Sp := fun vs H Q _ => ∃ x : Str, vs = [.str x] /\ x.length <= 900000 /\ ∀ H', Same H H' -> Q (.bl true) H'
def Ci : Sp := fun vs H Q _ => ∃ w s : Int, vs = [.int w, .int s] /\ 1 <= w /\ w <= 40 /\ (s = 0 \/ s = 1) /\ ∀ (p : Addr) (ws : List Str) H', H p = none -> Same H H' -> H' p = some (.lst (ws.map V.str)) -> ws.length <= 200 -> (∀ t ∈ ws, t.length <= 200) -> Q (.ref p) H'
section
variable {mp : List (Option Nat)} {g : TG} {te : TE} {σ : St} {H : Hp} {Q : VK} {R : It -> Hp -> Prop} {K : PySem.W.Frag} {a : Addr}
theorem uK (is : List Int) (f : Int -> Str) (okT : St -> Prop) (hR : R = xX mp g Ew te σ Q) (e : H a = some (.lst (is.map V.int))) (hz : is.length <= 1000) (h0 : okT (jM mp σ))
  (hs : ∀ n τ (Qn : V -> St -> Hp -> Prop), n ∈ is -> okT τ -> (∀ τ1, okT τ1 -> Qn (.str (f n)) τ1 H) -> g (.int n) τ H fun τ1 H4 => te τ1 H4 fun v H6 => Qn v τ1 H6)
  (hd : ∀ (d : Addr) H', H d = none -> Same H H' -> H' d = some (.lst ((is.map f).map V.str)) -> Q (.ref d) H') : R (Itl K a) H := by
 refine qQ hR (xs := is.map V.int) (aP (by rw [List.length_map]; omega)) (fun i acc τ H' => H' = H /\ okT τ /\ acc = ((is.take i).map f).map V.str) ⟨rfl, h0, rfl⟩ (fun i acc τ H1 ⟨_, _, z⟩ => ?_) (fun i acc τ H1 ⟨z, _, _⟩ => ?_) (fun i x acc τ H1 hx ⟨z, k, ea⟩ => ?_) (fun acc τ H1 d ⟨z, k, ea⟩ hn => ?_)
 ·rw [z, List.length_map, List.length_map]
  exact List.length_take_le _ _
 ·rw [z]
  exact SqL.of e
 ·subst z
  rw [List.getElem?_map] at hx
  obtain ⟨n, hn, rfl⟩ := Option.map_eq_some_iff.mp hx
  refine hs n τ (fun v τ1 H6 => H6 = H1 /\ okT τ1 /\ acc ++ [v] = ((is.take (i + 1)).map f).map V.str) (List.mem_of_getElem? hn) k fun τ1 h => ⟨rfl, h, ?_⟩
  rw [take_snoc hn, List.map_append, List.map_append, ea]
  rfl
 ·subst z
  rw [ea, List.length_map, List.take_length]
  exact hd d _ hn (aA hn) aB
end
theorem Sh {w s : Int} (h1 : 1 <= w) (h2 : w <= 40) (hs : s = 0 \/ s = 1) : (∀ n ∈ [wl w s, wl w s + 2 ^ w.toNat - 1, wl w s - 1, wl w s + 2 ^ w.toNat - 1 + 1, 0, -1], SmI n) /\ SmI (2 ^ w.toNat - 1) /\ SmI (2 ^ w.toNat) := by
 have b := pL h1 h2 hs
 have p := XF h2
 have p0 := two_pow_pos w.toNat
 have small : ∀ n : Int, n.natAbs <= 2 ^ 41 -> SmI n := fun n h => Nat.lt_of_le_of_lt h (by decide)
 refine ⟨fun n hn => small n ?_, small _ (by omega), small _ (by omega)⟩
 simp only [List.mem_cons, List.not_mem_nil, or_false] at hn
 rcases hn with rfl | rfl | rfl | rfl | rfl | rfl <;> omega
end L2
local macro_rules | `(tactic| push_cast) => `(tactic| simp only [L2.rd0, L2.rd1, L2.rd2, L2.rd3, L2.rd4, L2.rd5, L2.rd6, L2.rd7, L2.rd8, L2.rd9, reduceIte, reduceCtorEq, Nat.reduceAdd, Nat.reduceSub])
local macro_rules | `(tactic| push_cast [$ls,*]) => `(tactic| simp only [L2.rd0, L2.rd1, L2.rd2, L2.rd3, L2.rd4, L2.rd5, L2.rd6, L2.rd7, L2.rd8, L2.rd9, reduceIte, reduceCtorEq, Nat.reduceAdd, Nat.reduceSub, $ls,*])
namespace K46
open PySem L2 PyProof.Rows
def top (i : Nat) : Stmt := PySem.Challenge.pw_caseways_k46_texts_that_are_no_choices.main.body.getD i (.Pass ⟨0, 0, 0, 0⟩)
abbrev BLs : List Str := ["ValueError", "abs", "all", "any", "bool", "enumerate", "int", "isinstance", "len", "list", "max", "min", "range", "str", "tuple", "zip"]
theorem yp : ("ValueError" : Str) ∈ BLs := by decide +kernel
theorem Qe : ("abs" : Str) ∈ BLs := by decide +kernel
theorem oR : ("all" : Str) ∈ BLs := by decide +kernel
theorem YH : ("any" : Str) ∈ BLs := by decide +kernel
theorem su : ("bool" : Str) ∈ BLs := by decide +kernel
theorem rZ : ("enumerate" : Str) ∈ BLs := by decide +kernel
theorem oO : ("int" : Str) ∈ BLs := by decide +kernel
theorem aN : ("isinstance" : Str) ∈ BLs := by decide +kernel
theorem eX : ("len" : Str) ∈ BLs := by decide +kernel
theorem vD : ("list" : Str) ∈ BLs := by decide +kernel
theorem YG : ("max" : Str) ∈ BLs := by decide +kernel
theorem Gg : ("min" : Str) ∈ BLs := by decide +kernel
theorem rY : ("range" : Str) ∈ BLs := by decide +kernel
theorem iZ : ("str" : Str) ∈ BLs := by decide +kernel
theorem oN : ("tuple" : Str) ∈ BLs := by decide +kernel
theorem YF : ("zip" : Str) ∈ BLs := by decide +kernel
abbrev GI_ (s : Stmt) (x : Str) : Prop := (aj s).names.lookup x = some .globalImplicit
abbrev NM_ (N : List Str) (s : Stmt) (i : Nat) (x : Str) : Prop := Nm N (aj s) i x
abbrev fM : Stmt := top 25
theorem JH : bF ["_law_script", "_law_k"] ["_law_script", "_law_k"] (aj fM) := ⟨rfl, rfl, rfl, by decide +kernel, rfl, by decide +kernel, by decide +kernel⟩
abbrev N0_ : List Str := ["_law_script", "_law_k"]
theorem wO : NM_ N0_ fM 0 "_law_script" := .of (by decide +kernel)
theorem wN : NM_ N0_ fM 1 "_law_k" := .of (by decide +kernel)
theorem BJ : GI_ fM "len" := by decide +kernel
theorem Le : Bn "_law_cell_at" := ⟨by decide +kernel, by decide +kernel⟩
abbrev iw : Stmt := top 26
theorem HN : bF ["_law_script", "_law_k", "_law_cell"] ["_law_script", "_law_k"] (aj iw) := ⟨rfl, rfl, rfl, by decide +kernel, rfl, by decide +kernel, by decide +kernel⟩
abbrev N1_ : List Str := ["_law_script", "_law_k", "_law_cell"]
theorem Py : NM_ N1_ iw 0 "_law_script" := .of (by decide +kernel)
theorem wz : NM_ N1_ iw 1 "_law_k" := .of (by decide +kernel)
theorem rM : NM_ N1_ iw 2 "_law_cell" := .of (by decide +kernel)
theorem xj : GI_ iw "_law_cell_at" := by decide +kernel
theorem xg : GI_ iw "abs" := by decide +kernel
theorem Gs : GI_ iw "int" := by decide +kernel
theorem Wh : Bn "_law_tape" := ⟨by decide +kernel, by decide +kernel⟩
abbrev iy : Stmt := top 27
theorem rz : bF ["_law_tape_here", "_law_many", "_law_found", "_law_prime", "_law_once"] ["_law_tape_here", "_law_many"] (aj iy) := ⟨rfl, rfl, rfl, by decide +kernel, rfl, by decide +kernel, by decide +kernel⟩
abbrev N2_ : List Str := ["_law_tape_here", "_law_many", "_law_found", "_law_prime", "_law_once"]
theorem dN : NM_ N2_ iy 0 "_law_tape_here" := .of (by decide +kernel)
theorem n8 : NM_ N2_ iy 1 "_law_many" := .of (by decide +kernel)
theorem n6 : NM_ N2_ iy 2 "_law_found" := .of (by decide +kernel)
theorem Df : NM_ N2_ iy 3 "_law_prime" := .of (by decide +kernel)
theorem wA : NM_ N2_ iy 4 "_law_once" := .of (by decide +kernel)
theorem Bt : GI_ iy "_law_take" := by decide +kernel
theorem cR : Bn "_law_take" := ⟨by decide +kernel, by decide +kernel⟩
section
variable {P : Program} {w : World} {K : PySem.W.Frag} {mg : Str -> Option Value} {base : Heap} {f : Addr} {fd : FuncData} {bs : List Str}
theorem Vg (hB : ∀ x : Str, x ∈ BLs -> mg x = none) (F : Fun K "_law_cell_at" "_law_cell_at" fM f fd) : dh P w K mg base CX0 1 f fd ["_law_script", "_law_k"] (MF K) := by
 refine F.okq JH (fun vs H Q E h => ?_) (fun cdv A outer s H vs Q E hr h => ?_)
 ·obtain ⟨a, ns, k, rfl, _⟩ := h
  rfl
 ·obtain ⟨a, ns, k, rfl, hS, h0, q⟩ := h
  refine ⟨_, (aF (aL (iR (aW qt (aq wN) (bI jG BJ (hB "len" eX) PySem.boot_len fj (ak (aq wO) ao)) (aU _)) (bR Iw (aq wO) (aq wN) (fun _ _ => rfl)) au))), ?_⟩
  push_cast
  refine ⟨_, .inl hS, ?_⟩
  split
  ·rename_i c
   rw [List.length_map] at c
   have hk : k.toNat < ns.length := by omega
   have ek : k = ((k.toNat : Nat) : Int) := by omega
   have z : atI (ns.map V.int) ((k.toNat : Nat) : Int) = some (.int ns[k.toNat]) := cT (by rw [List.getElem?_map, List.getElem?_eq_getElem hk]; rfl)
   rw [<- ek] at z
   unfold Zw
   exact ⟨a, _, k, _, rfl, rfl, hS, z, q _⟩
  ·exact q _
theorem Va (hB : ∀ x : Str, x ∈ BLs -> mg x = none) (CZCellAt : Cal P w K mg base "_law_cell_at" 1 ["_law_script", "_law_k"] (MF K)) (F : Fun K "_law_tape" "_law_tape" iw f fd) : dh P w K mg base CX0 2 f fd ["_law_script", "_law_k"] (Mr K) := by
 refine F.okq HN (fun vs H Q E h => ?_) (fun cdv A outer s H vs Q E hr h => ?_)
 ·obtain ⟨a, ns, k, rfl, _⟩ := h
  rfl
 ·obtain ⟨a, ns, k, rfl, hS, h0, h1, q⟩ := h
  refine ⟨_, (aD (bL rM HN.nd (bf CZCellAt (hr.mono (by decide)) xj Le (ak (aq Py) (ak (aq wz) ao))))
   (aF (aL (gP (ak (aH jf (bI Ec xg (hB "abs" Qe) PyProof.Rows.Boot.«abs» RG (ak (aq rM) ao)) (jQ qT Gs (hB "int" oO) boot_int pH (ak (fD WK (bI Ec xg (hB "abs" Qe) PyProof.Rows.Boot.«abs» RG (ak (aq rM) ao)) (aH O3 au au) (aU _)) ao))) (ak (aH jT (aH jf (aH cN (aH cN (aH jT (aq rM) au) (aH jf (aH jf au (aq wz)) (aq wz))) au) au) au) (ak au ao))))))), ?_⟩
  push_cast
  refine ⟨a, ns, k, rfl, hS, h0, fun v => ?_⟩
  push_cast
  refine ⟨⟨by decide, by decide, by decide⟩, ?_, by decide, .inl (by decide), .inr (by omega), .inr (by decide), by decide, aP (by decide), fun p hp => q p _ hp (aA hp) ⟨_, _, _, aB, ?_, ?_, ?_, Int.le_refl _, Int.le_refl _⟩⟩
  ·right
   generalize (if v < 0 then -v else v) = u
   split <;> decide
  ·refine Int.mul_nonneg ?_ ?_
   ·split <;> omega
   ·generalize (if v < 0 then -v else v) = u
    split <;> decide
  ·exact Int.emod_nonneg _ (by decide)
  ·exact Int.emod_lt_of_pos _ (by decide)
theorem Ii {n : Nat} (hB : ∀ x : Str, x ∈ BLs -> mg x = none) (hn : n <= 10) (CZTake : Cal P w K mg base "_law_take" n ["_law_tape_here", "_law_many"] (gq n)) (F : Fun K "_law_take" "_law_take" iy f fd) : dh P w K mg base CX0 (n + 1) f fd ["_law_tape_here", "_law_many"] (gq (n + 1)) := by
 refine F.okq rz (fun vs H Q E h => ?_) (fun cdv A outer s H vs Q E hr h => ?_)
 ·obtain ⟨p, m, B, rfl, _⟩ := h
  rfl
 ·obtain ⟨p, m, B, rfl, ⟨a, b, c, hp, ha, hb0, hb1, hc0, hc1⟩, hB0, hm0, hm1, hn1, hn2, q⟩ := h
  refine ⟨_, (aD (cg (aW Ig (bR eO (aq dN) au (fun _ _ => rfl)) au (aU _)) (aD (bL n6 rz.nd (aH jT (bR eO (aq dN) au (fun _ _ => rfl)) (aq n8)))
   (aD (gO (aH CW (bR eO (aq dN) au (fun _ _ => rfl)) (aq n8)) (Bb (aq dN) au HJ))
   (aF (aL (aq n6))))) bJ)
   (aD (gO (aH cN (bR eO (aq dN) au (fun _ _ => rfl)) au) (Bb (aq dN) au HJ))
   (aD (bL Df rz.nd (bR eO (gP (ak au (ak au (ak au (ak au (ak au (ak au (ak au ao)))))))) (aH jT (bR eO (aq dN) au (fun _ _ => rfl)) au) (fun _ _ => rfl)))
   (aD (bL wA rz.nd (aH jT (aH jf (aH cN (bR eO (aq dN) au (fun _ _ => rfl)) (aH jf au (bR eO (aq dN) au (fun _ _ => rfl)))) (aH cN au (bR eO (aq dN) au (fun _ _ => rfl)))) (aq Df)))
   (aD (gO (aH jT (aH cN (aH jf (aq wA) (aH cN (aH jT (aq wA) au) au)) (bR eO (aq dN) au (fun _ _ => rfl))) au) (Bb (aq dN) au HJ))
   (aD (bL n6 rz.nd (aH CW (aH jT (aH jf (bR eO (aq dN) au (fun _ _ => rfl)) (aH cN (aH jT (bR eO (aq dN) au (fun _ _ => rfl)) au) au)) au) au))
   (aF (aL (iR (aW qt (aq n8) (aH O3 au au) (aU _)) (aH jT (aq n6) (aq n8)) (aH jT (aH cN (aH jf (aq n6) au) (bf CZTake (hr.mono (by omega)) Bt cR (ak (aq dN) (ak au ao)))) (aq n8))))))))))), ?_⟩
  push_cast [hp]
  split
  ·refine ⟨hm0, ⟨hm0, hm1⟩, ?_⟩
   refine q _ _ (Int.emod_nonneg _ (by omega)) (Int.emod_lt_of_pos _ hm0) cj.upd ⟨_, _, _, aB, Int.ediv_nonneg ha (by omega), hb0, hb1, hc0, by omega⟩
  ·refine ⟨aP (by decide), fun p1 hp1 => ?_⟩
   have np : p ≠ p1 := fun z => by rw [<- z, aB] at hp1; cases hp1
   push_cast [hp, aJ np, ne_eq, np, not_false_eq_true]
   obtain ⟨v, hv, v0⟩ := X6 (c + 1)
   have m1 : ∀ x : Int, 0 <= x % 40009 /\ x % 40009 < 40009 := fun x => ⟨Int.emod_nonneg _ (by decide), Int.emod_lt_of_pos _ (by decide)⟩
   have m2 : ∀ x : Int, 0 <= x % 1009 /\ x % 1009 < 1009 := fun x => ⟨Int.emod_nonneg _ (by decide), Int.emod_lt_of_pos _ (by decide)⟩
   have m3 : ∀ x : Int, 0 <= x % 2147483629 /\ x % 2147483629 < 2147483629 := fun x => ⟨Int.emod_nonneg _ (by decide), Int.emod_lt_of_pos _ (by decide)⟩
   refine ⟨by decide, _, hv, .inl (by decide), .inr (by omega), v, rfl, v0, by decide, .inr ?_, by decide, by decide, .inr ?_, by decide, by decide, by decide, ?_⟩
   ·have := m1 ((b + 39373 * (c + 1)) * (48271 + (c + 1)) % v)
    omega
   ·have := m2 (((b + 39373 * (c + 1)) * (48271 + (c + 1)) % v * ((b + 39373 * (c + 1)) * (48271 + (c + 1)) % v % 40009 + 7) + (c + 1)) % 2147483629)
    omega
   ·have e3 := m3 ((b + 39373 * (c + 1)) * (48271 + (c + 1)) % v * ((b + 39373 * (c + 1)) * (48271 + (c + 1)) % v % 40009 + 7) + (c + 1))
    generalize ((b + 39373 * (c + 1)) * (48271 + (c + 1)) % v * ((b + 39373 * (c + 1)) * (48271 + (c + 1)) % v % 40009 + 7) + (c + 1)) % 2147483629 = y at e3 |-
    have sx : cj p H (upd (upd (upd H p (HO.lst [V.int a, V.int b, V.int (c + 1)])) p1 (HO.lst [V.int 2147483587, V.int 2147483579, V.int 2147483563, V.int 2147483549, V.int 2147483543, V.int 2147483497, V.int 2147483489])) p (HO.lst [V.int a, V.int y, V.int (c + 1)])) :=
     (cj.upd.trans (aA hp1).x).trans cj.upd
    have tp : bN (upd (upd (upd H p (HO.lst [V.int a, V.int b, V.int (c + 1)])) p1 (HO.lst [V.int 2147483587, V.int 2147483579, V.int 2147483563, V.int 2147483549, V.int 2147483543, V.int 2147483497, V.int 2147483489])) p (HO.lst [V.int a, V.int y, V.int (c + 1)])) p (B + 1) :=
     ⟨a, y, c + 1, aB, ha, e3.1, e3.2, by omega, by omega⟩
    generalize upd (upd (upd H p (HO.lst [V.int a, V.int b, V.int (c + 1)])) p1 (HO.lst [V.int 2147483587, V.int 2147483579, V.int 2147483563, V.int 2147483549, V.int 2147483543, V.int 2147483497, V.int 2147483489])) p (HO.lst [V.int a, V.int y, V.int (c + 1)]) = H2 at sx tp |-
    split
    ·refine ⟨hm0, q _ _ (Int.emod_nonneg _ (by omega)) (Int.emod_lt_of_pos _ hm0) sx ?_⟩
     obtain ⟨a', b', c', z1, z2, z3, z4, z5, z6⟩ := tp
     exact ⟨a', b', c', z1, z2, z3, z4, z5, by omega⟩
    ·rename_i hm
     have hm' : 1000000 <= m := by
      rw [show (10 : Int) ^ Int.toNat 6 = 1000000 from by decide] at hm
      omega
     have hn3 := hn2 hm'
     refine ⟨.inr (by decide), p, 99991, B + 1, rfl, tp, by omega, by decide, by decide, by omega, fun z => absurd z (by decide), fun r H3 r0 r1 s3 t3 => ?_⟩
     push_cast
     refine ⟨hm0, q _ _ (Int.emod_nonneg _ (by omega)) (Int.emod_lt_of_pos _ hm0) (sx.trans s3) ?_⟩
     obtain ⟨a', b', c', z1, z2, z3, z4, z5, z6⟩ := t3
     exact ⟨a', b', c', z1, z2, z3, z4, z5, by omega⟩
theorem Jy : dh P w K mg base CX0 0 f fd ["_law_tape_here", "_law_many"] (gq 0) := by
 have no : ∀ vs H Q E, ¬ gq 0 vs H Q E := fun vs H Q E h => by
  obtain ⟨p, m, B, _, _, _, _, _, h1, _⟩ := h
  omega
 exact ⟨fun vs H Q E h => absurd h (no vs H Q E), fun A outer s H args us vs Q E _ _ _ _ h => absurd h (no vs H Q E)⟩
abbrev d9 : Stmt := top 34
theorem SN : bF ["_law_found", "_law_due"] ["_law_found", "_law_due"] (aj d9) := ⟨rfl, rfl, rfl, by decide +kernel, rfl, by decide +kernel, by decide +kernel⟩
abbrev N3_ : List Str := ["_law_found", "_law_due"]
theorem gh : NM_ N3_ d9 0 "_law_found" := .of (by decide +kernel)
theorem fB : NM_ N3_ d9 1 "_law_due" := .of (by decide +kernel)
theorem Gw : GI_ d9 "all" := by decide +kernel
theorem oX : GI_ d9 "bool" := by decide +kernel
theorem Gv : GI_ d9 "int" := by decide +kernel
theorem bH : GI_ d9 "isinstance" := by decide +kernel
theorem xq : GI_ d9 "len" := by decide +kernel
theorem oW : GI_ d9 "list" := by decide +kernel
theorem qO : GI_ d9 "str" := by decide +kernel
theorem ni : GI_ d9 "tuple" := by decide +kernel
theorem Gu : GI_ d9 "zip" := by decide +kernel
theorem Jr : Bn "_law_same" := ⟨by decide +kernel, by decide +kernel⟩
theorem Vb {n : Nat} (hB : ∀ x : Str, x ∈ BLs -> mg x = none) (CZSame : Cal P w K mg base "_law_same" n ["_law_found", "_law_due"] (pN n)) (F : Fun K "_law_same" "_law_same" d9 f fd) : dh P w K mg base CX0 (n + 1) f fd ["_law_found", "_law_due"] (pN (n + 1)) := by
 refine F.okq SN (fun vs H Q E h => ?_) (fun cdv A outer s H vs Q E hr h => ?_)
 ·obtain ⟨x, y, ok, d, rfl, _⟩ := h
  rfl
 ·obtain ⟨x, y, ok, d, rfl, tx, ty, hd, q⟩ := h
  refine ⟨_, (aD (cg (cW (bI K5 bH (hB "isinstance" aN) boot_isinstance aO (ak (aq fB) (ak (bY (ak (gD "list" oW (hB "list" vD) boot_list vK) (ak (gD "tuple" ni (hB "tuple" oN) boot_tuple pG) ao))) ao)))) (aD (cg (lO (fP (aW (iW hr.bM) (bI cA bH (hB "isinstance" aN) boot_isinstance aO (ak (aq gh) (ak (gD "list" oW (hB "list" vD) boot_list vK) ao))) (bI cA bH (hB "isinstance" aN) boot_isinstance aO (ak (aq fB) (ak (gD "list" oW (hB "list" vD) boot_list vK) ao))) (aU _)) (fO (aW (iW hr.bM) (bI cA bH (hB "isinstance" aN) boot_isinstance aO (ak (aq gh) (ak (gD "tuple" ni (hB "tuple" oN) boot_tuple pG) ao))) (bI cA bH (hB "isinstance" aN) boot_isinstance aO (ak (aq fB) (ak (gD "tuple" ni (hB "tuple" oN) boot_tuple pG) ao))) (aU _))))) (aF (aL nF)) bJ)
   (aD (cg (aW (iW hr.bM) (bI dO xq (hB "len" eX) PySem.boot_len fj (ak (aq gh) ao)) (bI dO xq (hB "len" eX) PySem.boot_len fj (ak (aq fB) ao)) (aU _)) (aF (aL nF)) bJ)
   (aF (aL (bI (gY rfl) Gw (hB "all" oR) PyProof.Rows.Boot.«all» pI (ak (fK (NX := ["_law_found", "_law_due"]) (kX := (aj d9).names) ["_law_one", "_law_other"] [none, none] rfl rfl ⟨rfl, by decide +kernel, by decide +kernel, by decide +kernel, by decide +kernel⟩ rfl (T3 Gu (hB "zip" YF) (ak (aq gh) (ak (aq fB) ao))) (fun _ _ _ _ _ => (jo (n := 2) rfl (bh (dM 0 (show List.Nodup (["_law_one", "_law_other"] : List Str) from by decide +kernel) rfl (Or.inl rfl)) (bh (dM 1 (show List.Nodup (["_law_one", "_law_other"] : List Str) from by decide +kernel) rfl (Or.inl rfl)) eU)))) (fun _ _ _ _ _ => fG) (fun _ _ _ _ _ => (bf CZSame (hr.mono (by omega)) rfl Jr (ak (iQ 0) (ak (iQ 1) ao))))) ao)))))) bJ)
   (aD (cg (lO (fP (aW lg (aq fB) cH (aU _)) (fO (cW (bI cA bH (hB "isinstance" aN) boot_isinstance aO (ak (aq fB) (ak (gD "str" qO (hB "str" iZ) boot_str jc) ao))))))) (aF (aL (iB (fD (cM hr.bM) (aq gh) (aq fB) (aU _)) (jq (fD (cM hr.bM) (bI cA bH (hB "isinstance" aN) boot_isinstance aO (ak (aq gh) (ak (gD "str" qO (hB "str" iZ) boot_str jc) ao))) (bI cA bH (hB "isinstance" aN) boot_isinstance aO (ak (aq fB) (ak (gD "str" qO (hB "str" iZ) boot_str jc) ao))) (aU _)))))) bJ)
   (aD (cg (cW (bI cA bH (hB "isinstance" aN) boot_isinstance aO (ak (aq fB) (ak (gD "bool" oX (hB "bool" su) boot_bool sY) ao)))) (aF (aL (iB (bI cA bH (hB "isinstance" aN) boot_isinstance aO (ak (aq gh) (ak (gD "bool" oX (hB "bool" su) boot_bool sY) ao))) (jq (fD (cM hr.bM) (aq gh) (aq fB) (aU _)))))) bJ)
   (aF (aL (iB (bI cA bH (hB "isinstance" aN) boot_isinstance aO (ak (aq gh) (ak (gD "int" Gv (hB "int" oO) boot_int pH) ao))) (iB (Fv (bI cA bH (hB "isinstance" aN) boot_isinstance aO (ak (aq gh) (ak (gD "bool" oX (hB "bool" su) boot_bool sY) ao)))) (jq (fD (cM hr.bM) (aq gh) (aq fB) (aU _)))))))))), ?_⟩
  cases tx with
  | non => cases ty; push_cast; exact ⟨aP (by decide), fun t ht => q _ (aA ht)⟩
  | bl b => cases ty; push_cast; exact ⟨aP (by decide), fun t ht => q _ (aA ht)⟩
  | int i => cases ty; push_cast; exact ⟨aP (by decide), fun t ht => q _ (aA ht)⟩
  | str x => cases ty; push_cast; exact ⟨aP (by decide), fun t ht => q _ (aA ht)⟩
  | lst o1 e1 z1 ts1 =>
   rename_i p1 xs1 ds
   cases ty with
   | lst o2 e2 z2 ts2 =>
    rename_i p2 xs2
    have l1 := ts1.length
    have l2 := ts2.length
    push_cast [e1, e2]
    refine ⟨aP (by decide), fun t ht => ?_⟩
    have s1 := aA (o := HO.tup [V.ty "list", V.ty "tuple"]) ht
    have e1 := s1 _ _ e1
    have e2 := s1 _ _ e2
    generalize upd H t (HO.tup [V.ty "list", V.ty "tuple"]) = H1 at s1 e1 e2 |-
    push_cast [e1, e2]
    rw [decide_eq_true (show (xs1.length : Int) = (xs2.length : Int) by omega), Bool.not_true, if_neg (by decide)]
    refine eH fun R hR => ?_
    push_cast [e1, e2]
    obtain ⟨Pc, hPc⟩ : ∃ Pv : Nat -> List V -> L2.St -> Hp -> Prop, Pv = fun (i : Nat) acc τ H' => ∃ (o0 o1 : Option V), Same H1 H' /\ acc = (List.replicate i true).map V.bl /\ τ = [o0, o1] := ⟨_, rfl⟩
    refine Wc hR (xs := xs1) (ys := xs2) (aP z1) (by omega) Pc (by rw [hPc]; exact ⟨_, _, Same.refl _, rfl, rfl⟩) ?_ ?_ ?_ ?_
    ·intro i acc τ H2 pc
     rw [hPc] at pc
     obtain ⟨_, _, _, rfl, _⟩ := pc
     simp
    ·intro i acc τ H2 pc
     rw [hPc] at pc
     obtain ⟨_, _, s2, _, _⟩ := pc
     exact ⟨s2 _ _ e1, s2 _ _ e2⟩
    ·intro i x y acc τ H2 r hx hy pc hr2
     rw [hPc] at pc
     obtain ⟨o0, o1, s2, rfl, rfl⟩ := pc
     obtain ⟨dx, hdx, tx⟩ := ts1.get hx
     obtain ⟨dy, hdy, ty⟩ := ts2.get hy
     rw [hdx] at hdy
     cases hdy
     have s3 := aA (o := HO.tup [x, y]) hr2
     have s13 := (s1.trans s2).trans s3
     push_cast
     refine ⟨x, y, ok, dx, rfl, tx.same s13, ty.same s13, by have := (zK (List.mem_of_getElem? hdx)).1; omega, fun H4 s4 => ?_⟩
     rw [hPc]
     refine ⟨_, _, (s2.trans s3).trans s4, ?_, rfl⟩
     rw [List.replicate_succ', List.map_append]
     rfl
    ·intro acc τ H2 d2 pc hd2
     rw [hPc] at pc
     obtain ⟨o0, o1, s2, rfl, rfl⟩ := pc
     have s3 := s1.trans (s2.trans (aA (o := HO.lst ((List.replicate xs1.length true).map V.bl)) hd2))
     have e3 : upd H2 d2 (HO.lst ((List.replicate xs1.length true).map V.bl)) d2 = _ := aB
     generalize upd H2 d2 (HO.lst ((List.replicate xs1.length true).map V.bl)) = H3 at s3 e3 |-
     push_cast [e3]
     refine ⟨_, rfl, ?_⟩
     rw [show (List.replicate xs1.length true).all id = true by simp]
     exact q _ s3
  | tup o1 e1 z1 ts1 =>
   rename_i p1 xs1 ds
   cases ty with
   | tup o2 e2 z2 ts2 =>
    rename_i p2 xs2
    have l1 := ts1.length
    have l2 := ts2.length
    push_cast [e1, e2]
    refine ⟨aP (by decide), fun t ht => ?_⟩
    have s1 := aA (o := HO.tup [V.ty "list", V.ty "tuple"]) ht
    have e1 := s1 _ _ e1
    have e2 := s1 _ _ e2
    generalize upd H t (HO.tup [V.ty "list", V.ty "tuple"]) = H1 at s1 e1 e2 |-
    push_cast [e1, e2]
    rw [decide_eq_true (show (xs1.length : Int) = (xs2.length : Int) by omega), Bool.not_true, if_neg (by decide)]
    refine eH fun R hR => ?_
    push_cast [e1, e2]
    obtain ⟨Pc, hPc⟩ : ∃ Pv : Nat -> List V -> L2.St -> Hp -> Prop, Pv = fun (i : Nat) acc τ H' => ∃ (o0 o1 : Option V), Same H1 H' /\ acc = (List.replicate i true).map V.bl /\ τ = [o0, o1] := ⟨_, rfl⟩
    refine Wb hR (xs := xs1) (ys := xs2) (aP z1) (by omega) Pc (by rw [hPc]; exact ⟨_, _, Same.refl _, rfl, rfl⟩) ?_ ?_ ?_ ?_
    ·intro i acc τ H2 pc
     rw [hPc] at pc
     obtain ⟨_, _, _, rfl, _⟩ := pc
     simp
    ·intro i acc τ H2 pc
     rw [hPc] at pc
     obtain ⟨_, _, s2, _, _⟩ := pc
     exact ⟨s2 _ _ e1, s2 _ _ e2⟩
    ·intro i x y acc τ H2 r hx hy pc hr2
     rw [hPc] at pc
     obtain ⟨o0, o1, s2, rfl, rfl⟩ := pc
     obtain ⟨dx, hdx, tx⟩ := ts1.get hx
     obtain ⟨dy, hdy, ty⟩ := ts2.get hy
     rw [hdx] at hdy
     cases hdy
     have s3 := aA (o := HO.tup [x, y]) hr2
     have s13 := (s1.trans s2).trans s3
     push_cast
     refine ⟨x, y, ok, dx, rfl, tx.same s13, ty.same s13, by have := (zK (List.mem_of_getElem? hdx)).2; omega, fun H4 s4 => ?_⟩
     rw [hPc]
     refine ⟨_, _, (s2.trans s3).trans s4, ?_, rfl⟩
     rw [List.replicate_succ', List.map_append]
     rfl
    ·intro acc τ H2 d2 pc hd2
     rw [hPc] at pc
     obtain ⟨o0, o1, s2, rfl, rfl⟩ := pc
     have s3 := s1.trans (s2.trans (aA (o := HO.lst ((List.replicate xs1.length true).map V.bl)) hd2))
     have e3 : upd H2 d2 (HO.lst ((List.replicate xs1.length true).map V.bl)) d2 = _ := aB
     generalize upd H2 d2 (HO.lst ((List.replicate xs1.length true).map V.bl)) = H3 at s3 e3 |-
     push_cast [e3]
     refine ⟨_, rfl, ?_⟩
     rw [show (List.replicate xs1.length true).all id = true by simp]
     exact q _ s3
theorem same_none : dh P w K mg base CX0 0 f fd ["_law_found", "_law_due"] (pN 0) := by
 have no : ∀ vs H Q E, ¬ pN 0 vs H Q E := fun vs H Q E h => by
  obtain ⟨x, y, ok, d, _, _, _, h1, _⟩ := h
  omega
 exact ⟨fun vs H Q E h => absurd h (no vs H Q E), fun A outer s H args us vs Q E _ _ _ _ h => absurd h (no vs H Q E)⟩
abbrev jn : Stmt := top 28
theorem Aj : bF ["_law_tape_here", "_law_great", "_law_width"] ["_law_tape_here"] (aj jn) := ⟨rfl, rfl, rfl, by decide +kernel, rfl, by decide +kernel, by decide +kernel⟩
abbrev N4_ : List Str := ["_law_tape_here", "_law_great", "_law_width"]
theorem rP : NM_ N4_ jn 0 "_law_tape_here" := .of (by decide +kernel)
theorem Dl : NM_ N4_ jn 1 "_law_great" := .of (by decide +kernel)
theorem Dk : NM_ N4_ jn 2 "_law_width" := .of (by decide +kernel)
theorem jD : GI_ jn "_law_take" := by decide +kernel
theorem Wk : Bn "_law_kind" := ⟨by decide +kernel, by decide +kernel⟩
abbrev jd : Stmt := top 29
theorem M5 : bF ["_law_width", "_law_sign"] ["_law_width", "_law_sign"] (aj jd) := ⟨rfl, rfl, rfl, by decide +kernel, rfl, by decide +kernel, by decide +kernel⟩
abbrev N5_ : List Str := ["_law_width", "_law_sign"]
theorem Kd : NM_ N5_ jd 0 "_law_width" := .of (by decide +kernel)
theorem Kc : NM_ N5_ jd 1 "_law_sign" := .of (by decide +kernel)
theorem sZ : Bn "_law_least" := ⟨by decide +kernel, by decide +kernel⟩
abbrev cI : Stmt := top 30
theorem tQ : bF ["_law_tape_here", "_law_width", "_law_sign", "_law_other", "_law_least_here", "_law_many", "_law_way", "_law_far"] ["_law_tape_here", "_law_width", "_law_sign", "_law_other"] (aj cI) := ⟨rfl, rfl, rfl, by decide +kernel, rfl, by decide +kernel, by decide +kernel⟩
abbrev N6_ : List Str := ["_law_tape_here", "_law_width", "_law_sign", "_law_other", "_law_least_here", "_law_many", "_law_way", "_law_far"]
theorem qK : NM_ N6_ cI 0 "_law_tape_here" := .of (by decide +kernel)
theorem wH : NM_ N6_ cI 1 "_law_width" := .of (by decide +kernel)
theorem FP : NM_ N6_ cI 2 "_law_sign" := .of (by decide +kernel)
theorem wG : NM_ N6_ cI 3 "_law_other" := .of (by decide +kernel)
theorem jW : NM_ N6_ cI 4 "_law_least_here" := .of (by decide +kernel)
theorem mY : NM_ N6_ cI 5 "_law_many" := .of (by decide +kernel)
theorem qJ : NM_ N6_ cI 6 "_law_way" := .of (by decide +kernel)
theorem mX : NM_ N6_ cI 7 "_law_far" := .of (by decide +kernel)
theorem u6 : GI_ cI "_law_least" := by decide +kernel
theorem j7 : GI_ cI "_law_take" := by decide +kernel
theorem Bu : GI_ cI "min" := by decide +kernel
theorem zR : Bn "_law_number" := ⟨by decide +kernel, by decide +kernel⟩
theorem Ve (hB : ∀ x : Str, x ∈ BLs -> mg x = none) (CZTake : Cal P w K mg base "_law_take" 2 ["_law_tape_here", "_law_many"] (gq 2)) (F : Fun K "_law_kind" "_law_kind" jn f fd) : dh P w K mg base CX0 3 f fd ["_law_tape_here"] Mt := by
 refine F.okq Aj (fun vs H Q E h => ?_) (fun cdv A outer s H vs Q E hr h => ?_)
 ·obtain ⟨p, B, rfl, _⟩ := h
  rfl
 ·obtain ⟨p, B, rfl, tp, hB0, hB1, q⟩ := h
  refine ⟨_, (aD (bL Dl Aj.nd (fD (cM hr.bM) (bf CZTake (hr.mono (by decide)) jD cR (ak (aq rP) (ak au ao))) au (aU _)))
   (aD (bL Dk Aj.nd (iR (cW (aq Dl)) (aH cN au (bf CZTake (hr.mono (by decide)) jD cR (ak (aq rP) (ak au ao)))) (aH cN au (bf CZTake (hr.mono (by decide)) jD cR (ak (aq rP) (ak au ao))))))
   (aF (aL (bY (ak (aq Dk) (ak (bf CZTake (hr.mono (by decide)) jD cR (ak (aq rP) (ak au ao))) ao))))))), ?_⟩
  have fin : ∀ (gr : Bool) (w : Int) (H1 : Hp), 1 <= w -> w <= 40 -> cj p H H1 -> bN H1 p (B + 4) ->
    Jz (R8 (jL (mO 2) (jL (nQ (gq 2) [] E0 (jL (mO 0) (jL (tC (V.int 2)) xZ))) xZ))) { nx := fun x H' => Q V.non H', rt := Q } [some (.ref p), some (.bl gr), some (.int w)] H1 := by
   intro gr w H1 h1 h2 s1 t1
   push_cast
   refine ⟨p, 2, B + 4, rfl, t1, by show B + 4 + 2 <= 1000100; omega, by decide, by decide, by decide, fun z => absurd z (by decide), fun r H2 r0 r1 s2 t2 => ?_⟩
   push_cast
   refine ⟨aP (by decide), fun t ht => q w r t _ h1 h2 (by omega) ((s1.trans s2).trans (aA ht).x) ((t2.same (aA ht)).le (by show B + 4 + 2 <= B + 10; omega)) aB⟩
  refine aK fun k hk => ?_
  push_cast
  refine ⟨p, 8, B, rfl, tp, by show B + 2 <= 1000100; omega, by decide, by decide, by decide, fun z => absurd z (by decide), fun r1 H1 r10 r11 s1 t1 => ?_⟩
  push_cast
  subst hk
  refine aK fun k hk => ?_
  push_cast
  have u1 : bN H1 p (B + 2) := t1
  split
  ·refine ⟨p, 33, B + 2, rfl, u1, by show B + 2 + 2 <= 1000100; omega, by decide, by decide, by decide, fun z => absurd z (by decide), fun r2 H2 r20 r21 s2 t2 => ?_⟩
   push_cast
   subst hk
   exact fin _ _ _ (by omega) (by omega) (s1.trans s2) (t2.le (by show B + 2 + 2 <= B + 4; omega))
  ·refine ⟨p, 7, B + 2, rfl, u1, by show B + 2 + 2 <= 1000100; omega, by decide, by decide, by decide, fun z => absurd z (by decide), fun r2 H2 r20 r21 s2 t2 => ?_⟩
   push_cast
   subst hk
   exact fin _ _ _ (by omega) (by omega) (s1.trans s2) (t2.le (by show B + 2 + 2 <= B + 4; omega))
theorem O9 (F : Fun K "_law_least" "_law_least" jd f fd) : dh P w K mg base CX0 1 f fd ["_law_width", "_law_sign"] nW := by
 refine F.okq M5 (fun vs H Q E h => ?_) (fun cdv A outer s H vs Q E hr h => ?_)
 ·obtain ⟨w, s, rfl, _⟩ := h
  rfl
 ·obtain ⟨w, s, rfl, h1, h2, hs, q⟩ := h
  refine ⟨_, (aF (aL (aH fU au (aH jf (aH iC au (aH fU (aq Kd) au)) (aq Kc))))), ?_⟩
  unfold wl at q
  push_cast
  refine ⟨⟨by omega, by omega, by decide⟩, .inr (by omega), ?_⟩
  rw [Int.one_mul]
  exact q
theorem Yx (hB : ∀ x : Str, x ∈ BLs -> mg x = none) (CZTake : Cal P w K mg base "_law_take" 2 ["_law_tape_here", "_law_many"] (gq 2)) (CZLeast : Cal P w K mg base "_law_least" 1 ["_law_width", "_law_sign"] nW) (F : Fun K "_law_number" "_law_number" cI f fd) : dh P w K mg base CX0 3 f fd ["_law_tape_here", "_law_width", "_law_sign", "_law_other"] Wx := by
 refine F.okq tQ (fun vs H Q E h => ?_) (fun cdv A outer s H vs Q E hr h => ?_)
 ·obtain ⟨p, w, s, o, B, rfl, _⟩ := h
  rfl
 ·obtain ⟨p, w, s, o, B, rfl, tp, hB0, hB1, hw1, hw2, hs, q⟩ := h
  refine ⟨_, (aD (Az (i := 4) (j := 5) rfl tQ.nd rfl rfl (by decide) rfl rfl (ak (bf CZLeast (hr.mono (by decide)) u6 sZ (ak (aq wH) (ak (aq FP) ao))) (ak (aH iC au (aq wH)) ao)) (by rfl))
   (aD (Az (i := 6) (j := 7) rfl tQ.nd rfl rfl (by decide) rfl rfl (ak (bf CZTake (hr.mono (by decide)) j7 cR (ak (aq qK) (ak au ao))) (ak (bf CZTake (hr.mono (by decide)) j7 cR (ak (aq qK) (ak (bI (uL rfl) Bu (hB "min" Gg) boot_min GR (ak (aq mY) (ak au ao))) ao))) ao)) (by rfl))
   (aD (cg (aW (cM hr.bM) (aq qJ) au (aU _)) (aF (aL (aH cN (aq jW) (aq mX)))) bJ)
   (aD (cg (aW (cM hr.bM) (aq qJ) au (aU _)) (aF (aL (aH fU (aH fU (aH cN (aq jW) (aq mY)) au) (aq mX)))) bJ)
   (aD (cg (lO (Ft (aW (cM hr.bM) (aq qJ) au (aU _)) (Ay (rF fV qt (aq jW) (aH cN (aq wG) (aq mX)) (aH cN (aq jW) (aq mY)))))) (aF (aL (aH cN (aq wG) (aq mX)))) bJ)
   (aF (aL (aH cN (aq jW) (bf CZTake (hr.mono (by decide)) j7 cR (ak (aq qK) (ak (aq mY) ao))))))))))), ?_⟩
  have p1 := two_pow_pos w.toNat
  have p2 := lQ (k := w.toNat) (by omega)
  have p3 : (2 : Int) <= 2 ^ w.toNat := by
   have e := ur hw1
   have := two_pow_pos (w - 1).toNat
   omega
  have b1 := pL hw1 hw2 hs
  refine aK fun k hk => ?_
  push_cast
  refine ⟨w, s, rfl, hw1, hw2, hs, ?_⟩
  push_cast
  refine ⟨⟨by omega, by omega, by decide⟩, ?_⟩
  subst hk
  rw [Int.one_mul]
  refine aK fun k hk => ?_
  push_cast
  refine ⟨p, 5, B, rfl, tp, by show B + 2 <= 1000100; omega, by decide, by decide, by decide, fun z => absurd z (by decide), fun r1 H1 r10 r11 s1 t1 => ?_⟩
  push_cast
  have m6 : (0 : Int) < (if (6 : Int) < (2 : Int) ^ w.toNat then (6 : Int) else (2 : Int) ^ w.toNat) /\ (if (6 : Int) < (2 : Int) ^ w.toNat then (6 : Int) else (2 : Int) ^ w.toNat) <= (2 : Int) ^ w.toNat := by
   split <;> omega
  refine ⟨p, (if (6 : Int) < (2 : Int) ^ w.toNat then (6 : Int) else (2 : Int) ^ w.toNat), B + 2, rfl, t1, by show B + 2 + 2 <= 1000100; omega, m6.1, by omega, by decide, fun _ => by decide, fun r2 H2 r20 r21 s2 t2 => ?_⟩
  push_cast
  subst hk
  have s12 := s1.trans s2
  have t12 : bN H2 p (B + 10) := t2.le (by show B + 2 + 2 <= B + 10; omega)
  have fin : Jz (tOp zb (mO 4) (nQ (gq 2) [] E0 (jL (mO 0) (jL (mO 5) xZ)))) { nx := fun x H' => Q V.non H', rt := Q } [some (.ref p), some (.int w), some (.int s), some (.int o), some (.int (wl w s)), some (.int (2 ^ w.toNat)), some (.int r1), some (.int r2)] H2 := by
   push_cast
   refine ⟨p, 2 ^ w.toNat, B + 2 + 2, rfl, t2, by show B + 2 + 2 + 2 <= 1000100; omega, p1, by omega, by decide, fun _ => by decide, fun r3 H3 r30 r31 s3 t3 => ?_⟩
   push_cast
   exact q _ _ (by omega) (by omega) (s12.trans s3) (t3.le (by show B + 2 + 2 + 2 <= B + 10; omega))
  refine aK fun k hk => ?_
  push_cast
  split
  ·exact q _ _ (by omega) (by omega) s12 t12
  subst hk
  refine aK fun k hk => ?_
  push_cast
  split
  ·exact q _ _ (by omega) (by omega) s12 t12
  subst hk
  refine aK fun k hk => ?_
  push_cast
  split
  ·split
   ·split
    ·exact q _ _ (by omega) (by omega) s12 t12
    ·subst hk
     exact fin
   ·subst hk
    exact fin
  ·subst hk
   exact fin
abbrev gw : Stmt := top 31
theorem rA : bF ["_law_tape_here", "_law_width", "_law_way", "_law_top", "_law_mask_here", "_law_turn"] ["_law_tape_here", "_law_width"] (aj gw) := ⟨rfl, rfl, rfl, by decide +kernel, rfl, by decide +kernel, by decide +kernel⟩
abbrev N7_ : List Str := ["_law_tape_here", "_law_width", "_law_way", "_law_top", "_law_mask_here", "_law_turn"]
theorem lY : NM_ N7_ gw 0 "_law_tape_here" := .of (by decide +kernel)
theorem lX : NM_ N7_ gw 1 "_law_width" := .of (by decide +kernel)
theorem Dj : NM_ N7_ gw 2 "_law_way" := .of (by decide +kernel)
theorem Di : NM_ N7_ gw 3 "_law_top" := .of (by decide +kernel)
theorem oh : NM_ N7_ gw 4 "_law_mask_here" := .of (by decide +kernel)
theorem PB : NM_ N7_ gw 5 "_law_turn" := .of (by decide +kernel)
theorem gj : GI_ gw "_law_take" := by decide +kernel
theorem Bv : GI_ gw "range" := by decide +kernel
theorem Wj : Bn "_law_mask" := ⟨by decide +kernel, by decide +kernel⟩
abbrev dR : Stmt := top 32
theorem pP : bF ["_law_tape_here", "_law_width", "_law_sign", "_law_other", "_law_way", "_law_one", "_law_two", "_law_mask_here", "_law_value"] ["_law_tape_here", "_law_width", "_law_sign", "_law_other"] (aj dR) := ⟨rfl, rfl, rfl, by decide +kernel, rfl, by decide +kernel, by decide +kernel⟩
abbrev N8_ : List Str := ["_law_tape_here", "_law_width", "_law_sign", "_law_other", "_law_way", "_law_one", "_law_two", "_law_mask_here", "_law_value"]
theorem mj : NM_ N8_ dR 0 "_law_tape_here" := .of (by decide +kernel)
theorem rQ : NM_ N8_ dR 1 "_law_width" := .of (by decide +kernel)
theorem Dm : NM_ N8_ dR 2 "_law_sign" := .of (by decide +kernel)
theorem PL : NM_ N8_ dR 3 "_law_other" := .of (by decide +kernel)
theorem wL : NM_ N8_ dR 4 "_law_way" := .of (by decide +kernel)
theorem ou : NM_ N8_ dR 5 "_law_one" := .of (by decide +kernel)
theorem wK : NM_ N8_ dR 6 "_law_two" := .of (by decide +kernel)
theorem wJ : NM_ N8_ dR 7 "_law_mask_here" := .of (by decide +kernel)
theorem wI : NM_ N8_ dR 8 "_law_value" := .of (by decide +kernel)
theorem Bw : GI_ dR "_law_mask" := by decide +kernel
theorem oY : GI_ dR "_law_number" := by decide +kernel
theorem nj : GI_ dR "_law_take" := by decide +kernel
theorem GC : GI_ dR "max" := by decide +kernel
theorem Gz : GI_ dR "min" := by decide +kernel
theorem Wl : Bn "_law_item" := ⟨by decide +kernel, by decide +kernel⟩
theorem Ij (hB : ∀ x : Str, x ∈ BLs -> mg x = none) (CZTake : Cal P w K mg base "_law_take" 2 ["_law_tape_here", "_law_many"] (gq 2)) (F : Fun K "_law_mask" "_law_mask" gw f fd) : dh P w K mg base CX0 3 f fd ["_law_tape_here", "_law_width"] Ms := by
 refine F.okq rA (fun vs H Q E h => ?_) (fun cdv A outer s H vs Q E hr h => ?_)
 ·obtain ⟨p, w, B, rfl, _⟩ := h
  rfl
 ·obtain ⟨p, w, B, rfl, tp, hB0, hB1, hw1, hw2, q⟩ := h
  refine ⟨_, (aD (cg (aW qt (aq lX) au (aU _)) (aF (aL (bf CZTake (hr.mono (by decide)) gj cR (ak (aq lY) (ak (aH iC au (aq lX)) ao))))) bJ)
   (aD (Az (i := 2) (j := 3) rfl rA.nd rfl rfl (by decide) rfl rfl (ak (bf CZTake (hr.mono (by decide)) gj cR (ak (aq lY) (ak au ao))) (ak (aH cN au (bf CZTake (hr.mono (by decide)) gj cR (ak (aq lY) (ak au ao)))) ao)) (by rfl))
   (aD (cg (aW (cM hr.bM) (aq Dj) au (aU _)) (aF (aL (aH iC (bf CZTake (hr.mono (by decide)) gj cR (ak (aq lY) (ak au ao))) (aH fU (aq lX) au)))) bJ)
   (aD (bL oh rA.nd (iR (aW (cM hr.bM) (aq Dj) au (aU _)) (aH iC (aH fU (aH iC au (aq Di)) au) (aH fU (aq lX) (aq Di))) (aH fU (aH iC au (aq lX)) au)))
   (aD (jP PassesOwn.never rfl (pQ Bv (hB "range" rY) (ak (bf CZTake (hr.mono (by decide)) gj cR (ak (aq lY) (ak au ao))) ao)) (cL PB rA.nd)
   (aF (bL oh rA.nd (aH fU (aq oh) (aH O4 (aq oh) (aH iC au (bf CZTake (hr.mono (by decide)) gj cR (ak (aq lY) (ak (aq lX) ao)))))))))
   (aF (aL (aq oh)))))))), ?_⟩
  have p1 := two_pow_pos w.toNat
  have p2 := lQ (k := w.toNat) (by omega)
  refine aK fun k hk => ?_
  push_cast [Int.one_mul]
  split
  ·rename_i c
   refine ⟨⟨by omega, by omega, by decide⟩, p, 2 ^ w.toNat, B, rfl, tp, by show B + 2 <= 1000100; omega, p1, by omega, by decide, fun _ => by decide, fun r H1 r0 r1 s1 t1 => ?_⟩
   obtain ⟨n, rfl⟩ := Int.eq_ofNat_of_zero_le r0
   exact q n H1 (Qf r1) (fun z => by omega) s1 (t1.le (by show B + 2 <= B + 20; omega))
  rename_i c
  subst hk
  refine aK fun k hk => ?_
  push_cast
  refine ⟨p, 3, B, rfl, tp, by show B + 2 <= 1000100; omega, by decide, by decide, by decide, fun z => absurd z (by decide), fun r1 H1 r10 r11 s1 t1 => ?_⟩
  push_cast
  refine ⟨p, 4, B + 2, rfl, t1, by show B + 2 + 2 <= 1000100; omega, by decide, by decide, by decide, fun z => absurd z (by decide), fun r2 H2 r20 r21 s2 t2 => ?_⟩
  push_cast
  subst hk
  have s12 := s1.trans s2
  refine aK fun k hk => ?_
  push_cast
  split
  ·refine ⟨p, 16, B + 2 + 2, rfl, t2, by show B + 2 + 2 + 2 <= 1000100; omega, by decide, by decide, by decide, fun z => absurd z (by decide), fun r3 H3 r30 r31 s3 t3 => ?_⟩
   obtain ⟨n, rfl⟩ := Int.eq_ofNat_of_zero_le r30
   push_cast
   refine ⟨⟨by omega, by omega, by omega⟩, ?_⟩
   obtain ⟨m, e, hm⟩ := Vj (W := w.toNat) (r := n) (by omega) (by omega)
   rw [show (w - 4).toNat = w.toNat - 4 by omega, e]
   exact q m H3 hm.1 (fun _ => hm.frees) (s12.trans s3) (t3.le (by show B + 2 + 2 + 2 <= B + 20; omega))
  subst hk
  have go : ∀ (b m : Nat), vp w.toNat b m 0 -> Lr
     (R9 (wW (jL (nQ (gq 2) [] E0 (jL (mO 0) (jL (tC (V.int 4)) xZ))) xZ)) (kJ 5)
      (yc (tOp (rI0 fun i j => V.int (i - j)) (mO 4)
        (tOp (rI0 fun i j => V.int (Builtin.bitAnd i j)) (mO 4)
         (tOp (rI Ws fun i j => V.int (i * 2 ^ j.toNat)) (tC (V.int 1))
          (nQ (gq 2) [] E0 (jL (mO 0) (jL (mO 1) xZ)))))) (kJ 4)))
     (Jz (mO 4)) { nx := fun x H' => Q V.non H', rt := Q } [some (V.ref p), some (V.int w), some (V.int r1), some (V.int (5 + r2)), some (V.int m), none] H2 := by
   intro b m hm
   refine aK fun k hk => ?_
   refine pC fun R hR => ?_
   push_cast [wW]
   refine ⟨p, 4, B + 2 + 2, rfl, t2, by show B + 2 + 2 + 2 <= 1000100; omega, by decide, by decide, by decide, fun z => absurd z (by decide), fun r3 H3 r30 r31 s3 t3 => ?_⟩
   push_cast
   have u3 : bN H3 p (B + 6) := t3.le (by show B + 2 + 2 + 2 <= B + 6; omega)
   obtain ⟨Pv, hPv⟩ : ∃ Pv : Nat -> L2.St -> Hp -> Prop, Pv = fun (i : Nat) σ H' => ∃ (m : Nat) (o5 : Option V), cj p H H' /\ bN H' p (B + 6 + 2 * (i : Int)) /\ vp w.toNat b m i /\ σ = [some (V.ref p), some (V.int w), some (V.int r1), some (V.int (5 + r2)), some (V.int m), o5] := ⟨_, rfl⟩
   refine ⟨by omega, by omega, Jd hR Pv (by rw [hPv]; exact ⟨m, none, s12.trans s3, by simpa using u3, hm, rfl⟩) ?_ ?_⟩
   ·intro i σ H4 hi pv
    rw [hPv] at pv
    obtain ⟨m4, o5, s4, t4, hm4, rfl⟩ := pv
    push_cast
    refine ⟨p, w, B + 6 + 2 * (i : Int), rfl, t4, by show B + 6 + 2 * (i : Int) + 2 <= 1000100; omega, by omega, by omega, by decide, fun _ => by decide, fun r5 H5 r50 r51 s5 t5 => ?_⟩
    push_cast [Int.one_mul]
    obtain ⟨m5, e5, hm5⟩ := YC hm4 r5.toNat
    refine ⟨⟨by omega, by omega, by decide⟩, ?_⟩
    rw [e5, hPv]
    exact ⟨m5, _, s4.trans s5, t5.le (by show B + 6 + 2 * (i : Int) + 2 <= B + 6 + 2 * ((i + 1 : Nat) : Int); omega), hm5, rfl⟩
   ·intro σ H4 pv
    rw [hPv] at pv
    obtain ⟨m4, o5, s4, t4, hm4, rfl⟩ := pv
    show k _ _
    subst hk
    push_cast
    have hm9 := hm4.le (j := 4) (by omega)
    exact q m4 H4 hm9.1 (fun _ => hm9.frees) s4 (t4.le (by omega))
  refine aK fun k hk => ?_
  push_cast [Int.one_mul]
  split
  ·refine ⟨⟨by omega, by omega, by decide⟩, ⟨by omega, by omega, ?_⟩, ?_⟩
   ·have a1 := lQ (k := (5 + r2).toNat) (by omega)
    have a2 := two_pow_pos (5 + r2).toNat
    omega
   obtain ⟨m, e, hm⟩ := YB (W := w.toNat) (T := (5 + r2).toNat) (by omega)
   rw [show (w - (5 + r2)).toNat = w.toNat - (5 + r2).toNat by omega, e]
   subst hk
   exact go _ m hm
  ·refine ⟨⟨by omega, by omega, by decide⟩, ?_⟩
   obtain ⟨m, e, hm⟩ := YD w.toNat
   rw [e]
   subst hk
   exact go _ m hm
theorem Vf (hB : ∀ x : Str, x ∈ BLs -> mg x = none) (CZTake : Cal P w K mg base "_law_take" 2 ["_law_tape_here", "_law_many"] (gq 2)) (CZNumber : Cal P w K mg base "_law_number" 3 ["_law_tape_here", "_law_width", "_law_sign", "_law_other"] Wx) (CZMask : Cal P w K mg base "_law_mask" 3 ["_law_tape_here", "_law_width"] Ms) (F : Fun K "_law_item" "_law_item" dR f fd) : dh P w K mg base CX0 4 f fd ["_law_tape_here", "_law_width", "_law_sign", "_law_other"] Mv := by
 refine F.okq pP (fun vs H Q E h => ?_) (fun cdv A outer s H vs Q E hr h => ?_)
 ·obtain ⟨p, w, s, o, B, rfl, _⟩ := h
  rfl
 ·obtain ⟨p, w, s, o, B, rfl, tp, hB0, hB1, hw1, hw2, hs, q⟩ := h
  refine ⟨_, (aD (bL wL pP.nd (bf CZTake (hr.mono (by decide)) nj cR (ak (aq mj) (ak au ao))))
   (aD (bL ou pP.nd (bf CZNumber (hr.mono (by decide)) oY zR (ak (aq mj) (ak (aq rQ) (ak (aq Dm) (ak (aq PL) ao))))))
   (aD (cg (aW qt (aq wL) au (aU _)) (aF (aL (bY (ak aG (ak (aq ou) ao))))) bJ)
   (aD (bL wK pP.nd (bf CZNumber (hr.mono (by decide)) oY zR (ak (aq mj) (ak (aq rQ) (ak (aq Dm) (ak (aq ou) ao))))))
   (aD (cg (aW qt (aq wL) au (aU _)) (aF (aL (bY (ak aG (ak (bI (uL rfl) Gz (hB "min" Gg) boot_min GR (ak (aq ou) (ak (aq wK) ao))) (ak (bI (K1 rfl) GC (hB "max" YG) boot_max Za (ak (aq ou) (ak (aq wK) ao))) ao)))))) bJ)
   (aD (bL wJ pP.nd (bf CZMask (hr.mono (by decide)) Bw Wj (ak (aq mj) (ak (aq rQ) ao))))
   (aD (bL wI pP.nd (bf CZTake (hr.mono (by decide)) nj cR (ak (aq mj) (ak (aH iC au (aq rQ)) ao))))
   (aF (aL (bY (ak aG (ak (aq wJ) (ak (iR (aW Ig (bf CZTake (hr.mono (by decide)) nj cR (ak (aq mj) (ak au ao))) au (aU _)) (aH O4 (aq wI) (aq wJ)) (aq wI)) ao))))))))))))), ?_⟩
  have p1 := two_pow_pos w.toNat
  have p2 := lQ (k := w.toNat) (by omega)
  refine aK fun k hk => ?_
  push_cast
  refine ⟨p, 5, B, rfl, tp, by show B + 2 <= 1000100; omega, by decide, by decide, by decide, fun z => absurd z (by decide), fun r1 H1 r10 r11 s1 t1 => ?_⟩
  push_cast
  subst hk
  refine aK fun k hk => ?_
  push_cast
  have u1 : bN H1 p (B + 2) := t1
  refine ⟨p, w, s, o, B + 2, rfl, u1, by omega, by omega, hw1, hw2, hs, fun a H2 a0 a1 s2 t2 => ?_⟩
  push_cast
  subst hk
  have s12 := s1.trans s2
  refine aK fun k hk => ?_
  push_cast
  split
  ·refine ⟨aP (by decide), fun t ht => q (.one a) t _ ⟨a0, a1⟩ (s12.trans (aA ht).x) ((t2.same (aA ht)).le (by omega)) ⟨aB⟩⟩
  subst hk
  refine aK fun k hk => ?_
  push_cast
  refine ⟨p, w, s, a, B + 2 + 10, rfl, t2, by omega, by omega, hw1, hw2, hs, fun b H3 b0 b1 s3 t3 => ?_⟩
  push_cast
  subst hk
  have s123 := s12.trans s3
  refine aK fun k hk => ?_
  push_cast
  split
  ·refine ⟨aP (by decide), fun t ht => q (.rng (if b < a then b else a) (if b > a then b else a)) t _ ⟨?_, ?_, ?_⟩ (s123.trans (aA ht).x) ((t3.same (aA ht)).le (by omega)) ⟨aB⟩⟩
   ·unfold lH; split <;> omega
   ·unfold lH; split <;> omega
   ·split <;> split <;> omega
  subst hk
  refine aK fun k hk => ?_
  push_cast
  refine ⟨p, w, B + 2 + 10 + 10, rfl, t3, by omega, by omega, hw1, hw2, fun m H4 hm hf s4 t4 => ?_⟩
  push_cast
  subst hk
  refine aK fun k hk => ?_
  push_cast [Int.one_mul]
  refine ⟨⟨by omega, by omega, by decide⟩, p, 2 ^ w.toNat, B + 2 + 10 + 10 + 20, rfl, t4, by show B + 2 + 10 + 10 + 20 + 2 <= 1000100; omega, p1, by omega, by decide, fun _ => by decide, fun r5 H5 r50 r51 s5 t5 => ?_⟩
  obtain ⟨v, rfl⟩ := Int.eq_ofNat_of_zero_le r50
  have hv := Qf r51
  subst hk
  push_cast
  refine ⟨p, 5, B + 2 + 10 + 10 + 20 + 2, rfl, t5, by show B + 2 + 10 + 10 + 20 + 2 + 2 <= 1000100; omega, by decide, by decide, by decide, fun z => absurd z (by decide), fun r6 H6 r60 r61 s6 t6 => ?_⟩
  push_cast
  have s456 := ((s123.trans s4).trans s5).trans s6
  split
  ·refine ⟨aP (by decide), fun t ht => ?_⟩
   refine q (.bits m (v &&& m)) t _ ⟨hm, Nat.lt_of_le_of_lt Nat.and_le_right hm, hf⟩ (s456.trans (aA ht).x) ((t6.same (aA ht)).le (by show B + 2 + 10 + 10 + 20 + 2 + 2 <= B + 60; omega)) ⟨?_⟩
   rw [aB, xU]
   rfl
  ·refine ⟨aP (by decide), fun t ht => ?_⟩
   exact q (.bits m v) t _ ⟨hm, hv, hf⟩ (s456.trans (aA ht).x) ((t6.same (aA ht)).le (by show B + 2 + 10 + 10 + 20 + 2 + 2 <= B + 60; omega)) ⟨aB⟩
abbrev aV : Stmt := top 33
theorem cB : bF ["_law_tape_here", "_law_width", "_law_sign", "_law_great", "_law_cases", "_law_other", "_law_many", "_law_k", "_law_items", "_law_turn", "_law_item_here"] ["_law_tape_here"] (aj aV) := ⟨rfl, rfl, rfl, by decide +kernel, rfl, by decide +kernel, by decide +kernel⟩
abbrev N9_ : List Str := ["_law_tape_here", "_law_width", "_law_sign", "_law_great", "_law_cases", "_law_other", "_law_many", "_law_k", "_law_items", "_law_turn", "_law_item_here"]
theorem fZ : NM_ N9_ aV 0 "_law_tape_here" := .of (by decide +kernel)
theorem fY : NM_ N9_ aV 1 "_law_width" := .of (by decide +kernel)
theorem iI : NM_ N9_ aV 2 "_law_sign" := .of (by decide +kernel)
theorem jV : NM_ N9_ aV 3 "_law_great" := .of (by decide +kernel)
theorem nZ : NM_ N9_ aV 4 "_law_cases" := .of (by decide +kernel)
theorem iH : NM_ N9_ aV 5 "_law_other" := .of (by decide +kernel)
theorem jU : NM_ N9_ aV 6 "_law_many" := .of (by decide +kernel)
theorem wk : NM_ N9_ aV 7 "_law_k" := .of (by decide +kernel)
theorem fX : NM_ N9_ aV 8 "_law_items" := .of (by decide +kernel)
theorem wj : NM_ N9_ aV 9 "_law_turn" := .of (by decide +kernel)
theorem gJ : NM_ N9_ aV 10 "_law_item_here" := .of (by decide +kernel)
theorem qN : GI_ aV "_law_item" := by decide +kernel
theorem qM : GI_ aV "_law_kind" := by decide +kernel
theorem qe : GI_ aV "_law_least" := by decide +kernel
theorem gR : GI_ aV "_law_take" := by decide +kernel
theorem uE : GI_ aV "int" := by decide +kernel
theorem j6 : GI_ aV "range" := by decide +kernel
theorem yH : Bn "_law_wild_choice" := ⟨by decide +kernel, by decide +kernel⟩
theorem U8 (hB : ∀ x : Str, x ∈ BLs -> mg x = none) (CZTake : Cal P w K mg base "_law_take" 2 ["_law_tape_here", "_law_many"] (gq 2)) (CZKind : Cal P w K mg base "_law_kind" 3 ["_law_tape_here"] Mt) (CZLeast : Cal P w K mg base "_law_least" 1 ["_law_width", "_law_sign"] nW) (CZItem : Cal P w K mg base "_law_item" 4 ["_law_tape_here", "_law_width", "_law_sign", "_law_other"] Mv)
  (F : Fun K "_law_wild_choice" "_law_wild_choice" aV f fd) : dh P w K mg base CX0 5 f fd ["_law_tape_here"] Mq := by
 refine F.okq cB (fun vs H Q E h => ?_) (fun cdv A outer s H vs Q E hr h => ?_)
 ·obtain ⟨p, B, rfl, _⟩ := h
  rfl
 ·obtain ⟨p, B, rfl, tp, hB0, hB1, q⟩ := h
  refine ⟨_, (aD (gO (bf CZKind (hr.mono (by decide)) qM Wk (ak (aq fZ) ao)) (jo (n := 2) rfl (bh (cL fY cB.nd) (bh (cL iI cB.nd) eU))))
   (aD (bL jV cB.nd (fD (cM hr.bM) (bf CZTake (hr.mono (by decide)) gR cR (ak (aq fZ) (ak au ao))) au (aU _)))
   (aD (TV (i := 4) (j := 5) (k := 6) rfl cB.nd rfl rfl rfl (by decide) (by decide) (by decide) rfl rfl rfl (ak (gP ao) (ak (bf CZLeast (hr.mono (by decide)) qe sZ (ak (aq fY) (ak (aq iI) ao))) (ak au ao))) (by rfl))
   (aD (jP PassesOwn.never rfl (pQ j6 (hB "range" rY) (ak (bf CZTake (hr.mono (by decide)) gR cR (ak (aq fZ) (ak (iR (cW (aq jV)) au au) ao))) ao)) (cL wk cB.nd)
   (aD (bL fX cB.nd (gP ao))
   (aD (jP PassesOwn.never rfl (pQ j6 (hB "range" rY) (ak (bf CZTake (hr.mono (by decide)) gR cR (ak (aq fZ) (ak (iR (cW (aq jV)) au au) ao))) ao)) (cL wj cB.nd)
   (aD (bL gJ cB.nd (bf CZItem (hr.mono (by decide)) qN Wl (ak (aq fZ) (ak (aq fY) (ak (aq iI) (ak (aq iH) ao))))))
   (aD (bL jU cB.nd (aH cN (aq jU) (jQ qT uE (hB "int" oO) boot_int pH (ak (fD (cM hr.bM) (bR eO (aq gJ) au (fun _ _ => rfl)) aG (aU _)) ao))))
   (aD (j9 (pR (aq fX) (iR (lO (fP (aW qt (aq fY) au (aU _)) (fP (aW qt (aq jU) au (aU _)) (fO (aW (iW hr.bM) (bR eO (aq gJ) au (fun _ _ => rfl)) aG (aU _)))))) (aq gJ) (bY (ak aG (ak (aq iH) ao))))))
   (aF (bL iH cB.nd (iR (aW (iW hr.bM) (bR eO (bR eO (aq fX) (Ia Ab au) (fun _ _ => rfl)) au (fun _ _ => rfl)) aG (aU _)) (bR eO (bR eO (aq fX) (Ia Ab au) (fun _ _ => rfl)) au (fun _ _ => rfl)) (aq iH))))))))
   (aF (j9 (pR (aq nZ) (aq fX)))))))
   (aF (aL (bY (ak (aq fY) (ak (aq iI) (ak (aq nZ) ao)))))))))), ?_⟩
  refine aK fun k hk => ?_
  push_cast
  refine ⟨p, B, rfl, tp, by omega, by omega, fun w s t H1 hw1 hw2 hs s1 tp1 ht => ?_⟩
  push_cast [ht]
  subst hk
  refine aK fun k hk => ?_
  push_cast
  refine ⟨p, 8, B + 10, rfl, tp1, by show B + 10 + 2 <= 1000100; omega, by decide, by decide, by decide, fun z => absurd z (by decide), fun r1 H2 r10 r11 s2 tp2 => ?_⟩
  push_cast
  subst hk
  generalize decide (r1 = 0) = great
  refine aK fun k hk => ?_
  push_cast
  refine ⟨aP (by decide), fun c hc => ?_⟩
  refine ⟨w, s, rfl, hw1, hw2, hs, ?_⟩
  push_cast
  subst hk
  obtain ⟨cp, Hc⟩ := xJ (s1.trans s2) tp2 hc
  have s3 := iV (o := HO.lst []) (s1.trans s2) Hc
  have tp3 : bN _ p (B + 12) := (tp2.same (aA (o := HO.lst []) hc)).le (by show B + 10 + 2 <= B + 12; omega)
  have hc3 : upd H2 c (HO.lst []) c = some (HO.lst []) := aB
  generalize upd H2 c (HO.lst []) = H3 at s3 tp3 hc3 |-
  refine aK fun k hk => ?_
  refine pC fun R hR => ?_
  push_cast [wW]
  have g13 : ∀ (x y : Int), (0 < x /\ x <= 13) -> (0 < y /\ y <= 13) -> (if great = true then x else y) <= 13 /\ 0 < (if great = true then x else y) := fun x y hx hy => by cases great <;> simp <;> omega
  obtain ⟨OC, hOC⟩ : ∃ OC : Addr -> Prop, OC = fun a => a ≠ p /\ a ≠ c := ⟨_, rfl⟩
  have body : ∀ m : Int, 0 < m -> m <= 13 -> gq 2 [V.ref p, V.int m] H3 (fun x H1 => ∃ j, x = V.int j /\ -(2 ^ 62) <= j /\ j < 2 ^ 62 /\ R (Itr 0 j.toNat) H1) E0 := by
   intro m hm0 hm1
   refine ⟨p, m, B + 12, rfl, tp3, by show B + 12 + 2 <= 1000100; omega, hm0, by omega, by decide, fun z => absurd z (by omega), fun r2 H4 r20 r21 s4 tp4 => ?_⟩
   refine ⟨r2, rfl, by omega, by omega, ?_⟩
   obtain ⟨Pv, hPv⟩ : ∃ Pv : Nat -> L2.St -> Hp -> Prop, Pv = fun (i : Nat) σ H' => ∃ (css : List (List It1)) (vs : List V) (ot mn : Int) (o7 o8 o9 o10 : Option V), cj p H H' /\ bN H' p (B + 20 + 400 * (i : Int)) /\ H' c = some (HO.lst vs) /\ aM OC H' vs (css.map zM) /\
    css.length = i /\ (∀ its ∈ css, its.length <= 6 /\ ∀ it ∈ its, it.Ok w s) /\ lH w s ot /\
    σ = [some (V.ref p), some (V.int w), some (V.int s), some (V.bl great), some (V.ref c), some (V.int ot), some (V.int mn), o7, o8, o9, o10] := ⟨_, rfl⟩
   have hc4 := s4 _ _ cp hc3
   refine Jd hR Pv (by rw [hPv]; exact ⟨[], [], _, _, _, _, _, _, s3.trans s4, tp4.le (by show B + 12 + 2 <= B + 20 + 400 * ((0 : Nat) : Int); omega), hc4, .nil, rfl, by simp, Bp, rfl⟩) ?_ ?_
   ·intro i σ H5 hi pv
    rw [hPv] at pv
    obtain ⟨css, vs, ot, mn, o7, o8, o9, o10, s5, tp5, hc5, ts5, hcl, hok, hot, rfl⟩ := pv
    refine aK fun k2 hk2 => ?_
    push_cast
    refine ⟨aP (by decide), fun q0 hq0 => ?_⟩
    obtain ⟨qp, Hq⟩ := xJ s5 tp5 hq0
    have qc : q0 ≠ c := (aQ hc5 hq0).symm
    obtain ⟨OQ, hOQ⟩ : ∃ OQ : Addr -> Prop, OQ = fun a => (a ≠ p /\ a ≠ c) /\ a ≠ q0 := ⟨_, rfl⟩
    have ts6 : aM OQ (upd H5 q0 (HO.lst [])) vs (css.map zM) := ts5.keep fun a o h e => by
     rw [hOC] at h
     rw [hOQ]
     exact ⟨⟨h, aQ e hq0⟩, aA hq0 _ _ e⟩
    have s6 := iV (o := HO.lst []) s5 Hq
    have tp6 := tp5.same (aA (o := HO.lst []) hq0)
    have hc6 := aA (o := HO.lst []) hq0 _ _ hc5
    have hq6 : upd H5 q0 (HO.lst []) q0 = some (HO.lst []) := aB
    generalize upd H5 q0 (HO.lst []) = H6 at s6 tp6 hc6 hq6 ts6 |-
    subst hk2
    refine aK fun k2 hk2 => ?_
    refine pC fun R2 hR2 => ?_
    push_cast [wW]
    have body2 : ∀ m : Int, 0 < m -> m <= 7 -> gq 2 [V.ref p, V.int m] H6 (fun x H1 => ∃ j, x = V.int j /\ -(2 ^ 62) <= j /\ j < 2 ^ 62 /\ R2 (Itr 0 j.toNat) H1) E0 := by
     intro m hm0 hm1
     refine ⟨p, m, B + 20 + 400 * (i : Int), rfl, tp6, by show B + 20 + 400 * (i : Int) + 2 <= 1000100; omega, hm0, by omega, by decide, fun z => absurd z (by omega), fun r3 H7 r30 r31 s7 tp7 => ?_⟩
     refine ⟨r3, rfl, by omega, by omega, ?_⟩
     obtain ⟨Pv2, hPv2⟩ : ∃ Pv : Nat -> L2.St -> Hp -> Prop, Pv = fun (j : Nat) σ H' => ∃ (its : List It1) (us : List V) (ot mn : Int) (o9 o10 : Option V), cj p H H' /\ bN H' p (B + 20 + 400 * (i : Int) + 2 + 60 * (j : Int)) /\ H' c = some (HO.lst vs) /\ H' q0 = some (HO.lst us) /\ aM OQ H' vs (css.map zM) /\
      aM OQ H' us (its.map itD) /\ its.length = j /\ (∀ it ∈ its, it.Ok w s) /\ lH w s ot /\
      σ = [some (V.ref p), some (V.int w), some (V.int s), some (V.bl great), some (V.ref c), some (V.int ot), some (V.int mn), some (V.int (0 + (i : Int))), some (V.ref q0), o9, o10] := ⟨_, rfl⟩
     have kq : ∀ {H H' : Hp}, cj p H H' -> ∀ a o, OQ a -> H a = some o -> OQ a /\ H' a = some o := fun {H H'} sx a o h e => by
      refine ⟨h, sx a o ?_ e⟩
      rw [hOQ] at h
      exact h.1.1
     refine Jd hR2 Pv2 (by rw [hPv2]; exact ⟨[], [], ot, mn, _, _, s6.trans s7, tp7.le (by show B + 20 + 400 * (i : Int) + 2 <= B + 20 + 400 * (i : Int) + 2 + 60 * ((0 : Nat) : Int); omega), s7 _ _ cp hc6, s7 _ _ qp hq6, ts6.keep (kq s7), .nil, rfl, by simp, hot, rfl⟩) ?_ ?_
     ·intro j σ H8 hj pv
      rw [hPv2] at pv
      obtain ⟨its, us, ot8, mn8, o9', o10', s8, tp8, hc8, hq8, tv8, tu8, hil, hio, hot8, rfl⟩ := pv
      have hul := tu8.length
      rw [List.length_map] at hul
      refine aK fun k3 hk3 => ?_
      push_cast
      refine ⟨p, w, s, ot8, B + 20 + 400 * (i : Int) + 2 + 60 * (j : Int), rfl, tp8, by omega, by omega, hw1, hw2, hs, fun it t9 H9 ok9 s9 tp9 at9 => ?_⟩
      push_cast
      subst hk3
      have hc9 := s9 _ _ cp hc8
      have hq9 := s9 _ _ qp hq8
      have tv9 := tv8.keep (kq s9)
      have tu9 := tu8.keep (kq s9)
      have s89 := s8.trans s9
      -- the item that goes in
      have put : ∀ (it2 : It1) (t2 : Addr) (H10 : Hp) (mn2 : Int) (k4 : L2.St -> Hp -> Prop), k4 = yc (tIf (yS (tOp JN (tOp CN (tOp CN (mO 8) (tUn (rU fun i => V.int (-i)) (tC (V.int 1)))) (tC (V.int 0))) (tC (V.str "bits"))))
        (tOp CN (tOp CN (mO 8) (tUn (rU fun i => V.int (-i)) (tC (V.int 1)))) (tC (V.int 1))) (mO 5)) (kJ 5) { nx := Pv2 (j + 1), ct := Pv2 (j + 1), bk := k2, rt := Q } ->
        it2.Ok w s -> Same H9 H10 -> qX H10 t2 it2 ->
        apq (H10 q0) q0 (V.ref t2) H10 (fun _ H1 => k4 [some (V.ref p), some (V.int w), some (V.int s), some (V.bl great), some (V.ref c), some (V.int ot8), some (V.int mn2), some (V.int (0 + (i : Int))), some (V.ref q0), some (V.int (0 + (j : Int))), some (V.ref t9)] H1) := by
       intro it2 t2 H10 mn2 k4 hk4 ok2 s10 at2
       rw [s10 _ _ hq9, vL]
       have hlt : us.length < sizeLine := Nat.lt_of_lt_of_le (by omega) (aP (Nat.le_refl 1000000))
       refine ⟨hlt, ?_⟩
       have tq : t2 ≠ q0 := fun z => by have := at2.h; rw [z, s10 _ _ hq9] at this; cases this
       have tc : t2 ≠ c := fun z => by have := at2.h; rw [z, s10 _ _ hc9] at this; cases this
       have tpn : t2 ≠ p := (tp9.same s10).net at2.h
       have kk : ∀ a o, OQ a -> H10 a = some o -> OQ a /\ upd H10 q0 (HO.lst (us ++ [V.ref t2])) a = some o := fun a o h e => by
        refine ⟨h, ?_⟩
        rw [hOQ] at h
        rw [aJ h.2]
        exact e
       have at3 : qX (upd H10 q0 (HO.lst (us ++ [V.ref t2]))) t2 it2 := ⟨by rw [aJ tq]; exact at2.h⟩
       have s11 := iV (o := HO.lst (us ++ [V.ref t2])) (s89.trans s10.x) Hq
       have tp11 := (tp9.same s10).upd (o := HO.lst (us ++ [V.ref t2])) qp
       have hc11 : upd H10 q0 (HO.lst (us ++ [V.ref t2])) c = some (HO.lst vs) := by rw [aJ (Ne.symm qc)]; exact s10 _ _ hc9
       have hq11 : upd H10 q0 (HO.lst (us ++ [V.ref t2])) q0 = some (HO.lst (us ++ [V.ref t2])) := aB
       have tv11 := (tv9.same s10).keep kk
       have tu11 : aM OQ (upd H10 q0 (HO.lst (us ++ [V.ref t2]))) (us ++ [V.ref t2]) ((its ++ [it2]).map itD) := by
        rw [List.map_append]
        exact ((tu9.same s10).keep kk).append (.cons (at3.tree (by rw [hOQ]; exact ⟨⟨tpn, tc⟩, tq⟩)) .nil)
       generalize upd H10 q0 (HO.lst (us ++ [V.ref t2])) = H11 at at3 s11 tp11 hc11 hq11 tv11 tu11
       have fin : ∀ ot2, lH w s ot2 -> Pv2 (j + 1) [some (V.ref p), some (V.int w), some (V.int s), some (V.bl great), some (V.ref c), some (V.int ot2), some (V.int mn2), some (V.int (0 + (i : Int))), some (V.ref q0), some (V.int (0 + (j : Int))), some (V.ref t9)] H11 := fun ot2 ho2 => by
        rw [hPv2]
        refine ⟨its ++ [it2], us ++ [V.ref t2], ot2, mn2, _, _, s11, tp11.le (by omega), hc11, hq11, tv11, tu11, by rw [List.length_append, List.length_singleton]; omega, ?_, ho2, rfl⟩
        intro x hx
        rcases List.mem_append.mp hx with z | z
        ·exact hio x z
        ·rw [List.mem_singleton.mp z]
         exact ok2
       subst hk4
       cases it2 with
       | one x =>
        push_cast [hq11, xV, at3.h]
        exact fin _ ok2
       | rng x y =>
        push_cast [hq11, xV, at3.h]
        exact fin _ ok2.1
       | bits x y =>
        push_cast [hq11, xV, at3.h]
        exact fin _ hot8
      refine aK fun k3 hk3 => ?_
      have put2 : ∀ mn2 : Int, k3 [some (V.ref p), some (V.int w), some (V.int s), some (V.bl great), some (V.ref c), some (V.int ot8), some (V.int mn2), some (V.int (0 + (i : Int))), some (V.ref q0), some (V.int (0 + (j : Int))), some (V.ref t9)] H9 := by
       intro mn2
       subst hk3
       refine aK fun k4 hk4 => ?_
       have direct := put it t9 H9 mn2 k4 hk4 ok9 (Same.refl _) at9
       rw [hq9, vL] at direct
       cases it with
       | one x =>
        push_cast [hq9, at9.h]
        split
        ·exact direct
        ·split
         ·exact direct
         ·exact direct
       | rng x y =>
        push_cast [hq9, at9.h]
        split
        ·exact direct
        ·split
         ·exact direct
         ·exact direct
       | bits x y =>
        push_cast [hq9, at9.h]
        split
        ·exact direct
        ·split
         ·exact direct
         ·exact ⟨aP (by decide), fun t2 ht2 => put (.one ot8) t2 _ mn2 k4 hk4 hot8 (aA ht2) ⟨aB⟩⟩
      cases it with
      | one x => push_cast [at9.h]; exact put2 _
      | rng x y => push_cast [at9.h]; exact put2 _
      | bits x y => push_cast [at9.h]; exact put2 _
     ·intro σ H8 pv
      rw [hPv2] at pv
      obtain ⟨its, us, ot8, mn8, o9', o10', s8, tp8, hc8, hq8, tv8, tu8, hil, hio, hot8, rfl⟩ := pv
      have hvl := tv8.length
      rw [List.length_map] at hvl
      have hul := tu8.length
      rw [List.length_map] at hul
      show k2 _ _
      subst hk2
      push_cast [hc8]
      refine ⟨Nat.lt_of_lt_of_le (by omega) (aP (Nat.le_refl 1000000)), ?_⟩
      rw [hPv]
      have kk : ∀ a o, OQ a -> H8 a = some o -> OC a /\ upd H8 c (HO.lst (vs ++ [V.ref q0])) a = some o := fun a o h e => by
       rw [hOQ] at h
       rw [hOC]
       exact ⟨h.1, by rw [aJ h.1.2]; exact e⟩
      refine ⟨css ++ [its], vs ++ [V.ref q0], ot8, mn8, _, _, _, _, iV s8 Hc, (tp8.upd cp).le (by omega), aB, ?_, by rw [List.length_append, List.length_singleton]; omega, ?_, hot8, rfl⟩
      ·rw [List.map_append]
       refine (tv8.keep kk).append (.cons (.lst ?_ (by rw [aJ qc]; exact hq8) (by omega) (tu8.keep kk)) .nil)
       rw [hOC]
       exact ⟨qp, qc⟩
      ·intro x hx
       rcases List.mem_append.mp hx with z | z
       ·exact hok x z
       ·rw [List.mem_singleton.mp z]
        exact ⟨by omega, hio⟩
    cases great with
    | true => exact body2 7 (by decide) (by decide)
    | false => exact body2 5 (by decide) (by decide)
   ·intro σ H5 pv
    rw [hPv] at pv
    obtain ⟨css, vs, ot, mn, o7, o8, o9, o10, s5, tp5, hc5, ts5, hcl, hok, hot, rfl⟩ := pv
    have hvl := ts5.length
    rw [List.length_map] at hvl
    show k _ _
    subst hk
    push_cast
    refine ⟨aP (by decide), fun t ht => ?_⟩
    obtain ⟨tpn, Ht⟩ := xJ s5 tp5 ht
    have sx := aA (o := HO.tup [V.int w, V.int s, V.ref c]) ht
    refine q w s t css _ hw1 hw2 hs (s5.trans sx.x) ((tp5.same sx).le (by omega)) ?_ hok (by omega)
    exact .tup tpn aB (by show 3 <= 1000000; decide) (.cons (.int w) (.cons (.int s) (.cons (.lst cp (sx _ _ hc5) (by omega) (ts5.keep fun a o h e => by
     rw [hOC] at h
     exact ⟨h.1, sx _ _ e⟩)) .nil)))
  cases great with
  | true => exact body 13 (by decide) (by decide)
  | false => exact body 6 (by decide) (by decide)
theorem Lh : Bn "FIGURES" := ⟨by decide +kernel, by decide +kernel⟩
theorem yK : Bn "MOST_FIGURES" := ⟨by decide +kernel, by decide +kernel⟩
theorem Ek : Bn "MOST_WIDTH" := ⟨by decide +kernel, by decide +kernel⟩
abbrev dU : Stmt := top 2
theorem Fe : bF ["thing"] ["thing"] (aj dU) := ⟨rfl, rfl, rfl, by decide +kernel, rfl, by decide +kernel, by decide +kernel⟩
abbrev N10_ : List Str := ["thing"]
theorem uQ : NM_ N10_ dU 0 "thing" := .of (by decide +kernel)
theorem xH : GI_ dU "bool" := by decide +kernel
theorem yx : GI_ dU "int" := by decide +kernel
theorem jl : GI_ dU "isinstance" := by decide +kernel
theorem qU : Bn "is_number" := ⟨by decide +kernel, by decide +kernel⟩
abbrev gH : Stmt := top 3
theorem M7 : bF ["width", "sign"] ["width", "sign"] (aj gH) := ⟨rfl, rfl, rfl, by decide +kernel, rfl, by decide +kernel, by decide +kernel⟩
abbrev N11_ : List Str := ["width", "sign"]
theorem zy : NM_ N11_ gH 0 "width" := .of (by decide +kernel)
theorem zx : NM_ N11_ gH 1 "sign" := .of (by decide +kernel)
theorem sU : GI_ gH "MOST_WIDTH" := by decide +kernel
theorem mH : GI_ gH "is_number" := by decide +kernel
theorem RK : Bn "is_kind" := ⟨by decide +kernel, by decide +kernel⟩
abbrev gC : Stmt := top 4
theorem JK : bF ["width", "sign"] ["width", "sign"] (aj gC) := ⟨rfl, rfl, rfl, by decide +kernel, rfl, by decide +kernel, by decide +kernel⟩
theorem Ga : NM_ N11_ gC 0 "width" := .of (by decide +kernel)
theorem FZ : NM_ N11_ gC 1 "sign" := .of (by decide +kernel)
theorem Lg : Bn "least_of" := ⟨by decide +kernel, by decide +kernel⟩
abbrev je : Stmt := top 5
theorem M6 : bF ["width", "sign"] ["width", "sign"] (aj je) := ⟨rfl, rfl, rfl, by decide +kernel, rfl, by decide +kernel, by decide +kernel⟩
theorem zu : NM_ N11_ je 0 "width" := .of (by decide +kernel)
theorem Ke : NM_ N11_ je 1 "sign" := .of (by decide +kernel)
theorem El : Bn "most_of" := ⟨by decide +kernel, by decide +kernel⟩
abbrev cG : Stmt := top 7
theorem jO : bF ["width", "sign", "thing", "least", "most", "word", "one", "other", "full"] ["width", "sign", "thing"] (aj cG) := ⟨rfl, rfl, rfl, by decide +kernel, rfl, by decide +kernel, by decide +kernel⟩
abbrev N12_ : List Str := ["width", "sign", "thing", "least", "most", "word", "one", "other", "full"]
theorem um : NM_ N12_ cG 0 "width" := .of (by decide +kernel)
theorem zA : NM_ N12_ cG 1 "sign" := .of (by decide +kernel)
theorem iY : NM_ N12_ cG 2 "thing" := .of (by decide +kernel)
theorem uh : NM_ N12_ cG 3 "least" := .of (by decide +kernel)
theorem ug : NM_ N12_ cG 4 "most" := .of (by decide +kernel)
theorem uf : NM_ N12_ cG 5 "word" := .of (by decide +kernel)
theorem ud : NM_ N12_ cG 6 "one" := .of (by decide +kernel)
theorem uc : NM_ N12_ cG 7 "other" := .of (by decide +kernel)
theorem t8 : NM_ N12_ cG 8 "full" := .of (by decide +kernel)
theorem DR : GI_ cG "all" := by decide +kernel
theorem qP : GI_ cG "isinstance" := by decide +kernel
theorem vm : GI_ cG "least_of" := by decide +kernel
theorem uU : GI_ cG "len" := by decide +kernel
theorem oZ : GI_ cG "most_of" := by decide +kernel
theorem yC : GI_ cG "tuple" := by decide +kernel
theorem RL : Bn "is_item" := ⟨by decide +kernel, by decide +kernel⟩
theorem Pg (hB : ∀ x : Str, x ∈ BLs -> mg x = none) (F : Fun K "is_number" "is_number" dU f fd) : dh P w K mg base CX0 1 f fd ["thing"] vV := by
 refine F.okq Fe (fun vs H Q E h => ?_) (fun cdv A outer s H vs Q E hr h => ?_)
 ·obtain ⟨v, ok, d, rfl, _⟩ := h
  rfl
 ·obtain ⟨v, ok, d, rfl, t, q⟩ := h
  refine ⟨_, (aF (aL (iB (bI cA jl (hB "isinstance" aN) boot_isinstance aO (ak (aq uQ) (ak (gD "int" yx (hB "int" oO) boot_int pH) ao))) (jq (Fv (bI cA jl (hB "isinstance" aN) boot_isinstance aO (ak (aq uQ) (ak (gD "bool" xH (hB "bool" su) boot_bool sY) ao)))))))), ?_⟩
  cases t with
  | non => push_cast; exact q
  | bl b => push_cast; exact q
  | int i => push_cast; exact q
  | str x => push_cast; exact q
  | lst o e z t => push_cast [e]; exact q
  | tup o e z t => push_cast [e]; exact q
theorem J5 (F : Fun K "least_of" "least_of" gC f fd) : dh P w K mg base CX0 1 f fd ["width", "sign"] Cj := by
 refine F.okq JK (fun vs H Q E h => ?_) (fun cdv A outer s H vs Q E hr h => ?_)
 ·obtain ⟨w, s, rfl, _⟩ := h
  rfl
 ·obtain ⟨w, s, rfl, h1, h2, hs, q⟩ := h
  refine ⟨_, (aD (cg (aW (cM hr.bM) (aq FZ) au (aU _)) (aF (aL au)) bJ)
   (aF (aL (Ia Ab (aH iC au (aH fU (aq Ga) au)))))), ?_⟩
  unfold wl at q
  push_cast [Int.one_mul]
  rcases hs with rfl | rfl
  ·rw [if_pos rfl]
   rw [Int.mul_zero, Int.sub_zero] at q
   exact q
  ·rw [if_neg (by decide)]
   refine ⟨⟨by omega, by omega, by decide⟩, ?_⟩
   rw [Int.mul_one, Int.zero_sub] at q
   exact q
theorem O8 (F : Fun K "most_of" "most_of" je f fd) : dh P w K mg base CX0 1 f fd ["width", "sign"] Hu := by
 refine F.okq M6 (fun vs H Q E h => ?_) (fun cdv A outer s H vs Q E hr h => ?_)
 ·obtain ⟨w, s, rfl, _⟩ := h
  rfl
 ·obtain ⟨w, s, rfl, h1, h2, hs, q⟩ := h
  refine ⟨_, (aD (cg (aW (cM hr.bM) (aq Ke) au (aU _)) (aF (aL (aH fU (aH iC au (aq zu)) au))) bJ)
   (aF (aL (aH fU (aH iC au (aH fU (aq zu) au)) au)))), ?_⟩
  have e := ur h1
  unfold wl at q
  push_cast [Int.one_mul]
  rcases hs with rfl | rfl
  ·rw [if_pos rfl]
   rw [Int.mul_zero, Int.sub_zero, Int.zero_add] at q
   exact ⟨⟨by omega, by omega, by decide⟩, q⟩
  ·rw [if_neg (by decide)]
   refine ⟨⟨by omega, by omega, by decide⟩, ?_⟩
   rw [show (0 : Int) - 2 ^ (w - 1).toNat * 1 + 2 ^ w.toNat - 1 = 2 ^ (w - 1).toNat - 1 by omega] at q
   exact q
theorem J6 {ckMostWidth : Tok} (hB : ∀ x : Str, x ∈ BLs -> mg x = none) (cgMostWidth : mg "MOST_WIDTH" = some (.int 40 ckMostWidth)) (CIsNumber : Cal P w K mg base "is_number" 1 ["thing"] vV) (F : Fun K "is_kind" "is_kind" gH f fd) : dh P w K mg base CX0 2 f fd ["width", "sign"] Hw := by
 refine F.okq M7 (fun vs H Q E h => ?_) (fun cdv A outer s H vs Q E hr h => ?_)
 ·obtain ⟨v, v2, ok, d, d2, rfl, _⟩ := h
  rfl
 ·obtain ⟨v, v2, ok, d, d2, rfl, t, t2, q⟩ := h
  refine ⟨_, (aD (cg (lO (fP (fQ (cW (bf CIsNumber (hr.mono (by decide)) mH qU (ak (aq zy) ao)))) (fO (fQ (cW (bf CIsNumber (hr.mono (by decide)) mH qU (ak (aq zx) ao))))))) (aF (aL nF)) bJ)
   (aF (aL (iB (jR fV fV au (aq zy) (kh (v := V.int 40) sU cgMostWidth ⟨_, rfl⟩ Ek)) (jq (jR fV fV au (aq zx) au)))))), ?_⟩
  push_cast
  refine ⟨v, ok, d, rfl, t, ?_⟩
  push_cast
  have tt2 := t2
  cases t with
  | int i =>
   push_cast [bO]
   refine ⟨v2, ok, d2, rfl, tt2, ?_⟩
   push_cast
   cases t2 with
   | int j =>
    push_cast [bO]
    rw [show jC (.int i) (.int j) = ((decide (1 <= i) && decide (i <= 40)) && (decide (0 <= j) && decide (j <= 1))) from rfl] at q
    split
    ·rename_i c1
     rw [decide_eq_true c1, Bool.true_and] at q
     split
     ·rename_i c2
      rw [decide_eq_true c2, Bool.true_and] at q
      split
      ·rename_i c3
       rw [decide_eq_true c3, Bool.true_and] at q
       exact q
      ·rename_i c3
       rw [decide_eq_false c3, Bool.false_and] at q
       exact q
     ·rename_i c2
      rw [decide_eq_false c2, Bool.false_and] at q
      exact q
    ·rename_i c1
     rw [decide_eq_false c1, Bool.false_and, Bool.false_and] at q
     exact q
   | _ => push_cast [bO]; exact q
  | _ => push_cast [bO]; exact q
theorem J7 (hB : ∀ x : Str, x ∈ BLs -> mg x = none) (CIsNumber : Cal P w K mg base "is_number" 1 ["thing"] vV) (CLeastOf : Cal P w K mg base "least_of" 1 ["width", "sign"] Cj) (CMostOf : Cal P w K mg base "most_of" 1 ["width", "sign"] Hu) (F : Fun K "is_item" "is_item" cG f fd) : dh P w K mg base CX0 2 f fd ["width", "sign", "thing"] Hy := by
 refine F.okq jO (fun vs H Q E h => ?_) (fun cdv A outer s H vs Q E hr h => ?_)
 ·obtain ⟨w, s, v, ok, d, rfl, _⟩ := h
  rfl
 ·obtain ⟨w, s, v, ok, d, rfl, hw1, hw2, hs, t, q⟩ := h
  refine ⟨_, (aD (cg (lO (fP (fQ (cW (bI cA qP (hB "isinstance" aN) boot_isinstance aO (ak (aq iY) (ak (gD "tuple" yC (hB "tuple" oN) boot_tuple pG) ao))))) (fO (aW zc (bI dO uU (hB "len" eX) PySem.boot_len fj (ak (aq iY) ao)) (bY (ak au (ak au ao))) (by with_unfolding_all rfl))))) (aF (aL nF)) bJ)
   (aD (cg (fQ (cW (bI (gY rfl) DR (hB "all" oR) PyProof.Rows.Boot.«all» pI (ak (fK (NX := ["width", "sign", "thing", "least", "most", "word", "one", "other", "full"]) (kX := (aj cG).names) ["part"] [none] rfl rfl ⟨rfl, by decide +kernel, by decide +kernel, by decide +kernel, by decide +kernel⟩ rfl (dw (dG uX (aq iY) (dZ au) d7)) (fun _ _ _ _ _ => (dM 0 (show List.Nodup (["part"] : List Str) from by decide +kernel) rfl (Or.inl rfl))) (fun _ _ _ _ _ => fG) (fun _ _ _ _ _ => (bf CIsNumber (hr.mono (by decide)) rfl qU (ak (iQ 0) ao)))) ao)))) (aF (aL nF)) bJ)
   (aD (bL uh jO.nd (bf CLeastOf (hr.mono (by decide)) vm Lg (ak (aq um) (ak (aq zA) ao))))
   (aD (bL ug jO.nd (bf CMostOf (hr.mono (by decide)) oZ El (ak (aq um) (ak (aq zA) ao))))
   (aD (cg (aW (cM hr.bM) (bI dO uU (hB "len" eX) PySem.boot_len fj (ak (aq iY) ao)) au (aU _)) (aF (aL (iB (fD (cM hr.bM) (bR eO (aq iY) au (fun _ _ => rfl)) aG (aU _)) (jq (jR fV fV (aq uh) (bR eO (aq iY) au (fun _ _ => rfl)) (aq ug)))))) bJ)
   (aD (gO (aq iY) (jo (n := 3) rfl (bh (cL uf jO.nd) (bh (cL ud jO.nd) (bh (cL uc jO.nd) eU)))))
   (aD (cg (aW (cM hr.bM) (aq uf) aG (aU _)) (aF (aL (JS fV fV fV (aq uh) (aq ud) (aq uc) (aq ug)))) bJ)
   (aD (bL t8 jO.nd (bf CMostOf (hr.mono (by decide)) oZ El (ak (aq um) (ak au ao))))
   (aF (aL (iB (fD (cM hr.bM) (aq uf) aG (aU _)) (iB (jR fV fV au (aq ud) (aq t8)) (jq (jR fV fV au (aq uc) (aq t8))))))))))))))), ?_⟩
  refine aK fun k hk => ?_
  cases t with
  | tup o e z ts =>
   rename_i p xs ds
   push_cast [e]
   refine ⟨aP (by decide), fun t2 ht2 => ⟨rfl, rfl, ?_⟩⟩
   rw [aaj]
   have s1 := aA (o := HO.tup [V.int 2, V.int 3]) ht2
   have e1 := s1 _ _ e
   have ts1 := ts.same s1
   generalize upd H t2 (HO.tup [V.int 2, V.int 3]) = H1 at s1 e1 ts1 |-
   have bw := pL hw1 hw2 hs
   have bw0 : wl w 0 = 0 := by unfold wl; rw [Int.mul_zero]; rfl
   by_cases h2 : xs.length = 2
   ·rw [h2, if_neg (by decide)]
    obtain ⟨x, y, d, dy, rfl, rfl, tx, ty⟩ := ts1.two h2
    rw [Kw] at q
    subst hk
    refine aK fun k hk => ?_
    push_cast
    refine eH fun R hR => ?_
    push_cast [e1]
    refine ⟨by decide, fun sl hsl => ?_⟩
    have s2 := aA (o := HO.tup [y]) hsl
    rw [show j8 [x, y] (some 1) none = [y] from rfl]
    refine jF bO (fun τ => ∃ o1, τ = [o1]) hR (aM.cons (ty.same s2) .nil) aB (by show 1 <= 1000000; decide) ⟨none, rfl⟩ ?_ ?_
    ·rintro x1 d1 τ H3 Qn _ s3 t3 ⟨o1, rfl⟩ qn
     push_cast
     exact ⟨x1, ok, d1, rfl, t3, qn _ _ ⟨_, rfl⟩ (Same.refl _)⟩
    ·intro H3 l s3 hl
     have s5 := s3.trans (aA (o := HO.lst (([dy].map bO).map V.bl)) hl)
     have e5 : upd H3 l (HO.lst (([dy].map bO).map V.bl)) l = _ := aB
     generalize upd H3 l (HO.lst (([dy].map bO).map V.bl)) = H5 at s5 e5 |-
     push_cast [e5]
     refine ⟨[dy].map bO, rfl, ?_⟩
     have s4 := (s1.trans s2).trans s5
     have e4 := (s2.trans s5) _ _ e1
     have tx4 := tx.same (s2.trans s5)
     rw [show ([dy].map bO).all id = bO dy by simp]
     have hf : ∀ H', Same H H' -> bO dy = false -> Q (.bl false) H' := fun H' sH hn => by
      have := q H' sH
      rw [hn, Bool.false_and] at this
      exact this
     cases ty with
     | int a =>
      rw [show bO (.int a) = true from rfl, if_neg (by decide)]
      subst hk
      rw [show (bO (.int a) && (gQ d "is" && inB w s a)) = (gQ d "is" && inB w s a) from rfl] at q
      push_cast [e4]
      refine ⟨w, s, rfl, hw1, hw2, hs, ?_⟩
      push_cast [e4]
      refine ⟨w, s, rfl, hw1, hw2, hs, ?_⟩
      push_cast [e4]
      refine xO tx4 ?_
      have qq := q _ s4
      push_cast [e4]
      cases hsd : gQ d "is" with
      | true =>
       rw [hsd, Bool.true_and] at qq
       rw [if_pos rfl]
       unfold inB at qq
       split
       ·rename_i c
        rw [decide_eq_true c, Bool.true_and] at qq
        rw [show decide (a <= wl w s + 2 ^ w.toNat - 1) = decide (a < wl w s + 2 ^ w.toNat) from decide_eq_decide.mpr (by omega)]
        exact qq
       ·rename_i c
        rw [decide_eq_false c, Bool.false_and] at qq
        exact qq
      | false =>
       rw [hsd, Bool.false_and] at qq
       rw [if_neg (by decide)]
       exact qq
     | _ => exact hf _ s4 rfl
   by_cases h3 : xs.length = 3
   ·rw [h3, if_neg (by decide)]
    obtain ⟨x, y, y2, d, dy, dz, rfl, rfl, tx, ty, tz⟩ := ts1.three h3
    rw [Kv] at q
    subst hk
    refine aK fun k hk => ?_
    push_cast
    refine eH fun R hR => ?_
    push_cast [e1]
    refine ⟨by decide, fun sl hsl => ?_⟩
    have s2 := aA (o := HO.tup [y, y2]) hsl
    rw [show j8 [x, y, y2] (some 1) none = [y, y2] from rfl]
    refine jF bO (fun τ => ∃ o1, τ = [o1]) hR (aM.cons (ty.same s2) (.cons (tz.same s2) .nil)) aB (by show 2 <= 1000000; decide) ⟨none, rfl⟩ ?_ ?_
    ·rintro x1 d1 τ H3 Qn _ s3 t3 ⟨o1, rfl⟩ qn
     push_cast
     exact ⟨x1, ok, d1, rfl, t3, qn _ _ ⟨_, rfl⟩ (Same.refl _)⟩
    ·intro H3 l s3 hl
     have s5 := s3.trans (aA (o := HO.lst (([dy, dz].map bO).map V.bl)) hl)
     have e5 : upd H3 l (HO.lst (([dy, dz].map bO).map V.bl)) l = _ := aB
     generalize upd H3 l (HO.lst (([dy, dz].map bO).map V.bl)) = H5 at s5 e5 |-
     push_cast [e5]
     refine ⟨[dy, dz].map bO, rfl, ?_⟩
     have s4 := (s1.trans s2).trans s5
     have e4 := (s2.trans s5) _ _ e1
     have tx4 := tx.same (s2.trans s5)
     rw [show ([dy, dz].map bO).all id = (bO dy && bO dz) by simp]
     have hf : ∀ H', Same H H' -> (bO dy && bO dz) = false -> Q (.bl false) H' := fun H' sH hn => by
      have := q H' sH
      rw [hn, Bool.false_and] at this
      exact this
     cases ty with
     | int a =>
      cases tz with
      | int b =>
       rw [show (bO (.int a) && bO (.int b)) = true from rfl, if_neg (by decide)]
       subst hk
       replace q : ∀ H', Same H H' -> Q (.bl ((gQ d "from" && (inB w s a && inB w s b && decide (a <= b))) || (gQ d "bits" && (upB w a && upB w b)))) H' := q
       have qq := q _ s4
       push_cast [e4]
       refine ⟨w, s, rfl, hw1, hw2, hs, ?_⟩
       push_cast [e4]
       refine ⟨w, s, rfl, hw1, hw2, hs, ?_⟩
       push_cast [e4]
       rw [if_neg (by decide)]
       refine xO tx4 ?_
       push_cast
       cases hsd : gQ d "from" with
       | true =>
        rw [hsd, JB hsd, Bool.false_and, Bool.or_false, Bool.true_and] at qq
        rw [if_pos rfl]
        unfold inB at qq
        split
        ·rename_i c1
         split
         ·rename_i c2
          rw [show decide (b <= wl w s + 2 ^ w.toNat - 1) = (decide (wl w s <= a) && decide (a < wl w s + 2 ^ w.toNat) && (decide (wl w s <= b) && decide (b < wl w s + 2 ^ w.toNat)) && decide (a <= b)) by
           rw [Bool.eq_iff_iff]
           simp only [Bool.and_eq_true, decide_eq_true_eq]
           omega]
          exact qq
         ·rename_i c2
          rw [decide_eq_false c2, Bool.and_false] at qq
          exact qq
        ·rename_i c1
         rw [decide_eq_false c1, Bool.false_and, Bool.false_and, Bool.false_and] at qq
         exact qq
       | false =>
        rw [hsd, Bool.false_and, Bool.false_or] at qq
        rw [if_neg (by decide)]
        refine ⟨w, 0, rfl, hw1, hw2, .inl rfl, ?_⟩
        push_cast [bw0]
        refine xO tx4 ?_
        push_cast
        cases hsb : gQ d "bits" with
        | true =>
         rw [hsb, Bool.true_and] at qq
         rw [if_pos rfl]
         unfold upB at qq
         split
         ·rename_i c1
          split
          ·rename_i c2
           split
           ·rename_i c3
            rw [show decide (b <= 0 + 2 ^ w.toNat - 1) = (decide (0 <= a) && decide (a < 2 ^ w.toNat) && (decide (0 <= b) && decide (b < 2 ^ w.toNat))) by
             rw [Bool.eq_iff_iff]
             simp only [Bool.and_eq_true, decide_eq_true_eq]
             omega]
            exact qq
           ·rename_i c3
            rw [decide_eq_false c3, Bool.false_and, Bool.and_false] at qq
            exact qq
          ·rename_i c2
           rw [decide_eq_false (show ¬ a < 2 ^ w.toNat by omega), Bool.and_false, Bool.false_and] at qq
           exact qq
         ·rename_i c1
          rw [decide_eq_false c1, Bool.false_and, Bool.false_and] at qq
          exact qq
        | false =>
         rw [hsb, Bool.false_and] at qq
         rw [if_neg (by decide)]
         exact qq
      | _ => exact hf _ s4 rfl
     | _ => exact hf _ s4 (by cases dz <;> rfl)
   ·rw [decide_eq_false h2, decide_eq_false h3, if_pos (by decide)]
    have hl := ts.length
    have qq := q _ s1
    rw [DP (by omega) (by omega)] at qq
    exact qq
  | lst o e z ts => push_cast [e]; exact q _ (Same.refl _)
  | _ => push_cast; exact q _ (Same.refl _)
abbrev bV : Stmt := top 18
theorem rB : bF ["word", "figures"] ["word"] (aj bV) := ⟨rfl, rfl, rfl, by decide +kernel, rfl, by decide +kernel, by decide +kernel⟩
abbrev N13_ : List Str := ["word", "figures"]
theorem gF : NM_ N13_ bV 0 "word" := .of (by decide +kernel)
theorem jg : NM_ N13_ bV 1 "figures" := .of (by decide +kernel)
theorem mG : GI_ bV "MOST_FIGURES" := by decide +kernel
theorem vh : GI_ bV "all" := by decide +kernel
theorem vg : GI_ bV "int" := by decide +kernel
theorem vf : GI_ bV "len" := by decide +kernel
theorem gn : Bn "number_from" := ⟨by decide +kernel, by decide +kernel⟩
abbrev cJ : Stmt := top 19
theorem qm : bF ["words", "numbers"] ["words"] (aj cJ) := ⟨rfl, rfl, rfl, by decide +kernel, rfl, by decide +kernel, by decide +kernel⟩
abbrev N14_ : List Str := ["words", "numbers"]
theorem wQ : NM_ N14_ cJ 0 "words" := .of (by decide +kernel)
theorem jZ : NM_ N14_ cJ 1 "numbers" := .of (by decide +kernel)
theorem yJ : Bn "numbers_from" := ⟨by decide +kernel, by decide +kernel⟩
theorem Vd (hB : ∀ x : Str, x ∈ BLs -> mg x = none) {ckFigures ckMostFigures : Tok} (cgFigures : mg "FIGURES" = some (.str "0123456789" ckFigures)) (cgMostFigures : mg "MOST_FIGURES" = some (.int 20 ckMostFigures)) (F : Fun K "number_from" "number_from" bV f fd) : dh P w K mg base CX0 1 f fd ["word"] nU := by
 refine F.okq rB (fun vs H Q E h => ?_) (fun cdv A outer s H vs Q E hr h => ?_)
 ·obtain ⟨x, rfl, _⟩ := h
  rfl
 ·obtain ⟨x, rfl, hx, q⟩ := h
  refine ⟨_, (aD (bL jg rB.nd (iR (cW (iz PySem.F.slot_str_startswith PySem.F.type_str_startswith Kf (aq gF) (ak aG ao))) (dG MK (aq gF) (dZ au) d7) (aq gF)))
   (aD (cg (lO (fP (fQ (rF fV fV au (bI zN vf (hB "len" eX) PySem.boot_len fj (ak (aq jg) ao)) (kh (v := V.int 20) mG cgMostFigures ⟨_, rfl⟩ yK))) (fO (fQ (cW (bI (gY rfl) vh (hB "all" oR) PyProof.Rows.Boot.«all» pI (ak (fK (NX := ["word", "figures"]) (kX := (aj bV).names) ["sign"] [none] rfl rfl ⟨rfl, by decide +kernel, by decide +kernel, by decide +kernel, by decide +kernel⟩ rfl (Og (aq jg)) (fun _ _ _ _ _ => (dM 0 (show List.Nodup (["sign"] : List Str) from by decide +kernel) rfl (Or.inl rfl))) (fun _ _ _ _ _ => fG) (fun _ _ _ _ _ => (fD Ys (iQ 0) (kh (v := V.str "0123456789") rfl cgFigures ⟨_, rfl⟩ Lh) (by with_unfolding_all rfl)))) ao))))))) (aF (aL cH)) bJ)
   (aD (cg (lO (Ft (aW (cM hr.bM) (bR Iv (aq jg) au (fun _ _ => rfl)) aG (aU _)) (Ay (aW (iW hr.bM) (aq gF) aG (aU _))))) (aF (aL cH)) bJ)
   (aF (aL (jQ zO vg (hB "int" oO) boot_int pH (ak (aq gF) ao))))))), ?_⟩
  refine aK fun k hk => ?_
  push_cast [rdT]
  rw [show (("-" : Str)) = ⟨#[45]⟩ by decide +kernel]
  obtain ⟨fg, hfg⟩ : ∃ fg : Str, fg = if Txt.startswith x ⟨#[45]⟩ = true then Txt.slice x (some 1) none else x := ⟨_, rfl⟩
  have hfl : eG x = fg.cps.toList := by rw [hfg]; exact Je
  have hflen : fg.length <= sizeLine := by
   rw [hfg]
   split
   ·exact Nat.le_trans (Txt.slice_le x _ _) hx
   ·exact hx
  have hlen : fg.length = (eG x).length := by rw [hfl]; simp [Str.length]
  suffices go : k [some (V.str x), some (V.str fg)] H by
   rw [hfg] at go
   split at go
   ·rename_i c
    rw [if_pos c]
    exact ⟨hx, go⟩
   ·rename_i c
    rw [if_neg c]
    exact go
  subst hk
  refine aK fun k hk => ?_
  push_cast [rdT]
  have hno : ∀ {H' : Hp}, Same H H' -> aY x = false -> Q V.non H' := fun {H'} s' z => by
   have := q H' s'
   unfold eN at this
   rw [if_neg (by rw [z]; decide)] at this
   exact this
  refine ⟨hflen, ?_⟩
  by_cases c1 : (1 : Int) <= fg.length
  ·rw [if_pos c1]
   by_cases c2 : (fg.length : Int) <= 20
   ·rw [if_neg (by rw [decide_eq_true c2]; decide)]
    refine eH fun R hR => ?_
    push_cast [rdT]
    obtain ⟨Pc, hPc⟩ : ∃ Pv : Nat -> List V -> L2.St -> Hp -> Prop, Pv = fun (i : Nat) acc τ H' => ∃ (o1 : Option V), H' = H /\ acc = ((fg.cps.toList.take i).map iM).map V.bl /\ τ = [o1] := ⟨_, rfl⟩
    refine Rv hR hflen Pc (by rw [hPc]; exact ⟨none, rfl, rfl, rfl⟩) ?_ ?_ ?_
    ·intro i acc τ H1 pc
     rw [hPc] at pc
     obtain ⟨_, _, rfl, _⟩ := pc
     rw [List.length_map, List.length_map]
     exact List.length_take_le _ _
    ·intro i c acc τ H1 hc pc
     rw [hPc] at pc
     obtain ⟨_, rfl, rfl, rfl⟩ := pc
     push_cast [rdT]
     rw [Rk, hPc]
     refine ⟨_, rfl, ?_, rfl⟩
     rw [take_snoc (show fg.cps.toList[i]? = some c by rw [Array.getElem?_toList]; exact hc), List.map_append, List.map_append]
     rfl
    ·intro acc τ H1 d pc hd
     rw [hPc] at pc
     obtain ⟨_, rfl, rfl, rfl⟩ := pc
     rw [List.take_of_length_le (show fg.cps.toList.length <= fg.length by simp [Str.length])]
     have s1 := aA (o := HO.lst ((fg.cps.toList.map iM).map V.bl)) hd
     have e1 : upd H1 d (HO.lst ((fg.cps.toList.map iM).map V.bl)) d = _ := aB
     generalize upd H1 d (HO.lst ((fg.cps.toList.map iM).map V.bl)) = H2 at s1 e1 |-
     push_cast [e1]
     refine ⟨_, rfl, ?_⟩
     have hall : (fg.cps.toList.map iM).all id = (eG x).all iM := by rw [hfl, List.all_map]; rfl
     rw [hall]
     cases c3 : (eG x).all iM with
     | false =>
      rw [if_pos (show (!false) = true from rfl)]
      refine hno s1 ?_
      unfold aY
      rw [c3, Bool.and_false]
      rfl
     | true =>
      rw [if_neg (show ¬ (!true) = true by decide)]
      subst hk
      refine aK fun k hk => ?_
      push_cast [rdT]
      obtain ⟨c0, r0, hcr⟩ : ∃ c r, fg.cps.toList = c :: r := by
       cases e : fg.cps.toList with
       | nil =>
        rw [hfl, e] at hlen
        have : fg.length = 0 := hlen
        omega
       | cons c r => exact ⟨c, r, rfl⟩
      refine ⟨hflen, c0, cT (j := 0) (by rw [hcr]; rfl), ?_⟩
      have hc0 : ((⟨#[c0]⟩ : Str) = "0") ↔ (eG x).head? = some 48 := by
       rw [hfl, hcr, List.head?_cons]
       constructor
       ·intro z
        have := congrArg (fun y : Str => y.cps.toList.head?) z
        exact this
       ·intro z
        cases z
        decide +kernel
      have last : aY x = true -> k [some (V.str x), some (V.str fg)] H2 := fun z => by
       subst hk
       push_cast [rdT]
       have := q H2 s1
       unfold eN at this
       rw [if_pos z] at this
       exact ⟨_, (nY z).1, Nat.le_trans (nY z).2 (by decide), this⟩
      have l1 : 1 <= (eG x).length := by omega
      have l2 : (eG x).length <= 20 := by omega
      by_cases c4 : (⟨#[c0]⟩ : Str) = "0"
      ·rw [if_pos c4]
       by_cases c5 : x = "0"
       ·rw [if_neg (by rw [decide_eq_true c5]; decide)]
        refine last ?_
        unfold aY
        rw [decide_eq_true l1, decide_eq_true l2, c3, decide_eq_false (show ¬ x ≠ "0" from fun z => z c5), Bool.and_false]
        rfl
       ·rw [if_pos (by rw [decide_eq_false c5]; decide)]
        refine hno s1 ?_
        unfold aY
        rw [decide_eq_true (hc0.mp c4), decide_eq_true c5]
        simp
      ·rw [if_neg c4]
       refine last ?_
       unfold aY
       rw [decide_eq_true l1, decide_eq_true l2, c3, decide_eq_false (fun z => c4 (hc0.mpr z))]
       rfl
   ·rw [if_pos (by rw [decide_eq_false c2]; decide)]
    refine hno (Same.refl _) ?_
    unfold aY
    rw [decide_eq_false (show ¬ (eG x).length <= 20 by omega), Bool.and_false]
    rfl
  ·rw [if_neg c1]
   refine hno (Same.refl _) ?_
   unfold aY
   rw [decide_eq_false (show ¬ 1 <= (eG x).length by omega)]
   rfl
theorem O7 (hB : ∀ x : Str, x ∈ BLs -> mg x = none) (CNumberFrom : Cal P w K mg base "number_from" 1 ["word"] nU) (F : Fun K "numbers_from" "numbers_from" cJ f fd) : dh P w K mg base CX0 2 f fd ["words"] Hs := by
 refine F.okq qm (fun vs H Q E h => ?_) (fun cdv A outer s H vs Q E hr h => ?_)
 ·obtain ⟨a, ts, rfl, _⟩ := h
  rfl
 ·obtain ⟨a, ts, rfl, ea, hz, ht, q1, q2⟩ := h
  refine ⟨_, (aD (vz (NX := ["words", "numbers"]) (kX := (aj cJ).names) ["word"] [none] jZ qm.nd rfl rfl ⟨rfl, by decide +kernel, by decide +kernel, by decide +kernel, by decide +kernel⟩ rfl (dw (aq wQ)) (fun _ _ _ _ _ => (dM 0 (show List.Nodup (["word"] : List Str) from by decide +kernel) rfl (Or.inl rfl))) (fun _ _ _ _ _ => fG) (fun _ _ _ _ _ => (bf CNumberFrom (hr.mono (by decide)) rfl gn (ak (iQ 0) ao))))
   (aF (aL (iR (aW Fx cH (aq jZ) (by with_unfolding_all rfl)) cH (aq jZ))))), ?_⟩
  refine aK fun k hk => ?_
  push_cast
  refine eH fun R hR => ?_
  push_cast [ea]
  obtain ⟨Pc, hPc⟩ : ∃ Pv : Nat -> List V -> L2.St -> Hp -> Prop, Pv = fun (i : Nat) acc τ H' => ∃ (o1 : Option V), Same H H' /\ acc = (ts.take i).map eN /\ τ = [o1] := ⟨_, rfl⟩
  refine qQ hR (xs := ts.map V.str) (aP (by rw [List.length_map]; exact hz)) Pc (by rw [hPc]; exact ⟨none, Same.refl _, rfl, rfl⟩) ?_ ?_ ?_ ?_
  ·intro i acc τ H1 pc
   rw [hPc] at pc
   obtain ⟨_, _, rfl, _⟩ := pc
   rw [List.length_map]
   exact List.length_take_le _ _
  ·intro i acc τ H1 pc
   rw [hPc] at pc
   obtain ⟨_, s1, _⟩ := pc
   exact SqL.of (s1 _ _ ea)
  ·intro i x acc τ H1 hx pc
   rw [hPc] at pc
   obtain ⟨_, s1, rfl, rfl⟩ := pc
   rw [List.getElem?_map] at hx
   obtain ⟨t, ht1, rfl⟩ := Option.map_eq_some_iff.mp hx
   push_cast
   refine ⟨t, rfl, ht t (List.mem_of_getElem? ht1), fun H2 s2 => ?_⟩
   rw [hPc]
   refine ⟨_, s1.trans s2, ?_, rfl⟩
   rw [take_snoc ht1, List.map_append]
   rfl
  ·intro acc τ H1 d pc hd
   rw [hPc] at pc
   obtain ⟨_, s1, rfl, rfl⟩ := pc
   rw [List.length_map, List.take_length]
   have s2 := s1.trans (aA (o := HO.lst (ts.map eN)) hd)
   have e2 : upd H1 d (HO.lst (ts.map eN)) d = _ := aB
   have hd0 : H d = none := s1.none hd
   generalize upd H1 d (HO.lst (ts.map eN)) = H2 at s2 e2 |-
   subst hk
   push_cast [e2]
   refine ⟨rfl, zj ts, ?_⟩
   split
   ·rename_i c
    exact q1 _ s2 ((vB ts).mp c)
   ·rename_i c
    have hok : ∀ t ∈ ts, aY t = true := fun t ht => by
     cases e : aY t with
     | true => rfl
     | false => exact absurd ((vB ts).mpr ⟨t, ht, e⟩) c
    exact q2 d _ hd0 s2 hok (by rw [e2, zf hok])
abbrev dj : Stmt := top 20
theorem gK : bF ["word", "one", "dots", "other", "sign"] ["word"] (aj dj) := ⟨rfl, rfl, rfl, by decide +kernel, rfl, by decide +kernel, by decide +kernel⟩
abbrev N15_ : List Str := ["word", "one", "dots", "other", "sign"]
theorem oH : NM_ N15_ dj 0 "word" := .of (by decide +kernel)
theorem kI : NM_ N15_ dj 1 "one" := .of (by decide +kernel)
theorem uP : NM_ N15_ dj 2 "dots" := .of (by decide +kernel)
theorem kE : NM_ N15_ dj 3 "other" := .of (by decide +kernel)
theorem uO : NM_ N15_ dj 4 "sign" := .of (by decide +kernel)
theorem cZ : GI_ dj "number_from" := by decide +kernel
theorem GZ : Bn "item_from" := ⟨by decide +kernel, by decide +kernel⟩
theorem Pb (hB : ∀ x : Str, x ∈ BLs -> mg x = none) (CNumberFrom : Cal P w K mg base "number_from" 1 ["word"] nU) (F : Fun K "item_from" "item_from" dj f fd) : dh P w K mg base CX0 2 f fd ["word"] Mw := by
 refine F.okq gK (fun vs H Q E h => ?_) (fun cdv A outer s H vs Q E hr h => ?_)
 ·obtain ⟨x, ok, rfl, _⟩ := h
  rfl
 ·obtain ⟨x, ok, rfl, hl, hn, q⟩ := h
  refine ⟨_, (aD (gO (iz PySem.F.slot_str_partition PySem.F.type_str_partition Ik (aq oH) (ak aG ao)) (jo (n := 3) rfl (bh (cL kI gK.nd) (bh (cL uP gK.nd) (bh (cL kE gK.nd) eU)))))
   (aD (cg (HY (aq uP)) (aF (aL (bY (ak aG (ak (bf CNumberFrom (hr.mono (by decide)) cZ gn (ak (aq kI) ao)) (ak (bf CNumberFrom (hr.mono (by decide)) cZ gn (ak (aq kE) ao)) ao)))))) bJ)
   (aD (gO (iz PySem.F.slot_str_partition PySem.F.type_str_partition Ik (aq oH) (ak aG ao)) (jo (n := 3) rfl (bh (cL kI gK.nd) (bh (cL uO gK.nd) (bh (cL kE gK.nd) eU)))))
   (aD (cg (HY (aq uO)) (aF (aL (bY (ak aG (ak (bf CNumberFrom (hr.mono (by decide)) cZ gn (ak (aq kI) ao)) (ak (bf CNumberFrom (hr.mono (by decide)) cZ gn (ak (aq kE) ao)) ao)))))) bJ)
   (aF (aL (bY (ak aG (ak (bf CNumberFrom (hr.mono (by decide)) cZ gn (ak (aq oH) ao)) ao))))))))), ?_⟩
  refine aK fun k hk => ?_
  push_cast [rdF]
  refine ⟨by decide +kernel, hl, fun p hp => ?_⟩
  have s1 := aA (o := HO.tup ((rH x "..").map V.str)) hp
  generalize upd H p (HO.tup ((rH x "..").map V.str)) = H1 at s1 |-
  have e0 : ((Str.empty.length : Int) != 0) = false := by decide +kernel
  have ed : ((((".." : Str).length : Nat) : Int) != 0) = true := by decide +kernel
  have ea : ((((("&" : Str).length : Nat) : Int) != 0)) = true := by decide +kernel
  have z0 : Str.empty.length <= sizeLine := by decide
  cases h1 : jt x ".." with
  | some ab =>
   obtain ⟨a, b⟩ := ab
   rw [CT h1]
   have hlen := vI h1
   push_cast [rdF, List.map_cons, List.map_nil]
   subst hk
   refine aK fun k hk => ?_
   push_cast [rdG, ed]
   refine ⟨by decide +kernel, ?_⟩
   refine ⟨_, rfl, Nat.le_trans hlen.1 hl, fun H3 s3 => ?_⟩
   refine ⟨_, rfl, Nat.le_trans hlen.2 hl, fun H4 s4 => ?_⟩
   have s5 := s1.trans (s3.trans s4)
   refine ⟨aP (by decide), fun p3 hp3 => q _ _ (s5.trans (aA hp3)) ?_⟩
   unfold dX
   rw [Bo h1]
   exact .tup (hn _ _ s5 hp3) aB (by show 3 <= 1000000; decide) (.cons (.str _) (.cons (gU a) (.cons (gU b) .nil)))
  | none =>
   rw [CV h1]
   push_cast [rdF, List.map_cons, List.map_nil]
   subst hk
   refine aK fun k hk => ?_
   push_cast [rdG, e0]
   refine ⟨z0, ?_⟩
   subst hk
   refine aK fun k hk => ?_
   push_cast [rdG]
   refine ⟨by decide +kernel, hl, fun p2 hp2 => ?_⟩
   have s2 := s1.trans (aA (o := HO.tup ((rH x "&").map V.str)) hp2)
   generalize upd H1 p2 (HO.tup ((rH x "&").map V.str)) = H2 at s2 |-
   cases h2 : jt x "&" with
   | some ab =>
    obtain ⟨a, b⟩ := ab
    rw [CT h2]
    have hlen := vI h2
    push_cast [rdG, List.map_cons, List.map_nil]
    subst hk
    refine aK fun k hk => ?_
    push_cast [rdG, ea]
    refine ⟨by decide +kernel, ?_⟩
    refine ⟨_, rfl, Nat.le_trans hlen.1 hl, fun H3 s3 => ?_⟩
    refine ⟨_, rfl, Nat.le_trans hlen.2 hl, fun H4 s4 => ?_⟩
    have s5 := s2.trans (s3.trans s4)
    refine ⟨aP (by decide), fun p3 hp3 => q _ _ (s5.trans (aA hp3)) ?_⟩
    unfold dX
    rw [Gj h1 h2]
    exact .tup (hn _ _ s5 hp3) aB (by show 3 <= 1000000; decide) (.cons (.str _) (.cons (gU a) (.cons (gU b) .nil)))
   | none =>
    rw [CV h2]
    push_cast [rdG, List.map_cons, List.map_nil]
    subst hk
    refine aK fun k hk => ?_
    push_cast [rdG, e0]
    refine ⟨z0, ?_⟩
    subst hk
    push_cast [rdG]
    refine ⟨_, rfl, hl, fun H3 s3 => ?_⟩
    have s5 := s2.trans s3
    refine ⟨aP (by decide), fun p3 hp3 => q _ _ (s5.trans (aA hp3)) ?_⟩
    unfold dX
    rw [Gi h1 h2]
    exact .tup (hn _ _ s5 hp3) aB (by show 2 <= 1000000; decide) (.cons (.str _) (.cons (gU x) .nil))
abbrev cP : Stmt := top 21
theorem jN : bF ["row", "words", "numbers", "width", "sign"] ["row"] (aj cP) := ⟨rfl, rfl, rfl, by decide +kernel, rfl, by decide +kernel, by decide +kernel⟩
abbrev N16_ : List Str := ["row", "words", "numbers", "width", "sign"]
theorem Dp : NM_ N16_ cP 0 "row" := .of (by decide +kernel)
theorem oG : NM_ N16_ cP 1 "words" := .of (by decide +kernel)
theorem kj : NM_ N16_ cP 2 "numbers" := .of (by decide +kernel)
theorem oF : NM_ N16_ cP 3 "width" := .of (by decide +kernel)
theorem oE : NM_ N16_ cP 4 "sign" := .of (by decide +kernel)
theorem uJ : GI_ cP "is_kind" := by decide +kernel
theorem yw : GI_ cP "len" := by decide +kernel
theorem nH : GI_ cP "numbers_from" := by decide +kernel
theorem GX : Bn "kind_from" := ⟨by decide +kernel, by decide +kernel⟩
abbrev dm : Stmt := top 22
theorem qI : bF ["width", "sign", "row", "words", "items"] ["width", "sign", "row"] (aj dm) := ⟨rfl, rfl, rfl, by decide +kernel, rfl, by decide +kernel, by decide +kernel⟩
abbrev N17_ : List Str := ["width", "sign", "row", "words", "items"]
theorem Dq : NM_ N17_ dm 2 "row" := .of (by decide +kernel)
theorem oK : NM_ N17_ dm 3 "words" := .of (by decide +kernel)
theorem oJ : NM_ N17_ dm 4 "items" := .of (by decide +kernel)
theorem yD : GI_ dm "all" := by decide +kernel
theorem G3 : Bn "case_from" := ⟨by decide +kernel, by decide +kernel⟩
theorem Pa (hB : ∀ x : Str, x ∈ BLs -> mg x = none) (CIsKind : Cal P w K mg base "is_kind" 2 ["width", "sign"] Hw) (CNumbersFrom : Cal P w K mg base "numbers_from" 2 ["words"] Hs) (F : Fun K "kind_from" "kind_from" cP f fd) : dh P w K mg base CX0 3 f fd ["row"] Mu := by
 refine F.okq jN (fun vs H Q E h => ?_) (fun cdv A outer s H vs Q E hr h => ?_)
 ·obtain ⟨x, rfl, _⟩ := h
  rfl
 ·obtain ⟨x, rfl, hx, qn, qy⟩ := h
  refine ⟨_, (aD (bL oG jN.nd (iz PySem.F.slot_str_split PySem.F.type_str_split gG (aq Dp) (ak aG ao)))
   (aD (bL kj jN.nd (bf CNumbersFrom (hr.mono (by decide)) nH yJ (ak (dG uX (aq oG) (dZ au) d7) ao)))
   (aD (cg (lO (fP (aW (iW hr.bM) (bR eO (aq oG) au (fun _ _ => rfl)) aG (aU _)) (fP (aW lg (aq kj) cH (aU _)) (fO (aW (iW hr.bM) (bI dO yw (hB "len" eX) PySem.boot_len fj (ak (aq kj) ao)) au (aU _)))))) (aF (aL cH)) bJ)
   (aD (gO (aq kj) (Ba (n := 2) rfl (bh (cL oF jN.nd) (bh (cL oE jN.nd) eU))))
   (aF (aL (iR (cW (bf CIsKind (hr.mono (by decide)) uJ RK (ak (aq oF) (ak (aq oE) ao)))) (bY (ak (aq oF) (ak (aq oE) ao))) cH))))))), ?_⟩
  obtain ⟨w0, ts, hsp⟩ := nT x
  have hwl := pK x
  rw [hsp, List.length_cons] at hwl
  have hxl : x.length <= sizeLine := by rw [sizeLine_eq]; omega
  have htl : ∀ t ∈ w0 :: ts, t.length <= sizeLine := fun t ht => by
   rw [<- hsp, qj] at ht
   exact Nat.le_trans (lR x 32 t ht) hxl
  refine aK fun k hk => ?_
  push_cast [rdG]
  rw [hsp]
  refine ⟨by decide +kernel, hxl, aP (by rw [List.length_cons]; omega), fun p hp => ?_⟩
  have s1 := aA (o := HO.lst ((w0 :: ts).map V.str)) hp
  have e1 : upd H p (HO.lst ((w0 :: ts).map V.str)) p = some (.lst (V.str w0 :: ts.map V.str)) := aB
  generalize upd H p (HO.lst ((w0 :: ts).map V.str)) = H1 at s1 e1 |-
  subst hk
  refine aK fun k hk => ?_
  have h0 : atI (V.str w0 :: ts.map V.str) 0 = some (V.str w0) := cT (j := 0) rfl
  have hcut : j8 (V.str w0 :: ts.map V.str) (some 1) none = ts.map V.str := (jm ((w0 :: ts).map V.str) 1 (by rw [List.length_map, List.length_cons]; omega)).trans rfl
  push_cast [rdG, e1, hcut]
  intro p2 hp2
  have s2 := s1.trans (aA (o := HO.lst (ts.map V.str)) hp2)
  have e2 : upd H1 p2 (HO.lst (ts.map V.str)) p2 = _ := aB
  have e1b : upd H1 p2 (HO.lst (ts.map V.str)) p = _ := aA hp2 _ _ e1
  generalize upd H1 p2 (HO.lst (ts.map V.str)) = H2 at s2 e2 e1b |-
  have kn : ∀ {H' : Hp}, Same H H' -> (∀ a b, Txt.split x " " = [w0, a, b] -> ¬ (w0 = "choice" /\ aY a = true /\ aY b = true /\ jC (.int (cU a)) (.int (cU b)) = true)) -> Q V.non H' := fun {H'} s' hno => by
   refine qn ?_ H' s'
   unfold j4
   rw [hsp]
   match ts, hsp with
   | [], _ => rfl
   | [a], _ => rfl
   | [a, b], hsp => exact if_neg (hno a b hsp)
   | a :: b :: c :: r, _ => rfl
  refine ⟨p2, _, rfl, e2, by omega, fun t ht => htl t (List.mem_cons_of_mem _ ht), fun H3 s3 ⟨t, ht, z⟩ => ?_, fun p3 H3 hp3 s3 hall e3 => ?_⟩
  ·have e1c := s3 _ _ e1b
   have fin : Q V.non H3 := kn (s2.trans s3) fun a b hab hc => by
    rw [hsp] at hab
    injection hab with _ hab
    rw [hab] at ht
    simp only [List.mem_cons, List.not_mem_nil, or_false] at ht
    rcases ht with rfl | rfl
    ·rw [z] at hc; exact absurd hc.2.1 (by decide)
    ·rw [z] at hc; exact absurd hc.2.2.1 (by decide)
   subst hk
   refine aK fun k hk => ?_
   push_cast [rdG, e1c, h0]
   split
   ·exact fin
   ·exact fin
  have e1c := s3 _ _ e1b
  have s4 := s2.trans s3
  subst hk
  refine aK fun k hk => ?_
  push_cast [rdG, e1c, h0, e3]
  rw [List.length_map, List.length_map]
  by_cases c1 : w0 = "choice"
  ·by_cases c2 : ts.length = 2
   ·obtain ⟨a, b, rfl⟩ : ∃ a b, ts = [a, b] := by
     match ts, c2 with
     | [a, b], _ => exact ⟨a, b, rfl⟩
    rw [if_neg (by rw [decide_eq_true c1]; decide), if_neg (by rw [decide_eq_true (show (([a, b].length : Nat) : Int) = 2 from rfl)]; decide)]
    subst hk
    refine aK fun k hk => ?_
    replace e3 : H3 p3 = some (.lst [.int (cU a), .int (cU b)]) := e3
    push_cast [rdG, e3]
    subst hk
    push_cast [rdG]
    refine ⟨_, _, fun _ => True, .int (cU a), .int (cU b), rfl, .int _, .int _, ?_⟩
    push_cast [rdG]
    have ha := hall a (by simp)
    have hb := hall b (by simp)
    split
    ·rename_i c3
     refine ⟨aP (by decide), fun p4 hp4 => ?_⟩
     refine qy (cU a) (cU b) ?_ p4 _ (s4.trans (aA hp4)) aB
     unfold j4
     rw [hsp]
     exact if_pos ⟨c1, ha, hb, c3⟩
    ·rename_i c3
     refine kn s4 fun a' b' hab hc => ?_
     rw [hsp] at hab
     injection hab with _ hab
     injection hab with ha' hab
     injection hab with hb' _
     rw [ha', hb'] at c3
     exact c3 hc.2.2.2
   ·rw [if_neg (by rw [decide_eq_true c1]; decide), if_pos (by rw [decide_eq_false (show ¬ ((ts.length : Nat) : Int) = 2 by omega)]; decide)]
    refine kn s4 fun a b hab _ => c2 ?_
    rw [hsp] at hab
    injection hab with _ hab
    rw [hab]
    rfl
  ·rw [if_pos (by rw [decide_eq_false c1]; decide)]
   exact kn s4 fun a b hab hc => c1 hc.1
theorem Ph (hB : ∀ x : Str, x ∈ BLs -> mg x = none) (CIsItem : Cal P w K mg base "is_item" 2 ["width", "sign", "thing"] Hy) (CItemFrom : Cal P w K mg base "item_from" 2 ["word"] Mw) (F : Fun K "case_from" "case_from" dm f fd) : dh P w K mg base CX0 3 f fd ["width", "sign", "row"] Mx := by
 refine F.okq qI (fun vs H Q E h => ?_) (fun cdv A outer s H vs Q E hr h => ?_)
 ·obtain ⟨w, s, x, ok, rfl, _⟩ := h
  rfl
 ·obtain ⟨w, s, x, ok, rfl, h1, h2, h3, hx, hnew, qn, qy⟩ := h
  refine ⟨_, (aD (bL oK qI.nd (iz PySem.F.slot_str_split PySem.F.type_str_split gG (aq Dq) (ak aG ao)))
   (aD (vz (NX := ["width", "sign", "row", "words", "items"]) (kX := (aj dm).names) ["word"] [none] oJ qI.nd rfl rfl ⟨rfl, by decide +kernel, by decide +kernel, by decide +kernel, by decide +kernel⟩ rfl (dw (dG uX (aq oK) (dZ au) d7)) (fun _ _ _ _ _ => (dM 0 (show List.Nodup (["word"] : List Str) from by decide +kernel) rfl (Or.inl rfl))) (fun _ _ _ _ _ => fG) (fun _ _ _ _ _ => (bf CItemFrom (hr.mono (by decide)) rfl GZ (ak (iQ 0) ao))))
   (aD (cg (lO (fP (aW (iW hr.bM) (bR eO (aq oK) au (fun _ _ => rfl)) aG (aU _)) (fO (fQ (cW (bI (gY rfl) yD (hB "all" oR) PyProof.Rows.Boot.«all» pI (ak (fK (NX := ["width", "sign", "row", "words", "items"]) (kX := (aj dm).names) ["item", "width", "sign"] [none, some 0, some 1] rfl rfl ⟨rfl, by decide +kernel, by decide +kernel, by decide +kernel, by decide +kernel⟩ rfl (dw (aq oJ)) (fun _ _ _ _ _ => (dM 0 (show List.Nodup (["item", "width", "sign"] : List Str) from by decide +kernel) rfl (Or.inl rfl))) (fun _ _ _ _ _ => fG) (fun _ _ _ _ _ => (bf CIsItem (hr.mono (by decide)) rfl RL (ak (iQ 1) (ak (iQ 2) (ak (iQ 0) ao)))))) ao))))))) (aF (aL cH)) bJ)
   (aF (aL (aq oJ)))))), ?_⟩
  obtain ⟨w0, ts, hsp⟩ := nT x
  have hwl := pK x
  rw [hsp, List.length_cons] at hwl
  have hxl : x.length <= sizeLine := by rw [sizeLine_eq]; omega
  have htl : ∀ t ∈ w0 :: ts, t.length <= sizeLine := fun t ht => by
   rw [<- hsp, qj] at ht
   exact Nat.le_trans (lR x 32 t ht) hxl
  have hOk : jh w s x = (decide (w0 = "case") && (ts.map dX).all (bK w s)) := by unfold jh; rw [hsp]
  have hFD : jb x = .list (ts.map dX) := by unfold jb; rw [hsp]; rfl
  rw [hOk] at qn qy
  rw [hFD] at qy
  refine aK fun k hk => ?_
  push_cast [rdG]
  rw [hsp]
  refine ⟨by decide +kernel, hxl, aP (by rw [List.length_cons]; omega), fun p hp => ?_⟩
  have s1 := aA (o := HO.lst ((w0 :: ts).map V.str)) hp
  have e1 : upd H p (HO.lst ((w0 :: ts).map V.str)) p = some (.lst (V.str w0 :: ts.map V.str)) := aB
  generalize upd H p (HO.lst ((w0 :: ts).map V.str)) = H1 at s1 e1 |-
  subst hk
  refine aK fun k hk => ?_
  have h0 : atI (V.str w0 :: ts.map V.str) 0 = some (V.str w0) := cT (j := 0) rfl
  have hcut : j8 (V.str w0 :: ts.map V.str) (some 1) none = ts.map V.str := (jm ((w0 :: ts).map V.str) 1 (by rw [List.length_map, List.length_cons]; omega)).trans rfl
  push_cast [rdG]
  refine eH fun R hR => ?_
  push_cast [rdG, e1, hcut]
  intro p2 hp2
  have s2 := s1.trans (aA (o := HO.lst (ts.map V.str)) hp2)
  have e2 : upd H1 p2 (HO.lst (ts.map V.str)) p2 = _ := aB
  have e1b : upd H1 p2 (HO.lst (ts.map V.str)) p = _ := aA hp2 _ _ e1
  generalize upd H1 p2 (HO.lst (ts.map V.str)) = H2 at s2 e2 e1b |-
  have hn2 : uW ok H2 := hnew.same s2
  obtain ⟨Pc, hPc⟩ : ∃ Pv : Nat -> List V -> L2.St -> Hp -> Prop, Pv = fun (i : Nat) acc τ H' => ∃ (o1 : Option V), Same H2 H' /\ aM ok H' acc ((ts.take i).map dX) /\ τ = [o1] := ⟨_, rfl⟩
  refine qQ hR (xs := ts.map V.str) (aP (by rw [List.length_map]; omega)) Pc (by rw [hPc]; exact ⟨none, Same.refl _, .nil, rfl⟩) ?_ ?_ ?_ ?_
  ·intro i acc τ H3 pc
   rw [hPc] at pc
   obtain ⟨_, _, tt, _⟩ := pc
   rw [tt.length, List.length_map]
   exact List.length_take_le _ _
  ·intro i acc τ H3 pc
   rw [hPc] at pc
   obtain ⟨_, s3, _⟩ := pc
   exact SqL.of (s3 _ _ e2)
  ·intro i v acc τ H3 hv pc
   rw [hPc] at pc
   obtain ⟨_, s3, tt, rfl⟩ := pc
   rw [List.getElem?_map] at hv
   obtain ⟨t, ht, rfl⟩ := Option.map_eq_some_iff.mp hv
   push_cast
   refine ⟨t, ok, rfl, htl t (List.mem_cons_of_mem _ (List.mem_of_getElem? ht)), hn2.same s3, fun v4 H4 s4 t4 => ?_⟩
   rw [hPc]
   refine ⟨_, s3.trans s4, ?_, rfl⟩
   rw [take_snoc ht, List.map_append]
   exact (tt.same s4).append (.cons t4 .nil)
  ·intro acc τ H3 d pc hd
   rw [hPc] at pc
   obtain ⟨_, s3, tt, rfl⟩ := pc
   rw [List.length_map, List.take_length] at tt
   have s4 := s3.trans (aA (o := HO.lst acc) hd)
   have e4 : upd H3 d (HO.lst acc) d = _ := aB
   have ts4 := tt.same (aA (o := HO.lst acc) hd)
   have od : ok d := hn2 _ _ s3 hd
   generalize upd H3 d (HO.lst acc) = H4 at s4 e4 ts4 |-
   have e1d := s4 _ _ e1b
   have hal : acc.length <= 1000000 := by rw [tt.length, List.length_map]; omega
   subst hk
   push_cast [rdG, e1d, h0]
   by_cases c1 : w0 = "case"
   ·rw [if_neg (by rw [decide_eq_true c1]; decide)]
    rw [decide_eq_true c1, Bool.true_and] at qn qy
    refine eH fun R2 hR2 => ?_
    push_cast [rdG, e4]
    refine sX (bK w s) (fun τ => ∃ o1, τ = [o1, some (.int w), some (.int s)]) hR2 ts4 e4 hal ⟨none, rfl⟩ ?_ ?_
    ·rintro x1 d1 τ H5 Qn _ s5 t5 ⟨o1, rfl⟩ qn5
     push_cast
     exact ⟨w, s, x1, ok, d1, rfl, h1, h2, h3, t5, fun H' s' => qn5 _ _ ⟨_, rfl⟩ s'⟩
    ·intro H5 l s5 hl5
     have s6 := s5.trans (aA (o := HO.lst (((ts.map dX).map (bK w s)).map V.bl)) hl5)
     have e6 : upd H5 l (HO.lst (((ts.map dX).map (bK w s)).map V.bl)) l = _ := aB
     generalize upd H5 l (HO.lst (((ts.map dX).map (bK w s)).map V.bl)) = H6 at s6 e6 |-
     push_cast [e6]
     refine ⟨_, rfl, ?_⟩
     have hall : (((ts.map dX).map (bK w s)).all id) = (ts.map dX).all (bK w s) := by rw [List.all_map]; rfl
     rw [hall]
     cases c2 : (ts.map dX).all (bK w s) with
     | false =>
      rw [if_pos (by decide)]
      exact qn c2 _ ((s2.trans s4).trans s6)
     | true =>
      rw [if_neg (by decide)]
      exact qy c2 d H6 ((s2.trans s4).trans s6) (.lst od (s6 _ _ e4) hal (ts4.same s6))
   ·rw [if_pos (by rw [decide_eq_false c1]; decide)]
    exact qn (by rw [decide_eq_false c1]; rfl) _ (s2.trans s4)
end
abbrev mQ : Stmt := inClass (top 14) 0
theorem SQ : bF ["self", "row"] ["self", "row"] (aj mQ) := ⟨rfl, rfl, rfl, by decide +kernel, rfl, by decide +kernel, by decide +kernel⟩
abbrev N18_ : List Str := ["self", "row"]
theorem Ds : NM_ N18_ mQ 0 "self" := .of (by decide +kernel)
theorem Dr : NM_ N18_ mQ 1 "row" := .of (by decide +kernel)
theorem Rc : GI_ mQ "CaseError" := by decide +kernel
abbrev bG : Stmt := top 23
theorem dI : bF ["text", "rows", "kind", "width", "sign", "cases", "own", "row", "items"] ["text"] (aj bG) := ⟨rfl, rfl, rfl, by decide +kernel, rfl, by decide +kernel, by decide +kernel⟩
abbrev N19_ : List Str := ["text", "rows", "kind", "width", "sign", "cases", "own", "row", "items"]
theorem yo : NM_ N19_ bG 0 "text" := .of (by decide +kernel)
theorem lG : NM_ N19_ bG 1 "rows" := .of (by decide +kernel)
theorem lF : NM_ N19_ bG 2 "kind" := .of (by decide +kernel)
theorem lE : NM_ N19_ bG 3 "width" := .of (by decide +kernel)
theorem lz : NM_ N19_ bG 4 "sign" := .of (by decide +kernel)
theorem lu : NM_ N19_ bG 5 "cases" := .of (by decide +kernel)
theorem qw : NM_ N19_ bG 6 "own" := .of (by decide +kernel)
theorem qu : NM_ N19_ bG 7 "row" := .of (by decide +kernel)
theorem lq : NM_ N19_ bG 8 "items" := .of (by decide +kernel)
theorem jy : GI_ bG "BadText" := by decide +kernel
theorem pA : GI_ bG "case_from" := by decide +kernel
theorem nJ : GI_ bG "enumerate" := by decide +kernel
theorem pq : GI_ bG "kind_from" := by decide +kernel
theorem BW : Bn "choice_from" := ⟨by decide +kernel, by decide +kernel⟩
section
variable {P : Program} {w : World} {K : PySem.W.Frag} {mg : Str -> Option Value} {base : Heap} {f : Addr} {fd : FuncData} {bs : List Str} {C D N : Addr}
theorem Pj (XC : qg K C D N f) (XD : XBase K D) (hD : mg "CaseError" = some (.ref D)) (hno : PySem.W.findIn K (.ref C) "row" = some none) (F : Fun K "__init__" "BadText.__init__" mQ f fd) : dh P w K mg base CX0 1 f fd ["self", "row"] (vy C "row") := by
 refine F.okq SQ (fun vs H Q E h => ?_) (fun cdv A outer s H vs Q E hr h => ?_)
 ·obtain ⟨a, j, rfl, _⟩ := h
  rfl
 ·obtain ⟨a, j, rfl, hb, ha, q⟩ := h
  refine ⟨_, (aD (j9 (Oi XC XD Rc hD (ak (aq Ds) (ak (JR (Oo (by decide) (Yb (aq Dr).h (Oo (by decide) X8)))) ao)))) (aF (TX XC (aq Ds) (aq Dr)))), ?_⟩
  push_cast [tBI, M8]
  exact ⟨hb, fun x => ⟨a, _, ⟨rfl, rfl⟩, (by show 1 <= 1000; decide), ⟨none, ha⟩, ha, hno, q⟩⟩
theorem FN (hB : ∀ x : Str, x ∈ BLs -> mg x = none) (XBadText : Zf P w K mg base "BadText" C D 1 ["self", "row"] (vy C "row")) (CKindFrom : Cal P w K mg base "kind_from" 3 ["row"] Mu) (CCaseFrom : Cal P w K mg base "case_from" 3 ["width", "sign", "row"] Mx) (F : Fun K "choice_from" "choice_from" bG f fd) : dh P w K mg base (CX1 P w) 4 f fd ["text"] (Mz C) := by
 refine F.aaC dI (fun vs H Q E h => ?_) (fun cdv A outer s H vs Q E hr h => ?_)
 ·obtain ⟨x, rfl, _⟩ := h
  rfl
 ·obtain ⟨x, rfl, hx, q, qx⟩ := h
  refine ⟨_, (aD (bL lG dI.nd (iz PySem.F.slot_str_split PySem.F.type_str_split gG (aq yo) (ak aG ao)))
   (aD (bL lF dI.nd (bf CKindFrom (hr.mono (by decide)) pq GX (ak (bR eO (aq lG) au (fun _ _ => rfl)) ao)))
   (aD (cg (aW lg (aq lF) cH (aU _)) (aF (CQ XBadText (hr.mono (by decide)) jy rfl Z4 (ak au ao))) bJ)
   (aD (gO (aq lF) (jo (n := 2) rfl (bh (cL lE dI.nd) (bh (cL lz dI.nd) eU))))
   (aD (bL lu dI.nd (gP ao))
   (aD (jP own1 rfl (Oh nJ (hB "enumerate" rZ) (ak (dG uX (aq lG) (dZ au) d7) ao) (Uo au.h X7)) (jo (n := 2) rfl (bh (cL qw dI.nd) (bh (cL qu dI.nd) eU)))
   (aD (bL lq dI.nd (bf CCaseFrom (hr.mono (by decide)) pA G3 (ak (aq lE) (ak (aq lz) (ak (aq qu) ao)))))
   (aD (cg (aW lg (aq lq) cH (aU _)) (aF (CQ XBadText (hr.mono (by decide)) jy rfl Z4 (ak (aq qw) ao))) bJ)
   (aF (j9 (pR (aq lu) (aq lq)))))))
   (aF (aL (bY (ak (aq lE) (ak (aq lz) (ak (aq lu) ao)))))))))))), ?_⟩
  obtain ⟨rl1, rl2⟩ := CJ x
  obtain ⟨r0, rs, hrs⟩ : ∃ r0 rs, rowsOf x = r0 :: rs := by
   cases e : rowsOf x with
   | nil => exact absurd e (yZ x)
   | cons a b => exact ⟨a, b, rfl⟩
  have hsp : Txt.split x "\n" = r0 :: rs := hrs
  rw [hrs] at rl1 rl2
  rw [List.length_cons] at rl1
  refine aK fun k hk => ?_
  push_cast [rdG]
  rw [hsp]
  refine ⟨by decide, by rw [sizeLine_eq]; omega, aP (by rw [List.length_cons]; omega), fun p hp => ?_⟩
  have s1 := aA (o := HO.lst ((r0 :: rs).map V.str)) hp
  have e1 : upd H p (HO.lst ((r0 :: rs).map V.str)) p = some (.lst (V.str r0 :: rs.map V.str)) := aB
  generalize upd H p (HO.lst ((r0 :: rs).map V.str)) = H1 at s1 e1 |-
  subst hk
  refine aK fun k hk => ?_
  have h0 : atI (V.str r0 :: rs.map V.str) 0 = some (V.str r0) := cT (j := 0) rfl
  push_cast [rdG, e1, h0]
  refine ⟨r0, rfl, by have := rl2 r0 List.mem_cons_self; omega, fun hk0 H2 s12 => ?_, fun w s hk0 p2 H2 s12 e2 => ?_⟩
  ·subst hk
   refine aK fun k hk => ?_
   push_cast [rdG, Ad]
   exact vZ (E := E) (C := C) (fld := "row") (j := 0) (by decide) (s1.trans s12) (qx 0 (v7 hrs hk0))
  obtain ⟨h1, h2, h3⟩ := Dw hk0
  have s2 := s1.trans s12
  have e1b := s12 _ _ e1
  subst hk
  refine aK fun k hk => ?_
  push_cast [rdG]
  subst hk
  refine aK fun k hk => ?_
  push_cast [rdG, e2]
  subst hk
  refine aK fun k hk => ?_
  push_cast [rdG]
  refine ⟨Nat.zero_le _, fun c hc3 => ?_⟩
  have hcH : H c = none := s2.none hc3
  have s3 := s2.trans (aA (o := HO.lst []) hc3)
  have e3 : upd H2 c (HO.lst []) c = some (.lst []) := aB
  have e1c : upd H2 c (HO.lst []) p = _ := aA hc3 _ _ e1b
  generalize upd H2 c (HO.lst []) = H3 at s3 e3 e1c |-
  subst hk
  refine aK fun k hk => ?_
  refine pC fun R hR => ?_
  have hcut : j8 (V.str r0 :: rs.map V.str) (some 1) none = rs.map V.str := (jm ((r0 :: rs).map V.str) 1 (by rw [List.length_map, List.length_cons]; omega)).trans rfl
  push_cast [rdG, e1c, hcut]
  refine fun p4 hp4 => ⟨by decide, by decide, ?_⟩
  have s4 := s3.trans (aA (o := HO.lst (rs.map V.str)) hp4)
  have e4 : upd H3 p4 (HO.lst (rs.map V.str)) p4 = _ := aB
  have e3b : upd H3 p4 (HO.lst (rs.map V.str)) c = _ := aA hp4 _ _ e3
  have hpc : p4 ≠ c := fun z => by rw [z, e3] at hp4; cases hp4
  generalize upd H3 p4 (HO.lst (rs.map V.str)) = H4 at s4 e4 e3b |-
  obtain ⟨Pv, hPv⟩ : ∃ Pv : Nat -> L2.St -> Hp -> Prop, Pv = fun (i : Nat) σ H' => ∃ (vs : List V) (o6 o7 o8 : Option V), cj c H4 H' /\ H' c = some (.lst vs) /\ aM (· ≠ c) H' vs ((rs.take i).map jb) /\ cX w s 1 rs = cX w s (i + 1) (rs.drop i) /\
   σ = [some (.str x), some (.ref p), some (.ref p2), some (.int w), some (.int s), some (.ref c), o6, o7, o8] := ⟨_, rfl⟩
  refine GK hR rs.length Pv (by rw [hPv]; exact ⟨[], _, _, _, cj.refl _ _, e3b, .nil, rfl, rfl⟩) ?_ ?_ ?_ ?_
  ·intro i σ H5 hi pv
   rw [hPv] at pv
   obtain ⟨vs, _, _, _, s5, _⟩ := pv
   exact ⟨_, _, SqL.of (s5 _ _ hpc e4), by rw [List.getElem?_map, List.getElem?_eq_getElem hi]; rfl⟩
  ·intro σ H5 pv
   rw [hPv] at pv
   obtain ⟨vs, _, _, _, s5, _⟩ := pv
   exact ⟨_, SqL.of (s5 _ _ hpc e4), by rw [List.length_map]⟩
  ·intro i σ H5 y H6 hi pv hy
   rw [hPv] at pv
   obtain ⟨vs, o6, o7, o8, s5, c5, tt, hfb, rfl⟩ := pv
   obtain ⟨p5, x1, rfl, hp5, rfl, hx⟩ := hy
   have hx1 := hx _ (SqL.of (s5 _ _ hpc e4))
   rw [List.getElem?_map] at hx1
   obtain ⟨r, hri, rfl⟩ := Option.map_eq_some_iff.mp hx1
   obtain ⟨b1, b2⟩ := zX hri hfb
   have hrl := rl2 r (List.mem_cons_of_mem _ (List.mem_of_getElem? hri))
   have s56 := aA (o := HO.tup [V.int ((i + Int.toNat 1 : Nat) : Int), V.str r]) hp5
   have s6 := s5.trans s56.x
   have e6 : upd H5 p5 (HO.tup [V.int ((i + Int.toNat 1 : Nat) : Int), V.str r]) p5 = _ := aB
   have c6 := s56 _ _ c5
   have t6 := tt.same s56
   generalize upd H5 p5 (HO.tup [V.int ((i + Int.toNat 1 : Nat) : Int), V.str r]) = H6 at s56 s6 e6 c6 t6 |-
   push_cast [rdG, e6]
   have htl := tt.length
   rw [List.length_map, List.length_take] at htl
   refine ⟨w, s, r, (· ≠ c), rfl, h1, h2, h3, by omega, Dd c6, fun hbad H7 s7 => ?_, fun hgood q7 H7 s7 t7 => ?_⟩
   ·push_cast [Ad]
    exact vZ (E := E) (C := C) (fld := "row") (j := ((i + Int.toNat 1 : Nat) : Int)) (by have : Int.toNat 1 = 1 := rfl; omega) (rD (s4.x.trans (s6.trans s7.x)) hcH) (qx (i + 1) (za hrs hk0 (b2 hbad)))
   ·have c7 := s7 _ _ c6
    push_cast [c7]
    refine ⟨Nat.lt_of_lt_of_le (show vs.length < 1000000 by omega) (aP (Nat.le_refl 1000000)), ?_⟩
    rw [hPv]
    have sx : cj c H6 (upd H7 c (HO.lst (vs ++ [V.ref q7]))) := s7.x.trans cj.upd
    refine ⟨vs ++ [V.ref q7], _, _, _, s6.trans sx, aB, ?_, b1 hgood, rfl⟩
    rw [take_snoc hri, List.map_append]
    exact (t6.CG sx).append (.cons (t7.CG cj.upd) .nil)
  ·intro σ H5 pv
   rw [hPv] at pv
   obtain ⟨vs, o6, o7, o8, s5, c5, tt, hfb, rfl⟩ := pv
   show k _ _
   subst hk
   push_cast [rdG]
   refine ⟨aP (by decide), fun d hd => ?_⟩
   have s6 := aA (o := HO.tup [V.int w, V.int s, V.ref c]) hd
   rw [List.take_length] at tt
   rw [List.drop_length] at hfb
   have hll := tt.length
   rw [List.length_map] at hll
   have ts6 : aM (fun _ => True) (upd H5 d (HO.tup [V.int w, V.int s, V.ref c])) vs (rs.map jb) := tt.keep fun a o h e => ⟨trivial, s6 _ _ e⟩
   refine q _ (v5 hrs hk0 hfb) _ _ ((rD (s4.x.trans s5) hcH).trans s6) ?_
   exact .tup trivial aB (by show 3 <= 1000000; decide) (.cons (.int _) (.cons (.int _) (.cons (.lst trivial (s6 _ _ c5) (by omega) ts6) .nil)))
end
abbrev dY : Stmt := top 41
theorem Ck : bF ["_law_item_here"] ["_law_item_here"] (aj dY) := ⟨rfl, rfl, rfl, by decide +kernel, rfl, by decide +kernel, by decide +kernel⟩
abbrev N20_ : List Str := ["_law_item_here"]
theorem rR : NM_ N20_ dY 0 "_law_item_here" := .of (by decide +kernel)
theorem Eg : Bn "_law_item_text" := ⟨by decide +kernel, by decide +kernel⟩
abbrev b7 : Stmt := top 42
theorem kY : bF ["_law_choice", "_law_rows", "_law_items"] ["_law_choice"] (aj b7) := ⟨rfl, rfl, rfl, by decide +kernel, rfl, by decide +kernel, by decide +kernel⟩
abbrev N21_ : List Str := ["_law_choice", "_law_rows", "_law_items"]
theorem jY : NM_ N21_ b7 0 "_law_choice" := .of (by decide +kernel)
theorem jX : NM_ N21_ b7 1 "_law_rows" := .of (by decide +kernel)
theorem oA : NM_ N21_ b7 2 "_law_items" := .of (by decide +kernel)
theorem mF : GI_ b7 "str" := by decide +kernel
theorem yI : Bn "_law_choice_text" := ⟨by decide +kernel, by decide +kernel⟩
section
variable {P : Program} {w : World} {K : PySem.W.Frag} {mg : Str -> Option Value} {base : Heap} {f : Addr} {fd : FuncData} {bs : List Str}
def SJ : It1 -> Str
 | .one _ => ""
 | .rng _ _ => ".."
 | .bits _ _ => "&"
def jw : It1 -> List Int
 | .one a => [a]
 | .rng a b => [a, b]
 | .bits m v => [(m : Int), (v : Int)]
def wdI : It1 -> Str
 | .one _ => "is"
 | .rng _ _ => "from"
 | .bits _ _ => "bits"
theorem Y0 (it : It1) : itV it = V.str (wdI it) :: (jw it).map V.int := by cases it <;> rfl
def uN : List (Key × V) := [(.inr "is", .str ""), (.inr "from", .str ".."), (.inr "bits", .str "&")]
theorem Sx (it : It1) : qG (jr [] uN) (.inr (wdI it)) = some (.str (SJ it)) := by
 cases it with
 | one a => show qG (jr [] uN) (.inr ("is" : Str)) = some (.str ""); rfl
 | rng a b => show qG (jr [] uN) (.inr ("from" : Str)) = some (.str ".."); rfl
 | bits a b => show qG (jr [] uN) (.inr ("bits" : Str)) = some (.str "&"); rfl
theorem Vu (it : It1) : Txt.join (SJ it) ((jw it).map tsI) = itW it := by
 have h : ∀ (sep a b : Str), Txt.join sep [a, b] = a ++ sep ++ b := fun sep a b => vR (by
  show (Builtin.Str.glued sep [a, b]).cps.toList = _
  rw [StrLaws.glued_eq_join]
  simp [Str.join, kO])
 cases it with
 | one a =>
  refine vR ?_
  show (Builtin.Str.glued _ [tsI a]).cps.toList = (tsI a).cps.toList
  rw [StrLaws.glued_eq_join]
  simp [Str.join]
 | rng a b => exact h _ _ _
 | bits a b => exact h _ _ _
theorem Sy (it : It1) : (SJ it).length <= 2 := by
 cases it with
 | one a => show ("" : Str).length <= 2; decide +kernel
 | rng a b => show (".." : Str).length <= 2; decide +kernel
 | bits a b => show ("&" : Str).length <= 2; decide +kernel
theorem R0 {H : Hp} {p : Addr} {x y : HO} : upd (upd H p x) p y = upd H p y := by
 funext a
 by_cases h : a = p
 ·subst h
  rw [aB, aB]
 ·rw [aJ h, aJ h, aJ h]
theorem J3 (hB : ∀ x : Str, x ∈ BLs -> mg x = none) (F : Fun K "_law_item_text" "_law_item_text" dY f fd) : dh P w K mg base CX0 1 f fd ["_law_item_here"] Wy := by
 refine F.okq Ck (fun vs H Q E h => ?_) (fun cdv A outer s H vs Q E hr h => ?_)
 ·obtain ⟨t, it, rfl, _⟩ := h
  rfl
 ·obtain ⟨t, it, rfl, ⟨hi⟩, hs, q⟩ := h
  refine ⟨_, (aF (aL (iz PySem.F.slot_str_join PySem.F.type_str_join rW (ZC hr.W3 (T7 (v8 aG aG (v8 aG aG (v8 aG aG TY))) rfl rfl (List.cons_ne_nil _ _) rfl) (bR eO (aq rR) au (fun _ _ => rfl)) (fun _ _ => rfl)) (ak (fK (NX := ["_law_item_here"]) (kX := (aj dY).names) ["_law_one"] [none] rfl rfl ⟨rfl, by decide +kernel, by decide +kernel, by decide +kernel, by decide +kernel⟩ rfl (dw (dG uX (aq rR) (dZ au) d7)) (fun _ _ _ _ _ => (dM 0 (show List.Nodup (["_law_one"] : List Str) from by decide +kernel) rfl (Or.inl rfl))) (fun _ _ _ _ _ => fG) (fun _ _ _ _ _ => (jQ gm rfl (hB "str" iZ) boot_str jc (ak (iQ 0) ao)))) ao)))), ?_⟩
  rw [Y0] at hi
  push_cast [rdG, rdA]
  refine fun p hp => ⟨uN, rfl, by decide, ?_⟩
  rw [R0]
  have s1 := aA (o := HO.dK (jr [] uN)) hp
  have e1 : upd H p (HO.dK (jr [] uN)) p = _ := aB
  generalize upd H p (HO.dK (jr [] uN)) = H1 at s1 e1 |-
  have hi1 := s1 _ _ hi
  have hcut : j8 (V.str (wdI it) :: (jw it).map V.int) (some 1) none = (jw it).map V.int := (jm (V.str (wdI it) :: (jw it).map V.int) 1 (by rw [List.length_cons]; omega)).trans rfl
  push_cast [rdG, rdA, hi1]
  refine ⟨p, _, rfl, yM.k' (k := Sum.inr (wdI it)) e1 (Sx it), ?_⟩
  refine ⟨trivial, ?_⟩
  refine eH fun R hR => ?_
  push_cast [rdG, hi1, hcut]
  have hni : (jw it).length <= 2 := by cases it <;> simp [jw]
  have hsi : ∀ i ∈ jw it, SmI i := by
   intro i h
   cases it with
   | one a =>
    rw [List.mem_singleton.mp h]
    exact hs
   | rng a b =>
    rcases List.mem_cons.mp h with rfl | h
    ·exact hs.1
    ·rw [List.mem_singleton.mp h]
     exact hs.2
   | bits a b =>
    rcases List.mem_cons.mp h with rfl | h
    ·exact hs.1
    ·rw [List.mem_singleton.mp h]
     exact hs.2
  refine ⟨fun z => absurd z.1 (by unfold HT.sIx; simp), fun p2 hp2 => ?_⟩
  have s2 := s1.trans (aA (o := HO.tup ((jw it).map V.int)) hp2)
  have e2 : upd H1 p2 (HO.tup ((jw it).map V.int)) p2 = _ := aB
  generalize upd H1 p2 (HO.tup ((jw it).map V.int)) = H2 at s2 e2 |-
  obtain ⟨Pc, hPc⟩ : ∃ Pv : Nat -> List V -> L2.St -> Hp -> Prop, Pv = fun (i : Nat) acc τ H' => ∃ (o1 : Option V), Same H2 H' /\ acc = (((jw it).take i).map tsI).map V.str /\ τ = [o1] := ⟨_, rfl⟩
  refine Ru hR (xs := (jw it).map V.int) (aP (by rw [List.length_map]; omega)) Pc (by rw [hPc]; exact ⟨none, Same.refl _, rfl, rfl⟩) ?_ ?_ ?_ ?_
  ·intro i acc τ H6 pc
   rw [hPc] at pc
   obtain ⟨_, _, rfl, _⟩ := pc
   rw [List.length_map, List.length_map]
   exact List.length_take_le _ _
  ·intro i acc τ H6 pc
   rw [hPc] at pc
   obtain ⟨_, s6, _⟩ := pc
   exact SqT.of (s6 _ _ e2)
  ·intro i x acc τ H6 hx pc
   rw [hPc] at pc
   obtain ⟨_, s6, rfl, rfl⟩ := pc
   rw [List.getElem?_map] at hx
   obtain ⟨n, hn, rfl⟩ := Option.map_eq_some_iff.mp hx
   push_cast [rdG]
   refine ⟨jz (hsi n (List.mem_of_getElem? hn)), ?_⟩
   rw [hPc]
   refine ⟨_, s6, ?_, rfl⟩
   rw [take_snoc hn, List.map_append, List.map_append]
   rfl
  ·intro acc τ H6 d pc hd
   rw [hPc] at pc
   obtain ⟨_, s6, rfl, rfl⟩ := pc
   rw [List.length_map, List.take_length]
   have s7 := s6.trans (aA (o := HO.lst (((jw it).map tsI).map V.str)) hd)
   have e7 : upd H6 d (HO.lst (((jw it).map tsI).map V.str)) d = _ := aB
   generalize upd H6 d (HO.lst (((jw it).map tsI).map V.str)) = H7 at s7 e7 |-
   push_cast [rdG, e7]
   refine ⟨_, rfl, ?_, ?_⟩
   ·have hsl : (SJ it).length <= 2 := Sy it
    refine qd (L := 21) (n := 2) (fun t ht => ?_) (by rw [List.length_map]; exact hni) ?_
    ·obtain ⟨n, hn, rfl⟩ := List.mem_map.mp ht
     exact gZ (hsi n hn)
    ·omega
   ·rw [Vu]
    exact q _ (s2.trans s7)
theorem Dc (hB : ∀ x : Str, x ∈ BLs -> mg x = none) (CZItemText : Cal P w K mg base "_law_item_text" 1 ["_law_item_here"] Wy) (F : Fun K "_law_choice_text" "_law_choice_text" b7 f fd) : dh P w K mg base CX0 2 f fd ["_law_choice"] Wz := by
 refine F.okq kY (fun vs H Q E h => ?_) (fun cdv A outer s H vs Q E hr h => ?_)
 ·obtain ⟨x, w, s, ok, css, rfl, _⟩ := h
  rfl
 ·obtain ⟨x, w, s, ok, css, rfl, hc, t, q⟩ := h
  refine ⟨_, (aD (bL jX kY.nd (gP (ak (aH bT (aH bT (aH bT aG (jQ gm mF (hB "str" iZ) boot_str jc (ak (bR Dz (aq jY) au (fun _ _ => rfl)) ao))) aG) (jQ gm mF (hB "str" iZ) boot_str jc (ak (bR Dz (aq jY) au (fun _ _ => rfl)) ao))) ao)))
   (aD (jP PassesOwn.never rfl (dw (bR Dz (aq jY) au (fun _ _ => rfl))) (cL oA kY.nd)
   (aF (j9 (pR (aq jX) (iz PySem.F.slot_str_join PySem.F.type_str_join rW aG (ak (aH bT (gP (ak aG ao)) (fK (NX := ["_law_choice", "_law_rows", "_law_items"]) (kX := (aj b7).names) ["_law_item_here"] [none] rfl rfl ⟨rfl, by decide +kernel, by decide +kernel, by decide +kernel, by decide +kernel⟩ rfl (dw (aq oA)) (fun _ _ _ _ _ => (dM 0 (show List.Nodup (["_law_item_here"] : List Str) from by decide +kernel) rfl (Or.inl rfl))) (fun _ _ _ _ _ => fG) (fun _ _ _ _ _ => (bf CZItemText (hr.mono (by decide)) rfl Eg (ak (iQ 0) ao))))) ao))))))
   (aF (aL (iz PySem.F.slot_str_join PySem.F.type_str_join rW aG (ak (aq jX) ao)))))), ?_⟩
  obtain ⟨p, c, xs, rfl, op, ep, oc, ec, z, ts⟩ := uM t
  obtain ⟨hsw, hss, hsm⟩ := hc.sm
  obtain ⟨h1, h2, h3, h4, h5⟩ := id hc
  have hlen := ts.length
  rw [List.length_map] at hlen
  refine aK fun k hk => ?_
  push_cast [rdG, ep]
  have d1 : ("choice " : Str).length = 7 := by decide +kernel
  have d2 : (" " : Str).length = 1 := by decide +kernel
  have g1 : (Str.ofString (toString w)).length <= 21 := gZ hsw
  have g2 : (Str.ofString (toString s)).length <= 21 := gZ hss
  have g3 : (200 : Nat) <= sizeLine := by decide
  refine ⟨jz hsw, by omega, by rw [strLen_append]; omega, jz hss, by rw [strLen_append, strLen_append]; omega, aP (by decide), fun r hr0 => ?_⟩
  have s1 := aA (o := HO.lst [V.str (ju w s)]) hr0
  have e1 : upd H r (HO.lst [V.str (ju w s)]) r = _ := aB
  change k _ (upd H r (HO.lst [V.str (ju w s)]))
  generalize upd H r (HO.lst [V.str (ju w s)]) = H1 at s1 e1 |-
  subst hk
  refine aK fun k hk => ?_
  refine pC fun R hR => ?_
  have ec1 := s1 _ _ ec
  have ep1 := s1 _ _ ep
  push_cast [rdG, ec1, ep1]
  obtain ⟨Pv, hPv⟩ : ∃ Pv : Nat -> L2.St -> Hp -> Prop, Pv = fun (i : Nat) σ H' => ∃ (o5 : Option V), Same H H' /\ H' r = some (.lst ((ju w s :: (css.take i).map qF).map V.str)) /\ σ = [some (.ref p), some (.ref r), o5] := ⟨_, rfl⟩
  refine Rh hR (xs := xs) Pv (by rw [hPv]; exact ⟨_, s1, e1, rfl⟩) (fun i σ H' _ pv => ?_) ?_ ?_
  ·rw [hPv] at pv
   obtain ⟨_, s', _⟩ := pv
   exact SqL.of (s' _ _ ec)
  ·intro i x σ H4 hx pv
   rw [hPv] at pv
   obtain ⟨o5, s4, e4, rfl⟩ := pv
   obtain ⟨d, hd, td⟩ := (ts.same s4).get hx
   rw [List.getElem?_map] at hd
   obtain ⟨its, hits, rfl⟩ := Option.map_eq_some_iff.mp hd
   obtain ⟨q0, us, rfl, o6, eq4, z4, ts4⟩ := Jx td
   have hul := ts4.length
   rw [List.length_map] at hul
   have hm := hsm its (List.mem_of_getElem? hits)
   push_cast [rdG, e4]
   refine ⟨aP (by decide), fun a1 ha1 => ?_⟩
   have s5 := aA (o := HO.lst [V.str ("case" : Str)]) ha1
   have e5 : upd H4 a1 (HO.lst [V.str ("case" : Str)]) a1 = _ := aB
   generalize upd H4 a1 (HO.lst [V.str ("case" : Str)]) = H5 at s5 e5 |-
   refine eH fun R2 hR2 => ?_
   have eq5 := s5 _ _ eq4
   push_cast [rdG, eq5]
   obtain ⟨Pc, hPc⟩ : ∃ Pv : Nat -> List V -> L2.St -> Hp -> Prop, Pv = fun (i : Nat) acc τ H' => ∃ (o1 : Option V), Same H5 H' /\ acc = ((its.take i).map itW).map V.str /\ τ = [o1] := ⟨_, rfl⟩
   refine qQ hR2 (xs := us) (aP (by omega)) Pc (by rw [hPc]; exact ⟨none, Same.refl _, rfl, rfl⟩) ?_ ?_ ?_ ?_
   ·intro i acc τ H6 pc
    rw [hPc] at pc
    obtain ⟨_, _, rfl, _⟩ := pc
    rw [List.length_map, List.length_map]
    exact List.length_take_le _ _
   ·intro i acc τ H6 pc
    rw [hPc] at pc
    obtain ⟨_, s6, _⟩ := pc
    exact SqL.of (s6 _ _ eq5)
   ·intro i x acc τ H6 hx pc
    rw [hPc] at pc
    obtain ⟨_, s6, rfl, rfl⟩ := pc
    obtain ⟨d, hd, td⟩ := (ts4.same (s5.trans s6)).get hx
    rw [List.getElem?_map] at hd
    obtain ⟨it, hit, rfl⟩ := Option.map_eq_some_iff.mp hd
    obtain ⟨p7, rfl, _, hp7⟩ := Jw td
    push_cast
    refine ⟨p7, it, rfl, hp7, hm.2 it (List.mem_of_getElem? hit), fun H7 s7 => ?_⟩
    rw [hPc]
    refine ⟨_, s6.trans s7, ?_, rfl⟩
    rw [take_snoc hit, List.map_append, List.map_append]
    rfl
   ·intro acc τ H6 d pc hd
    rw [hPc] at pc
    obtain ⟨_, s6, rfl, rfl⟩ := pc
    rw [hul, List.take_length]
    have s7 := s6.trans (aA (o := HO.lst ((its.map itW).map V.str)) hd)
    have e7 : upd H6 d (HO.lst ((its.map itW).map V.str)) d = _ := aB
    generalize upd H6 d (HO.lst ((its.map itW).map V.str)) = H7 at s7 e7 |-
    have e57 := s7 _ _ e5
    have e47 := s7 _ _ (s5 _ _ e4)
    push_cast [rdG, e7, e57]
    refine ⟨aP (by rw [List.length_map, List.length_map]; have := hm.1; omega), fun a8 ha8 => ⟨qR its, rfl, GQ hm.2 hm.1, ?_⟩⟩
    have s8 := aA (o := HO.lst (V.str ("case" : Str) :: (its.map itW).map V.str)) ha8
    have e48 := s8 _ _ e47
    generalize upd H7 a8 (HO.lst (V.str ("case" : Str) :: (its.map itW).map V.str)) = H8 at s8 e48 |-
    rw [e48]
    push_cast [rdG]
    refine ⟨Nat.lt_of_lt_of_le (show ((ju w s :: (css.take i).map qF).map V.str).length < 1000 by rw [List.length_map, List.length_cons, List.length_map, List.length_take]; omega) (aP (by decide)), ?_⟩
    rw [hPv]
    have s48 := s4.trans (s5.trans (s7.trans s8))
    refine ⟨_, fun a o e => ?_, ?_, rfl⟩
    ·have har : a ≠ r := fun z => by rw [z, hr0] at e; cases e
     rw [aJ har]
     exact s48 _ _ e
    ·rw [aB, take_snoc hits]
     simp [qF]
  ·intro σ H4 pv
   rw [hPv] at pv
   obtain ⟨o5, s4, e4, rfl⟩ := pv
   rw [hlen, List.take_length] at e4
   show k _ _
   subst hk
   push_cast [rdG, e4]
   exact ⟨ju w s :: css.map qF, rfl, hc.fits, q _ s4⟩
abbrev bQ : Stmt := top 38
theorem ql : bF ["_law_word_here", "_law_plain"] ["_law_word_here"] (aj bQ) := ⟨rfl, rfl, rfl, by decide +kernel, rfl, by decide +kernel, by decide +kernel⟩
abbrev N22_ : List Str := ["_law_word_here", "_law_plain"]
theorem fW : NM_ N22_ bQ 0 "_law_word_here" := .of (by decide +kernel)
theorem eE : NM_ N22_ bQ 1 "_law_plain" := .of (by decide +kernel)
theorem uD : GI_ bQ "any" := by decide +kernel
theorem uz : GI_ bQ "int" := by decide +kernel
theorem mz : GI_ bQ "len" := by decide +kernel
theorem ji : Bn "_law_word_number" := ⟨by decide +kernel, by decide +kernel⟩
theorem Fz (hB : ∀ x : Str, x ∈ BLs -> mg x = none) (F : Fun K "_law_word_number" "_law_word_number" bQ f fd) : dh P w K mg base CX0 1 f fd ["_law_word_here"] nU := by
 refine F.okq ql (fun vs H Q E h => ?_) (fun cdv A outer s H vs Q E hr h => ?_)
 ·obtain ⟨x, rfl, _⟩ := h
  rfl
 ·obtain ⟨x, rfl, hx, q⟩ := h
  refine ⟨_, (aD (bL eE ql.nd (iR (aW (cM hr.bM) (dG Sw (aq fW) d7 (dZ au)) aG (aU _)) (dG Sw (aq fW) (dZ au) d7) (aq fW)))
   (aD (cg (lO (fP (aW (cM hr.bM) (aq eE) aG (aU _)) (fP (aW Ig (bI jK mz (hB "len" eX) PySem.boot_len fj (ak (aq eE) ao)) au (aU _)) (fO (cW (bI (K9 rfl) uD (hB "any" YH) PyProof.Rows.Boot.«any» Zb (ak (fK (NX := ["_law_word_here", "_law_plain"]) (kX := (aj bQ).names) ["_law_sign"] [none] rfl rfl ⟨rfl, by decide +kernel, by decide +kernel, by decide +kernel, by decide +kernel⟩ rfl (Og (aq eE)) (fun _ _ _ _ _ => (dM 0 (show List.Nodup (["_law_sign"] : List Str) from by decide +kernel) rfl (Or.inl rfl))) (fun _ _ _ _ _ => fG) (fun _ _ _ _ _ => (fD U5 (iQ 0) aG (by with_unfolding_all rfl)))) ao))))))) (aF (aL cH)) bJ)
   (aD (cg (lO (Ft (aW (cM hr.bM) (bR Dz (aq eE) au (fun _ _ => rfl)) aG (aU _)) (Ay (lO (fP (aW Ig (bI jK mz (hB "len" eX) PySem.boot_len fj (ak (aq eE) ao)) au (aU _)) (fO (aW (cM hr.bM) (bR Dz (aq fW) au (fun _ _ => rfl)) aG (aU _)))))))) (aF (aL cH)) bJ)
   (aF (aL (jQ zO uz (hB "int" oO) boot_int pH (ak (aq fW) ao))))))), ?_⟩
  refine aK fun k hk => ?_
  push_cast [rdX]
  rw [show (("-" : Str)) = ⟨#[45]⟩ by decide +kernel]
  refine ⟨hx, ?_⟩
  obtain ⟨fg, hfg⟩ : ∃ fg : Str, fg = if Txt.startswith x ⟨#[45]⟩ = true then Txt.slice x (some 1) none else x := ⟨_, rfl⟩
  have hneg : Txt.startswith x ⟨#[45]⟩ = true ↔ x.cps.toList.head? = some 45 := by rw [vU, decide_eq_true_eq]
  have hfl : eG x = fg.cps.toList := by rw [hfg]; exact Je
  have hflen : fg.length <= sizeLine := by
   rw [hfg]
   split
   ·exact Nat.le_trans (Txt.slice_le x _ _) hx
   ·exact hx
  have hlen : fg.length = (eG x).length := by rw [hfl]; simp [Str.length]
  suffices go : k [some (V.str x), some (V.str fg)] H by
   by_cases c : Txt.slice x none (some 1) = ⟨#[45]⟩
   ·rw [if_pos c]
    rw [hfg, if_pos (hneg.mpr (yX.mp c))] at go
    exact ⟨hx, go⟩
   ·rw [if_neg c]
    rw [hfg, if_neg fun z => c (yX.mpr (hneg.mp z))] at go
    exact go
  subst hk
  refine aK fun k hk => ?_
  push_cast [rdX]
  have hno : ∀ {H' : Hp}, Same H H' -> aY x = false -> Q V.non H' := fun {H'} s' z => by
   have := q H' s'
   unfold eN at this
   rw [if_neg (by rw [z]; decide)] at this
   exact this
  have hemp : ∀ (z : Str), z = "" ↔ z.length = 0 := fun z => by
   constructor
   ·intro e
    rw [e]
    rfl
   ·intro e
    exact Str.ext' (Array.eq_empty_of_size_eq_zero e)
  by_cases c0 : fg = ""
  ·rw [if_pos c0]
   refine hno (Same.refl _) ?_
   have := (hemp fg).mp c0
   unfold aY
   rw [decide_eq_false (show ¬ 1 <= (eG x).length by omega)]
   rfl
  ·rw [if_neg c0]
   have c1 : 1 <= (eG x).length := by
    have : fg.length ≠ 0 := fun z => c0 ((hemp fg).mpr z)
    omega
   refine ⟨hflen, ?_⟩
   by_cases c2 : (20 : Int) < fg.length
   ·rw [if_pos c2]
    refine hno (Same.refl _) ?_
    unfold aY
    rw [decide_eq_false (show ¬ (eG x).length <= 20 by omega), Bool.and_false]
    rfl
   ·rw [if_neg c2]
    refine eH fun R hR => ?_
    push_cast [rdX]
    obtain ⟨Pc, hPc⟩ : ∃ Pv : Nat -> List V -> L2.St -> Hp -> Prop, Pv = fun (i : Nat) acc τ H' => ∃ (o1 : Option V), H' = H /\ acc = ((fg.cps.toList.take i).map fun c => !iM c).map V.bl /\ τ = [o1] := ⟨_, rfl⟩
    refine Rv hR hflen Pc (by rw [hPc]; exact ⟨none, rfl, rfl, rfl⟩) ?_ ?_ ?_
    ·intro i acc τ H1 pc
     rw [hPc] at pc
     obtain ⟨_, _, rfl, _⟩ := pc
     rw [List.length_map, List.length_map]
     exact List.length_take_le _ _
    ·intro i c acc τ H1 hc pc
     rw [hPc] at pc
     obtain ⟨_, rfl, rfl, rfl⟩ := pc
     push_cast [rdX]
     rw [Rk, hPc]
     refine ⟨_, rfl, ?_, rfl⟩
     rw [take_snoc (show fg.cps.toList[i]? = some c by rw [Array.getElem?_toList]; exact hc), List.map_append, List.map_append]
     rfl
    ·intro acc τ H1 d pc hd
     rw [hPc] at pc
     obtain ⟨_, rfl, rfl, rfl⟩ := pc
     rw [List.take_of_length_le (show fg.cps.toList.length <= fg.length by simp [Str.length])]
     have s1 := aA (o := HO.lst ((fg.cps.toList.map fun c => !iM c).map V.bl)) hd
     have e1 : upd H1 d (HO.lst ((fg.cps.toList.map fun c => !iM c).map V.bl)) d = _ := aB
     generalize upd H1 d (HO.lst ((fg.cps.toList.map fun c => !iM c).map V.bl)) = H2 at s1 e1 |-
     push_cast [e1]
     refine ⟨_, rfl, ?_⟩
     have hall : (fg.cps.toList.map fun c => !iM c).any id = !(eG x).all iM := by
      rw [hfl, List.any_map, List.not_all_eq_any_not]
      rfl
     rw [hall]
     cases c3 : (eG x).all iM with
     | false =>
      rw [if_pos (show (!false) = true from rfl)]
      refine hno s1 ?_
      unfold aY
      rw [c3, Bool.and_false]
      rfl
     | true =>
      rw [if_neg (show ¬ (!true) = true by decide)]
      subst hk
      refine aK fun k hk => ?_
      have l1' : 1 <= fg.length := by omega
      obtain ⟨c0', r0, hcr⟩ : ∃ c r, fg.cps.toList = c :: r := by
       cases e : fg.cps.toList with
       | nil =>
        have : fg.length = 0 := by
         rw [hlen, hfl, e]
         rfl
        omega
       | cons c r => exact ⟨c, r, rfl⟩
      push_cast [rdX]
      refine ⟨hflen, c0', cT (j := 0) (by rw [hcr]; rfl), ?_⟩
      have hc0 : ((⟨#[c0']⟩ : Str) = "0") ↔ (eG x).head? = some 48 := by
       rw [hfl, hcr, List.head?_cons]
       exact ⟨fun z => congrArg (fun y : Str => y.cps.toList.head?) z, fun z => by cases z; decide +kernel⟩
      have last : aY x = true -> k [some (V.str x), some (V.str fg)] H2 := fun z => by
       subst hk
       push_cast [rdX]
       have := q H2 s1
       unfold eN at this
       rw [if_pos z] at this
       exact ⟨_, (nY z).1, Nat.le_trans (nY z).2 (by decide), this⟩
      have l2 : (eG x).length <= 20 := by omega
      have bad : (eG x).head? = some 48 -> x ≠ "0" -> aY x = false := fun z1 z2 => by
       unfold aY
       rw [decide_eq_true z1, decide_eq_true z2]
       simp
      have f0 : eG "0" = [48] := by decide +kernel
      by_cases c4 : (⟨#[c0']⟩ : Str) = "0"
      ·rw [if_pos c4]
       refine ⟨hflen, ?_⟩
       by_cases c5 : (1 : Int) < fg.length
       ·rw [if_pos c5]
        refine hno s1 (bad (hc0.mp c4) fun z => ?_)
        rw [z, f0] at hlen
        have : fg.length = 1 := hlen
        omega
       ·rw [if_neg c5]
        obtain ⟨cx, rx, hxr⟩ : ∃ c r, x.cps.toList = c :: r := by
         cases e : x.cps.toList with
         | nil =>
          have : (eG x).length = 0 := by
           unfold eG
           rw [e]
           rfl
          omega
         | cons c r => exact ⟨c, r, rfl⟩
        refine ⟨hx, cx, cT (j := 0) (by rw [hxr]; rfl), ?_⟩
        by_cases c6 : (⟨#[cx]⟩ : Str) = "-"
        ·rw [if_pos c6]
         refine hno s1 (bad (hc0.mp c4) fun z => ?_)
         have e1 : cx = 45 := by
          have := congrArg (fun y : Str => y.cps.toList.head?) c6
          exact Option.some.inj this
         rw [z] at hxr
         have e2 : ("0" : Str).cps.toList = [48] := by decide +kernel
         rw [e2, e1] at hxr
         cases hxr
        ·rw [if_neg c6]
         have e1 : ¬ x.cps.toList.head? = some 45 := fun z => c6 (by
          rw [hxr] at z
          cases z
          decide +kernel)
         have e2 : eG x = x.cps.toList := by unfold eG; rw [if_neg e1]
         have e3 : x = "0" := by
          have e4 : x.cps.toList = [48] := by
           rw [<- e2]
           have h1 := hc0.mp c4
           cases e5 : eG x with
           | nil => rw [e5] at h1; cases h1
           | cons a r =>
            rw [e5] at h1
            cases h1
            have : r.length = 0 := by
             rw [e5, List.length_cons] at hlen
             omega
            rw [List.eq_nil_of_length_eq_zero this]
          have e6 : ("0" : Str).cps.toList = [48] := by decide +kernel
          exact Str.ext' (Array.toList_inj.mp (e4.trans e6.symm))
         refine last ?_
         rw [e3]
         decide +kernel
      ·rw [if_neg c4]
       refine last ?_
       unfold aY
       rw [decide_eq_true c1, decide_eq_true l2, c3, decide_eq_false (fun z => c4 (hc0.mpr z))]
       rfl
end
theorem Wm : Bn "Twice" := ⟨by decide +kernel, by decide +kernel⟩
theorem RM : Bn "Beyond" := ⟨by decide +kernel, by decide +kernel⟩
theorem Ei : Bn "TooNarrow" := ⟨by decide +kernel, by decide +kernel⟩
theorem Ej : Bn "NoStretch" := ⟨by decide +kernel, by decide +kernel⟩
theorem Li : Bn "BadText" := ⟨by decide +kernel, by decide +kernel⟩
abbrev fC : Stmt := top 36
theorem Ai : bF ["_law_caught", "_law_some"] ["_law_caught"] (aj fC) := ⟨rfl, rfl, rfl, by decide +kernel, rfl, by decide +kernel, by decide +kernel⟩
abbrev N23_ : List Str := ["_law_caught", "_law_some"]
theorem fu : NM_ N23_ fC 0 "_law_caught" := .of (by decide +kernel)
theorem iG : NM_ N23_ fC 1 "_law_some" := .of (by decide +kernel)
theorem wY : GI_ fC "BadText" := by decide +kernel
theorem yq : GI_ fC "Beyond" := by decide +kernel
theorem ux : GI_ fC "NoStretch" := by decide +kernel
theorem uw : GI_ fC "TooNarrow" := by decide +kernel
theorem Br : GI_ fC "Twice" := by decide +kernel
theorem sJ : GI_ fC "ValueError" := by decide +kernel
theorem Gr : GI_ fC "int" := by decide +kernel
theorem dB : GI_ fC "isinstance" := by decide +kernel
theorem Wf : Bn "_law_word" := ⟨by decide +kernel, by decide +kernel⟩
abbrev gM : Stmt := top 43
theorem pO : bF ["_law_text", "_law_found", "_law_caught", "error"] ["_law_text"] (aj gM) := ⟨rfl, rfl, rfl, by decide +kernel, rfl, by decide +kernel, by decide +kernel⟩
abbrev N24_ : List Str := ["_law_text", "_law_found", "_law_caught", "error"]
theorem Px : NM_ N24_ gM 0 "_law_text" := .of (by decide +kernel)
theorem wu : NM_ N24_ gM 1 "_law_found" := .of (by decide +kernel)
theorem rK : NM_ N24_ gM 2 "_law_caught" := .of (by decide +kernel)
theorem Pu : NM_ N24_ gM 3 "error" := .of (by decide +kernel)
theorem uF : GI_ gM "CaseError" := by decide +kernel
theorem Bs : GI_ gM "_law_word" := by decide +kernel
theorem sO : GI_ gM "choice_from" := by decide +kernel
theorem Wg : Bn "_law_told" := ⟨by decide +kernel, by decide +kernel⟩
section
variable {P : Program} {w : World} {K : PySem.W.Frag} {mg : Str -> Option Value} {base : Heap} {f : Addr} {fd : FuncData} {bs : List Str} {aTwice aBeyond aTooNarrow aNoStretch aBadText D N fI ND : Addr}
theorem U7 (hB : ∀ x : Str, x ∈ BLs -> mg x = none) (XC : qg K aBadText D N fI) (Z : XIs K aBadText) (cgTwice : mg "Twice" = some (.ref aTwice)) (cgBeyond : mg "Beyond" = some (.ref aBeyond)) (cgTooNarrow : mg "TooNarrow" = some (.ref aTooNarrow)) (cgNoStretch : mg "NoStretch" = some (.ref aNoStretch)) (cgBadText : mg "BadText" = some (.ref aBadText))
  (i1 : PySem.W.kitOne K (.ref aBadText) (.ref aTwice) = some false) (i2 : PySem.W.kitOne K (.ref aBadText) (.ref aBeyond) = some false) (i3 : PySem.W.kitOne K (.ref aBadText) (.ref aTooNarrow) = some false) (i4 : PySem.W.kitOne K (.ref aBadText) (.ref aNoStretch) = some false) (i5 : PySem.W.kitOne K (.ref aBadText) (.ref aBadText) = some true) (i6 : PySem.W.kitOne K (.ref aBadText) (.type "ValueError") = some true)
  (hno : PySem.W.findIn K (.ref aBadText) "row" = some none)
  (F : Fun K "_law_word" "_law_word" fC f fd) : dh P w K mg base CX0 1 f fd ["_law_caught"] (Hi aBadText "text" "row") := by
 refine F.okq Ai (fun vs H Q E h => ?_) (fun cdv A outer s H vs Q E hr h => ?_)
 ·rcases h with ⟨rfl, _⟩ | ⟨x, dx, j, rfl, _⟩ <;> rfl
 ·refine ⟨_, (aD (cg (aW lg (aq fu) cH (aU _)) (aF (aL cH)) bJ)
   (aD (bL iG Ai.nd (gP (ak (bI mJ dB (hB "isinstance" aN) boot_isinstance aO (ak (aq fu) (ak (kh (v := V.ref aTwice) Br cgTwice rfl Wm) ao))) (ak (bI mJ dB (hB "isinstance" aN) boot_isinstance aO (ak (aq fu) (ak (kh (v := V.ref aBeyond) yq cgBeyond rfl RM) ao))) (ak (bI mJ dB (hB "isinstance" aN) boot_isinstance aO (ak (aq fu) (ak (kh (v := V.ref aTooNarrow) uw cgTooNarrow rfl Ei) ao))) ao)))))
   (aD (bL iG Ai.nd (aH cN (aq iG) (gP (ak (bI mJ dB (hB "isinstance" aN) boot_isinstance aO (ak (aq fu) (ak (kh (v := V.ref aNoStretch) ux cgNoStretch rfl Ej) ao))) (ak (bI mJ dB (hB "isinstance" aN) boot_isinstance aO (ak (aq fu) (ak (kh (v := V.ref aBadText) wY cgBadText rfl Li) ao))) ao)))))
   (aD (cg (lO (fP (aW (iW hr.bM) (T8 K hr.un1 (aq iG) nF) au (aU _)) (fO (fQ (cW (bI mJ dB (hB "isinstance" aN) boot_isinstance aO (ak (aq fu) (ak (gD "ValueError" sJ (hB "ValueError" yp) vo yG) ao)))))))) (aF (aL (bY (ak aG ao)))) bJ)
   (aD (cg (cW (bR eO (aq iG) au (fun _ _ => rfl))) (aF (aL (bY (ak aG (ak (rG XC (aq fu)) (ak (rG XC (aq fu)) (ak (rG XC (aq fu)) ao))))))) bJ)
   (aD (cg (lO (fP (cW (bR eO (aq iG) au (fun _ _ => rfl))) (fO (cW (bR eO (aq iG) au (fun _ _ => rfl)))))) (aF (aL (bY (ak (bR eO (gP (ak aG (ak aG ao))) (jQ qT Gr (hB "int" oO) boot_int pH (ak (bR eO (aq iG) au (fun _ _ => rfl)) ao)) (fun _ _ => rfl)) (ak (rG XC (aq fu)) ao))))) bJ)
   (aF (aL (iR (cW (bR eO (aq iG) au (fun _ _ => rfl))) (bY (ak aG (ak (rG XC (aq fu)) ao))) (bY (ak aG ao))))))))))), ?_⟩
  rcases h with ⟨rfl, q⟩ | ⟨x, dx, j, rfl, hx, hd, q⟩
  ·push_cast
   exact q
  ·refine aK fun k hk => ?_
   push_cast
   subst hk
   refine aK fun k hk => ?_
   push_cast
   refine uo Z hx hd (sy i1) (uo Z hx hd (sy i2) (uo Z hx hd (sy i3) ?_))
   try (push_cast)
   refine ⟨aP (by decide), fun l1 hl1 => ?_⟩
   have s1 := aA (o := HO.lst [V.bl false, V.bl false, V.bl false]) hl1
   have e1 : upd H l1 (HO.lst [V.bl false, V.bl false, V.bl false]) l1 = _ := aB
   generalize upd H l1 (HO.lst [V.bl false, V.bl false, V.bl false]) = H1 at s1 e1 |-
   have hx1 := s1 _ _ hx
   have hd1 := s1 _ _ hd
   subst hk
   refine aK fun k hk => ?_
   push_cast [e1]
   refine uo Z hx1 hd1 (sy i4) (uo Z hx1 hd1 (sy i5) ?_)
   try (push_cast [e1])
   refine ⟨aP (by decide), fun l2 hl2 => ?_⟩
   have s2 := aA (o := HO.lst [V.bl false, V.bl true]) hl2
   have e12 := s2 _ _ e1
   generalize upd H1 l2 (HO.lst [V.bl false, V.bl true]) = H2 at s2 e12 |-
   push_cast [e12]
   refine ⟨aP (by decide), fun l3 hl3 => ?_⟩
   have s3 := aA (o := HO.lst [V.bl false, V.bl false, V.bl false, V.bl false, V.bl true]) hl3
   have e3 : upd H2 l3 (HO.lst [V.bl false, V.bl false, V.bl false, V.bl false, V.bl true]) l3 = _ := aB
   generalize upd H2 l3 (HO.lst [V.bl false, V.bl false, V.bl false, V.bl false, V.bl true]) = H3 at s3 e3 |-
   have hx3 := s3 _ _ (s2 _ _ hx1)
   have hd3 := s3 _ _ (s2 _ _ hd1)
   subst hk
   refine aK fun k hk => ?_
   push_cast [e3]
   refine ⟨_, rfl, l3, rfl, ⟨_, .inl (.inl e3)⟩, _, 1, .inl (.inl e3), ⟨[false, false, false, false, true], true, rfl, rfl, by decide⟩, ?_⟩
   push_cast
   rw [if_neg (by decide)]
   refine uo Z hx3 hd3 (YK i6) ?_
   refine ⟨true, rfl, ?_⟩
   rw [if_neg (by decide)]
   subst hk
   refine aK fun k hk => ?_
   push_cast [e3]
   subst hk
   refine aK fun k hk => ?_
   push_cast [e3, LR]
   refine ⟨V.bl true, rfl, true, rfl, ?_⟩
   rw [if_pos rfl]
   refine ⟨aP (by decide), fun l4 hl4 => ?_⟩
   have s4 := aA (o := HO.lst [V.str "beyond", V.str "text"]) hl4
   have e4 : upd H3 l4 (HO.lst [V.str "beyond", V.str "text"]) l4 = _ := aB
   have e34 := s4 _ _ e3
   generalize upd H3 l4 (HO.lst [V.str "beyond", V.str "text"]) = H4 at s4 e4 e34 |-
   push_cast [e34, e4]
   refine ⟨V.bl true, rfl, ?_⟩
   push_cast [e4]
   have sa := ((s1.trans s2).trans s3).trans s4
   refine ⟨dx, s4 _ _ hx3, _, s4 _ _ hd3, V.int j, rfl, hno, aP (by decide), fun t ht => ?_⟩
   exact q t _ (sa.trans (aA ht)) (sa.none ht) aB
theorem U9 (hB : ∀ x : Str, x ∈ BLs -> mg x = none) (XC : qg K aBadText D N fI) (XD : Wq K D ND) (cgCaseError : mg "CaseError" = some (.ref D)) (CChoiceFrom : Wr P w K mg base "choice_from" 4 ["text"] (Mz aBadText)) (CZWord : Cal P w K mg base "_law_word" 1 ["_law_caught"] (Hi aBadText "text" "row"))
  (F : Fun K "_law_told" "_law_told" gM f fd) : dh P w K mg base CX0 5 f fd ["_law_text"] Hl := by
 refine F.okq pO (fun vs H Q E h => ?_) (fun cdv A outer s H vs Q E hr h => ?_)
 ·obtain ⟨x, rfl, _⟩ := h
  rfl
 ·obtain ⟨x, rfl, hx, q⟩ := h
  refine ⟨_, (aD (gO (bY (ak cH (ak cH ao))) (jo (n := 2) rfl (bh (cL wu pO.nd) (bh (cL rK pO.nd) eU))))
   (aD (Xw (i := 3) ⟨rfl, rfl⟩ pO.nd rfl rfl uF cgCaseError XD XC (fun E1 xe pins hpass => (aF (bL wu pO.nd (Xx CChoiceFrom (hr.mono (by decide)) sO BW hpass (ak (aq Px) ao))))) (fun x => (aF (bL rK pO.nd (aq Pu)))))
   (aF (aL (iR (aW lg (aq rK) cH (aU _)) (aq wu) (bf CZWord (hr.mono (by decide)) Bs Wf (ak (aq rK) ao))))))), ?_⟩
  refine aK fun k hk => ?_
  push_cast
  refine ⟨aP (by decide), fun p0 hp0 => ?_⟩
  have s0 := aA (o := HO.tup [V.non, V.non]) hp0
  generalize upd H p0 (HO.tup [V.non, V.non]) = H0 at s0 |-
  subst hk
  refine aK fun k hk => ?_
  push_cast [W8]
  refine ⟨x, rfl, hx, fun d hg p1 H1 s1 t1 => ?_, fun j hb dx H1 s1 hdx => ⟨rfl, fun y σ' hlen hyn => ?_⟩⟩
  ·subst hk
   push_cast
   refine q _ _ (s0.trans s1) ?_
   unfold qY
   rw [hg]
   exact t1
  ·have sx := aA (o := XR y aBadText (some dx)) hyn
   have ex : upd H1 y (XR y aBadText (some dx)) y = _ := aB
   generalize upd H1 y (XR y aBadText (some dx)) = H2 at sx ex |-
   obtain ⟨a0, a1, a2, a3, rfl⟩ : ∃ a0 a1 a2 a3, σ' = [a0, a1, a2, a3] := by
    match σ', hlen with
    | [a0, a1, a2, a3], _ => exact ⟨a0, a1, a2, a3, rfl⟩
   subst hk
   push_cast [BK]
   refine .inr ⟨y, dx, (j : Int), rfl, ex, sx _ _ hdx, fun t H' s' hn' et => q _ _ (((s0.trans s1).trans sx).trans s') ?_⟩
   unfold qY
   rw [hb]
   exact .tup trivial et (by show 2 <= 1000000; decide) (.cons (.str _) (.cons (.int _) .nil))
end
abbrev dF : Stmt := top 35
theorem Cm : bF ["_law_thing"] ["_law_thing"] (aj dF) := ⟨rfl, rfl, rfl, by decide +kernel, rfl, by decide +kernel, by decide +kernel⟩
abbrev N25_ : List Str := ["_law_thing"]
theorem rT : NM_ N25_ dF 0 "_law_thing" := .of (by decide +kernel)
theorem u9 : GI_ dF "bool" := by decide +kernel
theorem xr : GI_ dF "int" := by decide +kernel
theorem iU : GI_ dF "isinstance" := by decide +kernel
theorem Eh : Bn "_law_is_number" := ⟨by decide +kernel, by decide +kernel⟩
abbrev b8 : Stmt := top 37
theorem tR : bF ["_law_width", "_law_sign", "_law_thing", "_law_least_here", "_law_many"] ["_law_width", "_law_sign", "_law_thing"] (aj b8) := ⟨rfl, rfl, rfl, by decide +kernel, rfl, by decide +kernel, by decide +kernel⟩
abbrev N26_ : List Str := ["_law_width", "_law_sign", "_law_thing", "_law_least_here", "_law_many"]
theorem wM : NM_ N26_ b8 0 "_law_width" := .of (by decide +kernel)
theorem FW : NM_ N26_ b8 1 "_law_sign" := .of (by decide +kernel)
theorem cO : NM_ N26_ b8 2 "_law_thing" := .of (by decide +kernel)
theorem FT : NM_ N26_ b8 3 "_law_least_here" := .of (by decide +kernel)
theorem FQ : NM_ N26_ b8 4 "_law_many" := .of (by decide +kernel)
theorem vd : GI_ b8 "_law_least" := by decide +kernel
theorem nq : GI_ b8 "all" := by decide +kernel
theorem jx : GI_ b8 "isinstance" := by decide +kernel
theorem jE : GI_ b8 "len" := by decide +kernel
theorem Bx : GI_ b8 "str" := by decide +kernel
theorem xu : GI_ b8 "tuple" := by decide +kernel
theorem Ld : Bn "_law_is_item" := ⟨by decide +kernel, by decide +kernel⟩
section
variable {P : Program} {w : World} {K : PySem.W.Frag} {mg : Str -> Option Value} {base : Heap} {f : Addr} {fd : FuncData} {bs : List Str}
theorem J4 (hB : ∀ x : Str, x ∈ BLs -> mg x = none) (F : Fun K "_law_is_number" "_law_is_number" dF f fd) : dh P w K mg base CX0 1 f fd ["_law_thing"] vV := by
 refine F.okq Cm (fun vs H Q E h => ?_) (fun cdv A outer s H vs Q E hr h => ?_)
 ·obtain ⟨v, ok, d, rfl, _⟩ := h
  rfl
 ·obtain ⟨v, ok, d, rfl, t, q⟩ := h
  refine ⟨_, (aF (aL (iB (bI cA iU (hB "isinstance" aN) boot_isinstance aO (ak (aq rT) (ak (gD "int" xr (hB "int" oO) boot_int pH) ao))) (jq (Fv (bI cA iU (hB "isinstance" aN) boot_isinstance aO (ak (aq rT) (ak (gD "bool" u9 (hB "bool" su) boot_bool sY) ao)))))))), ?_⟩
  cases t with
  | non => push_cast; exact q
  | bl b => push_cast; exact q
  | int i => push_cast; exact q
  | str x => push_cast; exact q
  | lst o e z t => push_cast [e]; exact q
  | tup o e z t => push_cast [e]; exact q
theorem FJ (hB : ∀ x : Str, x ∈ BLs -> mg x = none) (CZIsNumber : Cal P w K mg base "_law_is_number" 1 ["_law_thing"] vV) (CZLeast : Cal P w K mg base "_law_least" 1 ["_law_width", "_law_sign"] nW) (F : Fun K "_law_is_item" "_law_is_item" b8 f fd) : dh P w K mg base CX0 2 f fd ["_law_width", "_law_sign", "_law_thing"] Hx := by
 refine F.okq tR (fun vs H Q E h => ?_) (fun cdv A outer s H vs Q E hr h => ?_)
 ·obtain ⟨w, s, v, ok, t, rfl, _⟩ := h
  rfl
 ·obtain ⟨w, s, v, ok, t, rfl, h1, h2, hs, ht, tr, q⟩ := h
  refine ⟨_, (aD (cg (lO (fP (fQ (cW (bI cA jx (hB "isinstance" aN) boot_isinstance aO (ak (aq cO) (ak (gD "tuple" xu (hB "tuple" oN) boot_tuple pG) ao))))) (fP (aW zc (bI dO jE (hB "len" eX) PySem.boot_len fj (ak (aq cO) ao)) (bY (ak au (ak au ao))) (by with_unfolding_all rfl)) (fO (fQ (cW (bI cA jx (hB "isinstance" aN) boot_isinstance aO (ak (bR eO (aq cO) au (fun _ _ => rfl)) (ak (gD "str" Bx (hB "str" iZ) boot_str jc) ao))))))))) (aF (aL nF)) bJ)
   (aD (cg (fQ (cW (bI (gY rfl) nq (hB "all" oR) PyProof.Rows.Boot.«all» pI (ak (fK (NX := ["_law_width", "_law_sign", "_law_thing", "_law_least_here", "_law_many"]) (kX := (aj b8).names) ["_law_one"] [none] rfl rfl ⟨rfl, by decide +kernel, by decide +kernel, by decide +kernel, by decide +kernel⟩ rfl (dw (dG uX (aq cO) (dZ au) d7)) (fun _ _ _ _ _ => (dM 0 (show List.Nodup (["_law_one"] : List Str) from by decide +kernel) rfl (Or.inl rfl))) (fun _ _ _ _ _ => fG) (fun _ _ _ _ _ => (bf CZIsNumber (hr.mono (by decide)) rfl Eh (ak (iQ 0) ao)))) ao)))) (aF (aL nF)) bJ)
   (aD (gO (bY (ak (bf CZLeast (hr.mono (by decide)) vd sZ (ak (aq wM) (ak (aq FW) ao))) (ak (aH iC au (aq wM)) ao))) (jo (n := 2) rfl (bh (cL FT tR.nd) (bh (cL FQ tR.nd) eU))))
   (aD (cg (aW (cM hr.bM) (bR eO (aq cO) au (fun _ _ => rfl)) aG (aU _)) (aF (aL (iB (fD (cM hr.bM) (bI dO jE (hB "len" eX) PySem.boot_len fj (ak (aq cO) ao)) au (aU _)) (jq (bI (gY rfl) nq (hB "all" oR) PyProof.Rows.Boot.«all» pI (ak (fK (NX := ["_law_width", "_law_sign", "_law_thing", "_law_least_here", "_law_many"]) (kX := (aj b8).names) ["_law_one", "_law_many"] [none, some 4] rfl rfl ⟨rfl, by decide +kernel, by decide +kernel, by decide +kernel, by decide +kernel⟩ rfl (dw (dG uX (aq cO) (dZ au) d7)) (fun _ _ _ _ _ => (dM 0 (show List.Nodup (["_law_one", "_law_many"] : List Str) from by decide +kernel) rfl (Or.inl rfl))) (fun _ _ _ _ _ => fG) (fun _ _ _ _ _ => (jR fV qt au (iQ 0) (iQ 1)))) ao)))))) bJ)
   (aD (cg (fQ (cW (bI (gY rfl) nq (hB "all" oR) PyProof.Rows.Boot.«all» pI (ak (fK (NX := ["_law_width", "_law_sign", "_law_thing", "_law_least_here", "_law_many"]) (kX := (aj b8).names) ["_law_one", "_law_least_here", "_law_many"] [none, some 3, some 4] rfl rfl ⟨rfl, by decide +kernel, by decide +kernel, by decide +kernel, by decide +kernel⟩ rfl (dw (dG uX (aq cO) (dZ au) d7)) (fun _ _ _ _ _ => (dM 0 (show List.Nodup (["_law_one", "_law_least_here", "_law_many"] : List Str) from by decide +kernel) rfl (Or.inl rfl))) (fun _ _ _ _ _ => fG) (fun _ _ _ _ _ => (jR fV qt (iQ 1) (iQ 0) (aH cN (iQ 1) (iQ 2))))) ao)))) (aF (aL nF)) bJ)
   (aF (aL (Zz (iB (fD (cM hr.bM) (bR eO (aq cO) au (fun _ _ => rfl)) aG (aU _)) (jq (fD (cM hr.bM) (bI dO jE (hB "len" eX) PySem.boot_len fj (ak (aq cO) ao)) au (aU _)))) (jq (iB (fD (cM hr.bM) (bR eO (aq cO) au (fun _ _ => rfl)) aG (aU _)) (iB (fD (cM hr.bM) (bI dO jE (hB "len" eX) PySem.boot_len fj (ak (aq cO) ao)) au (aU _)) (jq (fD fV (bR eO (aq cO) au (fun _ _ => rfl)) (bR eO (aq cO) au (fun _ _ => rfl)) (aU _)))))))))))))), ?_⟩
  obtain ⟨p, w0, is, rfl, ep, hF, hw⟩ := Qu ht tr
  rw [hF] at q
  clear tr hF ht
  have hil : is.length = 1 \/ is.length = 2 := by rcases hw with hw | hw <;> omega
  have g0 : atI (V.str w0 :: is.map V.int) 0 = some (V.str w0) := cT (j := 0) rfl
  have hcut : j8 (V.str w0 :: is.map V.int) (some 1) none = is.map V.int := (jm (V.str w0 :: is.map V.int) 1 (by rw [List.length_cons]; omega)).trans rfl
  have hlm : (V.str w0 :: is.map V.int).length = is.length + 1 := by rw [List.length_cons, List.length_map]
  have bw := pL h1 h2 hs
  refine aK fun k hk => ?_
  push_cast [ep, g0]
  refine ⟨aP (by decide), fun t2 ht2 => ⟨rfl, rfl, ?_⟩⟩
  have s1 := aA (o := HO.tup [V.int 2, V.int 3]) ht2
  have e1 := s1 _ _ ep
  generalize upd H t2 (HO.tup [V.int 2, V.int 3]) = H1 at s1 e1 |-
  rw [aaj, List.length_map, if_neg (by rcases hil with z | z <;> rw [z] <;> decide)]
  push_cast [e1, g0]
  subst hk
  refine aK fun k hk => ?_
  push_cast
  refine eH fun R hR => ?_
  push_cast [e1, hcut]
  refine ⟨fun z => absurd z.1 (by unfold HT.sIx; simp), fun p2 hp2 => ?_⟩
  have s2 := s1.trans (aA (o := HO.tup (is.map V.int)) hp2)
  have e2 : upd H1 p2 (HO.tup (is.map V.int)) p2 = _ := aB
  replace e1 := aA (o := HO.tup (is.map V.int)) hp2 _ _ e1
  generalize upd H1 p2 (HO.tup (is.map V.int)) = H2 at s2 e1 e2 |-
  refine jF bO (fun τ => ∃ o1, τ = [o1]) hR (tL (ok := fun _ => True) is) e2 (by rw [List.length_map]; omega) ⟨none, rfl⟩ ?_ ?_
  ·rintro x1 d1 τ H3 Qn _ s3 t3 ⟨o1, rfl⟩ qn
   push_cast
   exact ⟨x1, _, d1, rfl, t3, qn _ _ ⟨_, rfl⟩ (Same.refl _)⟩
  ·intro H3 l s3 hl
   have s5 := s3.trans (aA (o := HO.lst (((is.map PyData.int).map bO).map V.bl)) hl)
   have e5 : upd H3 l (HO.lst (((is.map PyData.int).map bO).map V.bl)) l = _ := aB
   generalize upd H3 l (HO.lst (((is.map PyData.int).map bO).map V.bl)) = H5 at s5 e5 |-
   push_cast [e5]
   refine ⟨_, rfl, ?_⟩
   have hall : ((is.map PyData.int).map bO).all id = true := by
    rw [List.map_map, List.all_map]
    exact List.all_eq_true.mpr fun _ _ => rfl
   rw [hall, if_neg (by decide)]
   replace e1 := s5 _ _ e1
   replace s5 := s2.trans s5
   clear s2 e2 e5 hR hl s3 s1
   subst hk
   refine aK fun k hk => ?_
   push_cast
   refine ⟨w, s, rfl, h1, h2, hs, ?_⟩
   push_cast [Int.one_mul]
   refine ⟨⟨by omega, by omega, by decide⟩, aP (by decide), fun p6 hp6 => ?_⟩
   have s6 := s5.trans (aA (o := HO.tup [V.int (wl w s), V.int (2 ^ w.toNat)]) hp6)
   replace e1 := aA (o := HO.tup [V.int (wl w s), V.int (2 ^ w.toNat)]) hp6 _ _ e1
   generalize upd H5 p6 (HO.tup [V.int (wl w s), V.int (2 ^ w.toNat)]) = H6 at s6 e1 |-
   subst hk
   have each : ∀ (g : Int -> Bool) (okT : L2.St -> Prop) {R2 : It -> Hp -> Prop} {mp : List (Option Nat)} {gg : TG} {te : TE} {σ : L2.St} {Q2 : VK} (_ : R2 = xX mp gg Ew te σ Q2) (_ : okT (jM mp σ))
     (_ : ∀ (a : Int) τ H1 (Qn : V -> L2.St -> Hp -> Prop), okT τ -> (∀ τ1, okT τ1 -> Qn (.bl (g a)) τ1 H1) -> gg (.int a) τ H1 fun τ1 H4 => te τ1 H4 fun v H6 => Qn v τ1 H6)
     (_ : ∀ (l : Addr) H', Same H6 H' -> H' l = some (.lst (((is.map PyData.int).map (onI g)).map V.bl)) -> Q2 (.ref l) H'),
     ∀ sl, H6 sl = none -> R2 (Itt K sl) (upd H6 sl (HO.tup (is.map V.int))) := by
    intro g okT R2 mp gg te σ Q2 hR2 h0 hb hd sl hsl
    refine jF (onI g) okT hR2 (tL (ok := fun _ => True) is) aB (by rw [List.length_map]; omega) h0 ?_ ?_
    ·intro x1 d1 τ H3 Qn _ _ t3 hτ qn
     obtain ⟨a, _, rfl⟩ := List.mem_map.mp ‹d1 ∈ _›
     cases t3
     exact hb a τ H3 Qn hτ fun τ1 h => qn _ _ h (Same.refl _)
    ·intro H3 l s3 hl
     exact hd l _ (((aA hsl).trans s3).trans (aA hl)) aB
   refine aK fun k hk => ?_
   push_cast [e1, g0]
   by_cases cb : w0 = "bits"
   ·subst cb
    have hl2 : is.length = 2 := by rcases hw with hw | hw; exact absurd hw.1 (by decide +kernel); exact hw.2
    rw [if_pos rfl, List.length_map, if_pos (by omega)]
    refine eH fun R2 hR2 => ?_
    push_cast [e1, hcut]
    refine ⟨fun z => absurd z.1 (by unfold HT.sIx; simp), ?_⟩
    refine each (upB w) (fun τ => ∃ o1, τ = [o1, some (.int (2 ^ w.toNat))]) hR2 ⟨none, rfl⟩ ?_ ?_
    ·rintro a τ H3 Qn ⟨o1, rfl⟩ qn
     push_cast
     have qq := qn [some (.int a), some (.int (2 ^ w.toNat))] ⟨_, rfl⟩
     unfold upB at qq
     split
     ·rename_i c
      rw [decide_eq_true c, Bool.true_and] at qq
      exact qq
     ·rename_i c
      rw [decide_eq_false c, Bool.false_and] at qq
      exact qq
    ·intro l H7 s7 e7
     push_cast [e7]
     refine ⟨_, rfl, ?_⟩
     have qq := q H7 (s6.trans s7)
     rw [DN hl2, <- Ih] at qq
     exact qq
   ·rw [if_neg cb]
    subst hk
    refine aK fun k hk => ?_
    push_cast
    refine eH fun R2 hR2 => ?_
    push_cast [e1, hcut]
    refine ⟨fun z => absurd z.1 (by unfold HT.sIx; simp), ?_⟩
    refine each (inB w s) (fun τ => ∃ o1, τ = [o1, some (.int (wl w s)), some (.int (2 ^ w.toNat))]) hR2 ⟨none, rfl⟩ ?_ ?_
    ·rintro a τ H3 Qn ⟨o1, rfl⟩ qn
     push_cast
     have qq := qn [some (.int a), some (.int (wl w s)), some (.int (2 ^ w.toNat))] ⟨_, rfl⟩
     unfold inB at qq
     split
     ·rename_i c
      rw [decide_eq_true c, Bool.true_and] at qq
      exact qq
     ·rename_i c
      rw [decide_eq_false c, Bool.false_and] at qq
      exact qq
    ·intro l H7 s7 e7
     push_cast [e7]
     refine ⟨_, rfl, ?_⟩
     rw [Ih]
     have qq := q H7 (s6.trans s7)
     replace e1 := s7 _ _ e1
     rcases hw with ⟨rfl, hl1⟩ | ⟨hw, hl2⟩
     ·rw [Ku hl1] at qq
      cases ca : is.all (inB w s) with
      | false =>
       rw [ca] at qq
       exact qq
      | true =>
       rw [ca] at qq
       rw [if_neg (by decide)]
       subst hk
       push_cast [e1, g0]
       rw [List.length_map, hl1]
       exact qq
     ·obtain rfl : w0 = "from" := hw.resolve_right cb
      obtain ⟨a, b, rfl⟩ : ∃ a b, is = [a, b] := by
       match is, hl2 with
       | [a, b], _ => exact ⟨a, b, rfl⟩
      replace qq : Q (.bl (bK w s (.tuple [.str "from", .int a, .int b]))) H7 := qq
      rw [DK] at qq
      cases ca : [a, b].all (inB w s) with
      | false =>
       rw [ca, Bool.false_and] at qq
       exact qq
      | true =>
       rw [ca, Bool.true_and] at qq
       rw [if_neg (by decide)]
       subst hk
       push_cast [e1, g0, List.map_cons, List.map_nil]
       exact qq
abbrev bU : Stmt := top 39
theorem fL : bF ["_law_word_here", "_law_mark", "_law_sort", "_law_at", "_law_one", "_law_other", "_law_number_here"] ["_law_word_here"] (aj bU) := ⟨rfl, rfl, rfl, by decide +kernel, rfl, by decide +kernel, by decide +kernel⟩
abbrev N27_ : List Str := ["_law_word_here", "_law_mark", "_law_sort", "_law_at", "_law_one", "_law_other", "_law_number_here"]
theorem jB : NM_ N27_ bU 0 "_law_word_here" := .of (by decide +kernel)
theorem mW : NM_ N27_ bU 1 "_law_mark" := .of (by decide +kernel)
theorem rJ : NM_ N27_ bU 2 "_law_sort" := .of (by decide +kernel)
theorem jA : NM_ N27_ bU 3 "_law_at" := .of (by decide +kernel)
theorem mV : NM_ N27_ bU 4 "_law_one" := .of (by decide +kernel)
theorem mU : NM_ N27_ bU 5 "_law_other" := .of (by decide +kernel)
theorem mR : NM_ N27_ bU 6 "_law_number_here" := .of (by decide +kernel)
theorem eZ : GI_ bU "_law_word_number" := by decide +kernel
theorem wZ : GI_ bU "len" := by decide +kernel
theorem Ed : Bn "_law_word_item" := ⟨by decide +kernel, by decide +kernel⟩
theorem CZ (hB : ∀ x : Str, x ∈ BLs -> mg x = none) (CZWordNumber : Cal P w K mg base "_law_word_number" 1 ["_law_word_here"] nU) (F : Fun K "_law_word_item" "_law_word_item" bU f fd) : dh P w K mg base CX0 2 f fd ["_law_word_here"] Hj := by
 refine F.okq fL (fun vs H Q E h => ?_) (fun cdv A outer s H vs Q E hr h => ?_)
 ·obtain ⟨x, ok, rfl, _⟩ := h
  rfl
 ·obtain ⟨x, ok, rfl, hl, hn, qn, qy⟩ := h
  refine ⟨_, (aD (jP PassesOwn.never rfl (dw (bY (ak (bY (ak aG (ak aG ao))) (ak (bY (ak aG (ak aG ao))) ao)))) (jo (n := 2) rfl (bh (cL mW fL.nd) (bh (cL rJ fL.nd) eU)))
   (aD (bL jA fL.nd (iz PySem.F.slot_str_find PySem.F.type_str_find Vi (aq jB) (ak (aq mW) ao)))
   (aF (cg (aW WK (aq jA) au (aU _)) (aD (bL mV fL.nd (bf CZWordNumber (hr.mono (by decide)) eZ ji (ak (dG Sw (aq jB) d7 (dZ (aq jA))) ao)))
   (aD (bL mU fL.nd (bf CZWordNumber (hr.mono (by decide)) eZ ji (ak (dG Sw (aq jB) (dZ (aH bT (aq jA) (bI jK wZ (hB "len" eX) PySem.boot_len fj (ak (aq mW) ao)))) d7) ao)))
   (aF (aL (iR (lO (fP (aW lg (aq mV) cH (aU _)) (fO (aW lg (aq mU) cH (aU _))))) cH (bY (ak (aq rJ) (ak (aq mV) (ak (aq mU) ao))))))))) bJ))))
   (aD (bL mR fL.nd (bf CZWordNumber (hr.mono (by decide)) eZ ji (ak (aq jB) ao)))
   (aF (aL (iR (aW lg (aq mR) cH (aU _)) cH (bY (ak aG (ak (aq mR) ao)))))))), ?_⟩
  refine aK fun k hk => ?_
  refine pC fun R hR => ?_
  push_cast [rdG]
  refine ⟨aP (by decide), fun p1 hp1 => ⟨aP (by decide), fun p2 hp2 => ⟨aP (by decide), fun p3 hp3 => ?_⟩⟩⟩
  have s1 := aA (o := HO.tup [V.str "..", V.str "from"]) hp1
  have e1 : upd H p1 (HO.tup [V.str "..", V.str "from"]) p1 = _ := aB
  generalize upd H p1 (HO.tup [V.str "..", V.str "from"]) = H1 at s1 e1 hp2 hp3 |-
  have s2 := aA (o := HO.tup [V.str "&", V.str "bits"]) hp2
  have e2 : upd H1 p2 (HO.tup [V.str "&", V.str "bits"]) p2 = _ := aB
  replace e1 := s2 _ _ e1
  replace s2 := s1.trans s2
  generalize upd H1 p2 (HO.tup [V.str "&", V.str "bits"]) = H2 at s2 e1 e2 hp3 |-
  have s3 := aA (o := HO.tup [V.ref p1, V.ref p2]) hp3
  have e3 : upd H2 p3 (HO.tup [V.ref p1, V.ref p2]) p3 = _ := aB
  replace e1 := s3 _ _ e1
  replace e2 := s3 _ _ e2
  replace s3 := s2.trans s3
  generalize upd H2 p3 (HO.tup [V.ref p1, V.ref p2]) = H3 at s3 e1 e2 e3 |-
  try push_cast [e3]
  obtain ⟨Pv, hPv⟩ : ∃ Pv : Nat -> L2.St -> Hp -> Prop, Pv = fun (i : Nat) σ H' => H' = H3 /\ (0 < i -> jt x ".." = none) /\ (1 < i -> jt x "&" = none) /\ ∃ o1 o2 o3 o4 o5 o6, σ = [some (.str x), o1, o2, o3, o4, o5, o6] := ⟨_, rfl⟩
  have two : ∀ (y w0 a b : Str), y.length <= sizeLine -> u0 x = (w0, [a, b]) -> a.length <= x.length -> b.length <= x.length -> nU [V.str a] H3 (fun v1 H1 => y.length <= sizeLine /\ x.length <= sizeLine /\ nU [V.str b] H1 (fun v2 H1 => if v1 = V.non then Q V.non H1 else if v2 = V.non then Q V.non H1 else
    3 <= sizeLine /\ ∀ (p : Addr), H1 p = none -> Q (V.ref p) (upd H1 p (HO.tup [V.str w0, v1, v2]))) E0) E0 := by
   intro y w0 a b hy hw ha hb
   refine ⟨a, rfl, Nat.le_trans ha hl, fun H4 s4 => ⟨hy, hl, b, rfl, Nat.le_trans hb hl, fun H5 s5 => ?_⟩⟩
   have s6 := s3.trans (s4.trans s5)
   have hok : iK x = (aY a && aY b) := by unfold iK; rw [hw]; simp
   have hno : ∀ z : Str, eN z = V.non -> aY z = false := fun z h => by
    cases e : aY z with
    | false => rfl
    | true => unfold eN at h; rw [if_pos e] at h; cases h
   have hyes : ∀ z : Str, eN z ≠ V.non -> aY z = true := fun z h => by
    cases e : aY z with
    | true => rfl
    | false => unfold eN at h; rw [if_neg (by rw [e]; decide)] at h; exact absurd rfl h
   show (if eN a = V.non then Q V.non H5 else if eN b = V.non then Q V.non H5 else 3 <= sizeLine /\ ∀ (p : Addr), H5 p = none -> Q (V.ref p) (upd H5 p (HO.tup [V.str w0, eN a, eN b])))
   by_cases c : eN a = V.non
   ·rw [if_pos c]
    exact qn (by rw [hok, hno a c, Bool.false_and]) _ s6
   ·rw [if_neg c]
    by_cases d : eN b = V.non
    ·rw [if_pos d]
     exact qn (by rw [hok, hno b d, Bool.and_false]) _ s6
    ·rw [if_neg d]
     refine ⟨aP (by decide), fun p hp => qy (by rw [hok, hyes a c, hyes b d]; rfl) p _ _ (s6.trans (aA hp)) aB ?_⟩
     unfold dX
     rw [hw]
     exact .tup (hn _ _ s6 hp) aB (by show 3 <= 1000000; decide) (.cons (.str _) (.cons (gU a) (.cons (gU b) .nil)))
  refine WM hR (xs := [V.ref p1, V.ref p2]) Pv (by rw [hPv]; exact ⟨rfl, fun z => absurd z (by decide), fun z => absurd z (by decide), _, _, _, _, _, _, rfl⟩) ?_ ?_ ?_
  ·intro i σ H' pv
   rw [hPv] at pv
   rw [pv.1]
   exact e3
  ·intro i v σ H' hi pv
   rw [hPv] at pv
   obtain ⟨rfl, c1, c2, o1, o2, o3, o4, o5, o6, rfl⟩ := pv
   match i, hi with
   | 0, hi =>
    cases hi
    push_cast [rdG, rdX, e1]
    cases h1 : jt x ".." with
    | some ab =>
     obtain ⟨i0, f1, f2, f3⟩ := find_some (a := ab.1) (b := ab.2) h1
     have hc := vI (a := ab.1) (b := ab.2) h1
     rw [f1, if_pos (by omega), f2, f3]
     exact ⟨hl, two ".." "from" ab.1 ab.2 (by decide +kernel) (Bo h1) hc.1 hc.2⟩
    | none =>
     rw [find_none h1, if_neg (by decide), hPv]
     exact ⟨rfl, fun _ => h1, fun z => absurd z (by decide), _, _, _, _, _, _, rfl⟩
   | 1, hi =>
    cases hi
    have h0 := c1 (by decide)
    push_cast [rdG, rdX, e2]
    cases h1 : jt x "&" with
    | some ab =>
     obtain ⟨i0, f1, f2, f3⟩ := find_some (a := ab.1) (b := ab.2) h1
     have hc := vI (a := ab.1) (b := ab.2) h1
     rw [f1, if_pos (by omega), f2, f3]
     exact ⟨hl, two "&" "bits" ab.1 ab.2 (by decide +kernel) (Gj h0 h1) hc.1 hc.2⟩
    | none =>
     rw [find_none h1, if_neg (by decide), hPv]
     exact ⟨rfl, fun _ => h0, fun _ => h1, _, _, _, _, _, _, rfl⟩
  ·intro σ H' pv
   rw [hPv] at pv
   obtain ⟨rfl, c1, c2, o1, o2, o3, o4, o5, o6, rfl⟩ := pv
   show k _ _
   subst hk
   push_cast [rdG]
   have h0 := c1 (show 0 < 2 by decide)
   have h1 := c2 (show 1 < 2 by decide)
   have hw := Gi h0 h1
   refine ⟨x, rfl, hl, fun H4 s4 => ?_⟩
   have s6 := s3.trans s4
   have hok : iK x = aY x := by unfold iK; rw [hw]; simp
   push_cast [rdG]
   unfold eN
   cases e : aY x with
   | false => exact qn (by rw [hok, e]) _ s6
   | true =>
    refine ⟨aP (by decide), fun p hp => qy (by rw [hok, e]) p _ _ (s6.trans (aA hp)) aB ?_⟩
    unfold dX
    rw [hw]
    have := gU (ok := ok) (H := upd H4 p (HO.tup [V.str "is", V.int (cU x)])) x
    unfold eN at this
    rw [if_pos e] at this
    exact .tup (hn _ _ s6 hp) aB (by show 2 <= 1000000; decide) (.cons (.str _) (.cons this .nil))
abbrev dJ : Stmt := top 40
theorem iu : bF ["_law_text", "_law_rows", "_law_words_here", "_law_numbers", "_law_width", "_law_sign", "_law_cases", "_law_k", "_law_row", "_law_items"] ["_law_text"] (aj dJ) := ⟨rfl, rfl, rfl, by decide +kernel, rfl, by decide +kernel, by decide +kernel⟩
abbrev N28_ : List Str := ["_law_text", "_law_rows", "_law_words_here", "_law_numbers", "_law_width", "_law_sign", "_law_cases", "_law_k", "_law_row", "_law_items"]
theorem Pz : NM_ N28_ dJ 0 "_law_text" := .of (by decide +kernel)
theorem wF : NM_ N28_ dJ 1 "_law_rows" := .of (by decide +kernel)
theorem lV : NM_ N28_ dJ 2 "_law_words_here" := .of (by decide +kernel)
theorem rO : NM_ N28_ dJ 3 "_law_numbers" := .of (by decide +kernel)
theorem wD : NM_ N28_ dJ 4 "_law_width" := .of (by decide +kernel)
theorem wC : NM_ N28_ dJ 5 "_law_sign" := .of (by decide +kernel)
theorem wB : NM_ N28_ dJ 6 "_law_cases" := .of (by decide +kernel)
theorem Dh : NM_ N28_ dJ 7 "_law_k" := .of (by decide +kernel)
theorem Dg : NM_ N28_ dJ 8 "_law_row" := .of (by decide +kernel)
theorem rN : NM_ N28_ dJ 9 "_law_items" := .of (by decide +kernel)
theorem Gy : GI_ dJ "all" := by decide +kernel
theorem uG : GI_ dJ "enumerate" := by decide +kernel
theorem Gx : GI_ dJ "len" := by decide +kernel
theorem Wi : Bn "_law_read" := ⟨by decide +kernel, by decide +kernel⟩
theorem Vc (hB : ∀ x : Str, x ∈ BLs -> mg x = none) (CZWordNumber : Cal P w K mg base "_law_word_number" 1 ["_law_word_here"] nU) (CZWordItem : Cal P w K mg base "_law_word_item" 2 ["_law_word_here"] Hj) (CZIsItem : Cal P w K mg base "_law_is_item" 2 ["_law_width", "_law_sign", "_law_thing"] Hx) (F : Fun K "_law_read" "_law_read" dJ f fd) : dh P w K mg base CX0 3 f fd ["_law_text"] Hr := by
 refine F.okq iu (fun vs H Q E h => ?_) (fun cdv A outer s H vs Q E hr h => ?_)
 ·obtain ⟨x, rfl, _⟩ := h
  rfl
 ·obtain ⟨x, rfl, hx, qy, qn⟩ := h
  refine ⟨_, (aD (bL wF iu.nd (iz PySem.F.slot_str_split PySem.F.type_str_split gG (aq Pz) (ak aG ao)))
   (aD (bL lV iu.nd (iz PySem.F.slot_str_split PySem.F.type_str_split gG (bR eO (aq wF) au (fun _ _ => rfl)) (ak aG ao)))
   (aD (vz (NX := ["_law_text", "_law_rows", "_law_words_here", "_law_numbers", "_law_width", "_law_sign", "_law_cases", "_law_k", "_law_row", "_law_items"]) (kX := (aj dJ).names) ["_law_word_here"] [none] rO iu.nd rfl rfl ⟨rfl, by decide +kernel, by decide +kernel, by decide +kernel, by decide +kernel⟩ rfl (dw (dG uX (aq lV) (dZ au) d7)) (fun _ _ _ _ _ => (dM 0 (show List.Nodup (["_law_word_here"] : List Str) from by decide +kernel) rfl (Or.inl rfl))) (fun _ _ _ _ _ => fG) (fun _ _ _ _ _ => (bf CZWordNumber (hr.mono (by decide)) rfl ji (ak (iQ 0) ao))))
   (aD (cg (lO (fP (aW (iW hr.bM) (bR eO (aq lV) au (fun _ _ => rfl)) aG (aU _)) (fP (aW (iW hr.bM) (bI dO Gx (hB "len" eX) PySem.boot_len fj (ak (aq rO) ao)) au (aU _)) (fO (aW Fx cH (aq rO) (by with_unfolding_all rfl)))))) (aF (aL (bY (ak cH (ak au ao))))) bJ)
   (aD (gO (aq rO) (Ba (n := 2) rfl (bh (cL wD iu.nd) (bh (cL wC iu.nd) eU))))
   (aD (cg (lO (fP (fQ (rF fV fV au (aq wD) au)) (fO (fQ (rF fV fV au (aq wC) au))))) (aF (aL (bY (ak cH (ak au ao))))) bJ)
   (aD (bL wB iu.nd (gP ao))
   (aD (jP PassesOwn.never rfl (T4 uG (hB "enumerate" rZ) (ak (dG uX (aq wF) (dZ au) d7) ao)) (Ba (n := 2) rfl (bh (cL Dh iu.nd) (bh (cL Dg iu.nd) eU)))
   (aD (bL lV iu.nd (iz PySem.F.slot_str_split PySem.F.type_str_split gG (aq Dg) (ak aG ao)))
   (aD (vz (NX := ["_law_text", "_law_rows", "_law_words_here", "_law_numbers", "_law_width", "_law_sign", "_law_cases", "_law_k", "_law_row", "_law_items"]) (kX := (aj dJ).names) ["_law_word_here"] [none] rN iu.nd rfl rfl ⟨rfl, by decide +kernel, by decide +kernel, by decide +kernel, by decide +kernel⟩ rfl (dw (dG uX (aq lV) (dZ au) d7)) (fun _ _ _ _ _ => (dM 0 (show List.Nodup (["_law_word_here"] : List Str) from by decide +kernel) rfl (Or.inl rfl))) (fun _ _ _ _ _ => fG) (fun _ _ _ _ _ => (bf CZWordItem (hr.mono (by decide)) rfl Ed (ak (iQ 0) ao))))
   (aD (cg (lO (fP (aW (iW hr.bM) (bR eO (aq lV) au (fun _ _ => rfl)) aG (aU _)) (fP (aW (Yt hr.un1) cH (aq rN) (by with_unfolding_all rfl)) (fO (fQ (cW (bI (gY rfl) Gy (hB "all" oR) PyProof.Rows.Boot.«all» pI (ak (fK (NX := ["_law_text", "_law_rows", "_law_words_here", "_law_numbers", "_law_width", "_law_sign", "_law_cases", "_law_k", "_law_row", "_law_items"]) (kX := (aj dJ).names) ["_law_item_here", "_law_width", "_law_sign"] [none, some 4, some 5] rfl rfl ⟨rfl, by decide +kernel, by decide +kernel, by decide +kernel, by decide +kernel⟩ rfl (dw (aq rN)) (fun _ _ _ _ _ => (dM 0 (show List.Nodup (["_law_item_here", "_law_width", "_law_sign"] : List Str) from by decide +kernel) rfl (Or.inl rfl))) (fun _ _ _ _ _ => fG) (fun _ _ _ _ _ => (bf CZIsItem (hr.mono (by decide)) rfl Ld (ak (iQ 1) (ak (iQ 2) (ak (iQ 0) ao)))))) ao)))))))) (aF (aL (bY (ak cH (ak (aH cN (aq Dh) au) ao))))) bJ)
   (aF (j9 (pR (aq wB) (aq rN))))))))
   (aF (aL (bY (ak (bY (ak (aq wD) (ak (aq wC) (ak (aq wB) ao)))) (ak cH ao))))))))))))), ?_⟩
  obtain ⟨rl1, rl2⟩ := CJ x
  obtain ⟨r0, rs, hrs⟩ : ∃ r0 rs, rowsOf x = r0 :: rs := by
   cases e : rowsOf x with
   | nil => exact absurd e (yZ x)
   | cons a b => exact ⟨a, b, rfl⟩
  have hsp : Txt.split x "\n" = r0 :: rs := hrs
  rw [hrs] at rl1 rl2
  rw [List.length_cons] at rl1
  have words : ∀ r ∈ r0 :: rs, ∃ w0 ts, Txt.split r " " = w0 :: ts /\ r.length <= sizeLine /\ ts.length <= 900000 /\ ∀ t ∈ w0 :: ts, t.length <= sizeLine := fun r hr => by
   obtain ⟨w0, ts, e⟩ := nT r
   have h1 := pK r
   rw [e, List.length_cons] at h1
   have h2 := rl2 r hr
   have h3 : r.length <= sizeLine := by rw [sizeLine_eq]; omega
   refine ⟨w0, ts, e, h3, by omega, fun t ht => ?_⟩
   rw [<- e, qj] at ht
   exact Nat.le_trans (lR r 32 t ht) h3
  refine aK fun k hk => ?_
  push_cast [rdG]
  rw [hsp]
  refine ⟨by decide, by rw [sizeLine_eq]; omega, aP (by rw [List.length_cons]; omega), fun p hp => ?_⟩
  have s1 := aA (o := HO.lst ((r0 :: rs).map V.str)) hp
  have e1 : upd H p (HO.lst ((r0 :: rs).map V.str)) p = some (.lst (V.str r0 :: rs.map V.str)) := aB
  generalize upd H p (HO.lst ((r0 :: rs).map V.str)) = H1 at s1 e1 |-
  subst hk
  refine aK fun k hk => ?_
  have h0 : atI (V.str r0 :: rs.map V.str) 0 = some (V.str r0) := cT (j := 0) rfl
  obtain ⟨w0, ts, hw, hrl, htn, htl⟩ := words r0 List.mem_cons_self
  push_cast [rdG, e1, h0]
  rw [hw]
  refine ⟨by decide, hrl, aP (by rw [List.length_cons]; omega), fun p2 hp2 => ?_⟩
  have s12 := aA (o := HO.lst ((w0 :: ts).map V.str)) hp2
  have e2 : upd H1 p2 (HO.lst ((w0 :: ts).map V.str)) p2 = some (.lst (V.str w0 :: ts.map V.str)) := aB
  replace e1 := s12 _ _ e1
  have s2 := s1.trans s12
  generalize upd H1 p2 (HO.lst ((w0 :: ts).map V.str)) = H2 at s12 s2 e1 e2 |-
  subst hk
  refine aK fun k hk => ?_
  have g0 : atI (V.str w0 :: ts.map V.str) 0 = some (V.str w0) := cT (j := 0) rfl
  have hcut : j8 (V.str w0 :: ts.map V.str) (some 1) none = ts.map V.str := (jm ((w0 :: ts).map V.str) 1 (by rw [List.length_map, List.length_cons]; omega)).trans rfl
  push_cast
  refine eH fun R hR => ?_
  push_cast [e2, hcut]
  intro p3 hp3
  have s23 := aA (o := HO.lst (ts.map V.str)) hp3
  have e3 : upd H2 p3 (HO.lst (ts.map V.str)) p3 = _ := aB
  replace e1 := s23 _ _ e1
  replace e2 := s23 _ _ e2
  have s3 := s2.trans s23
  generalize upd H2 p3 (HO.lst (ts.map V.str)) = H3 at s23 s3 e1 e2 e3 |-
  obtain ⟨Pc, hPc⟩ : ∃ Pv : Nat -> List V -> L2.St -> Hp -> Prop, Pv = fun (i : Nat) acc τ H' => ∃ (o1 : Option V), Same H3 H' /\ acc = (ts.take i).map eN /\ τ = [o1] := ⟨_, rfl⟩
  refine qQ hR (xs := ts.map V.str) (aP (by rw [List.length_map]; omega)) Pc (by rw [hPc]; exact ⟨none, Same.refl _, rfl, rfl⟩) ?_ ?_ ?_ ?_
  ·intro i acc τ H4 pc
   rw [hPc] at pc
   obtain ⟨_, _, rfl, _⟩ := pc
   rw [List.length_map]
   exact List.length_take_le _ _
  ·intro i acc τ H4 pc
   rw [hPc] at pc
   obtain ⟨_, s4, _⟩ := pc
   exact SqL.of (s4 _ _ e3)
  ·intro i v acc τ H4 hv pc
   rw [hPc] at pc
   obtain ⟨_, s4, rfl, rfl⟩ := pc
   rw [List.getElem?_map] at hv
   obtain ⟨t, ht1, rfl⟩ := Option.map_eq_some_iff.mp hv
   push_cast
   refine ⟨t, rfl, htl t (List.mem_cons_of_mem _ (List.mem_of_getElem? ht1)), fun H5 s5 => ?_⟩
   rw [hPc]
   refine ⟨_, s4.trans s5, ?_, rfl⟩
   rw [take_snoc ht1, List.map_append]
   rfl
  ·intro acc τ H4 d pc hd
   rw [hPc] at pc
   obtain ⟨_, s34, rfl, rfl⟩ := pc
   rw [List.length_map, List.take_length]
   have s45 := s34.trans (aA (o := HO.lst (ts.map eN)) hd)
   have e5 : upd H4 d (HO.lst (ts.map eN)) d = _ := aB
   replace e1 := s45 _ _ e1
   replace e2 := s45 _ _ e2
   have s5 := s3.trans s45
   generalize upd H4 d (HO.lst (ts.map eN)) = H5 at s45 s5 e1 e2 e5 |-
   clear hR hPc s34 hd hp3 e3 s23 s12
   subst hk
   refine aK fun k hk => ?_
   push_cast [e2, g0, e5]
   rw [List.length_map]
   have none0 : j4 r0 = none -> ∀ {H' : Hp}, Same H H' -> 2 <= sizeLine /\ ∀ (q : Addr), H' q = none -> Q (V.ref q) (upd H' q (HO.tup [V.non, V.int 0])) := fun hk0 {H'} s' => ⟨aP (by decide), fun q hq => qn 0 (v7 hrs hk0) q _ (s'.trans (aA hq)) aB⟩
   by_cases c1 : w0 = "choice"
   ·rw [if_neg (by rw [decide_eq_true c1]; decide)]
    by_cases c2 : ts.length = 2
    ·rw [if_neg (by rw [decide_eq_true (show ((ts.length : Nat) : Int) = 2 by omega)]; decide)]
     refine ⟨rfl, zj ts, ?_⟩
     obtain ⟨a, b, rfl⟩ : ∃ a b, ts = [a, b] := by
      match ts, c2 with
      | [a, b], _ => exact ⟨a, b, rfl⟩
     by_cases hbad : inV V.non ([a, b].map eN) = true
     ·rw [if_pos hbad]
      obtain ⟨t, ht, z⟩ := (vB [a, b]).mp hbad
      refine none0 (sG hw fun a' b' hab hc => ?_) s5
      rw [hab] at ht
      simp only [List.mem_cons, List.not_mem_nil, or_false] at ht
      rcases ht with rfl | rfl
      ·rw [z] at hc; exact absurd hc.2.1 (by decide)
      ·rw [z] at hc; exact absurd hc.2.2.1 (by decide)
     ·rw [if_neg hbad]
      have hok : ∀ t ∈ [a, b], aY t = true := fun t ht => by
       cases e : aY t with
       | true => rfl
       | false => exact absurd ((vB [a, b]).mpr ⟨t, ht, e⟩) hbad
      have ha := hok a (by simp)
      have hb := hok b (by simp)
      replace e5 : H5 d = some (.lst [V.int (cU a), V.int (cU b)]) := by
       rw [e5, zf hok]
       rfl
      subst hk
      refine aK fun k hk => ?_
      push_cast [rdG, e5]
      subst hk
      refine aK fun k hk => ?_
      push_cast [rdG]
      have ek : jC (.int (cU a)) (.int (cU b)) = ((decide (1 <= cU a) && decide (cU a <= 40)) && (decide (0 <= cU b) && decide (cU b <= 1))) := rfl
      have nok : jC (.int (cU a)) (.int (cU b)) = false -> 2 <= sizeLine /\ ∀ (q : Addr), H5 q = none -> Q (V.ref q) (upd H5 q (HO.tup [V.non, V.int 0])) := fun z => none0 (sG hw fun a' b' hab hc => by
       injection hab with h1 hab
       injection hab with h2 _
       rw [h1, h2] at z
       rw [z] at hc
       exact absurd hc.2.2.2 (by decide)) s5
      suffices go : jC (.int (cU a)) (.int (cU b)) = true -> k [some (V.str x), some (V.ref p), some (V.ref p2), some (V.ref d), some (V.int (cU a)), some (V.int (cU b)), none, none, none, none] H5 by
       by_cases d1 : 1 <= cU a
       ·rw [if_pos d1]
        by_cases d2 : cU a <= 40
        ·rw [if_neg (by rw [decide_eq_true d2]; decide)]
         by_cases d3 : 0 <= cU b
         ·rw [if_pos d3]
          by_cases d4 : cU b <= 1
          ·rw [if_neg (by rw [decide_eq_true d4]; decide)]
           exact go (by rw [ek, decide_eq_true d1, decide_eq_true d2, decide_eq_true d3, decide_eq_true d4]; rfl)
          ·rw [if_pos (by rw [decide_eq_false d4]; decide)]
           exact nok (by rw [ek, decide_eq_false d4, Bool.and_false, Bool.and_false])
         ·rw [if_neg d3]
          exact nok (by rw [ek, decide_eq_false d3, Bool.false_and, Bool.and_false])
        ·rw [if_pos (by rw [decide_eq_false d2]; decide)]
         exact nok (by rw [ek, decide_eq_false d2, Bool.and_false, Bool.false_and])
       ·rw [if_neg d1]
        exact nok (by rw [ek, decide_eq_false d1, Bool.false_and, Bool.false_and])
      intro hkd
      subst c1
      have hk0 := Ko hw ha hb hkd
      obtain ⟨h1, h2, h3⟩ := Dw hk0
      generalize cU a = w at hk0 h1 h2 |-
      generalize cU b = s at hk0 h3 |-
      clear nok none0 ek hkd e5 e2 hok hbad
      subst hk
      refine aK fun k hk => ?_
      push_cast
      refine ⟨Nat.zero_le _, fun c hc6 => ?_⟩
      have hcH : H c = none := s5.none hc6
      have npc : p ≠ c := aQ e1 hc6
      have s56 := aA (o := HO.lst []) hc6
      have s6 := s5.trans s56
      have e6 : upd H5 c (HO.lst []) c = some (.lst []) := aB
      replace e1 := s56 _ _ e1
      generalize upd H5 c (HO.lst []) = H6 at s56 s6 e6 e1 |-
      subst hk
      refine aK fun k hk => ?_
      refine pC fun R hR => ?_
      have hcut2 : j8 (V.str r0 :: rs.map V.str) (some 1) none = rs.map V.str := (jm ((r0 :: rs).map V.str) 1 (by rw [List.length_map, List.length_cons]; omega)).trans rfl
      push_cast [Q5, e1, hcut2]
      refine fun p7 hp7 => ?_
      have s67 := aA (o := HO.lst (rs.map V.str)) hp7
      have s7 := s6.trans s67
      have e7 : upd H6 p7 (HO.lst (rs.map V.str)) p7 = _ := aB
      have hpc : p7 ≠ c := fun z => by rw [z, e6] at hp7; cases hp7
      replace e6 := s67 _ _ e6
      generalize upd H6 p7 (HO.lst (rs.map V.str)) = H7 at s67 s7 e6 e7 |-
      obtain ⟨Pv, hPv⟩ : ∃ Pv : Nat -> L2.St -> Hp -> Prop, Pv = fun (i : Nat) σ H' => ∃ (vs : List V) (o2 o7 o8 o9 : Option V), cj c H7 H' /\ H' c = some (.lst vs) /\ aM (· ≠ c) H' vs ((rs.take i).map jb) /\ cX w s 1 rs = cX w s (i + 1) (rs.drop i) /\
       σ = [some (.str x), some (.ref p), o2, some (.ref d), some (.int w), some (.int s), some (.ref c), o7, o8, o9] := ⟨_, rfl⟩
      refine ⟨⟨_, SqL.of e7⟩, ?_⟩
      refine aal hR (xs := rs.map V.str) Pv (by rw [hPv]; exact ⟨[], _, _, _, _, cj.refl _ _, e6, .nil, rfl, rfl⟩) ?_ ?_ ?_
      ·intro i σ H8 pv
       rw [hPv] at pv
       obtain ⟨_, _, _, _, _, s8, _⟩ := pv
       exact s8 _ _ hpc e7
      ·intro i v0 σ H8 p9 hx8 pv hp9
       rw [hPv] at pv
       obtain ⟨vs, o2, o7, o8, o9, s8, c8, tt, hfb, rfl⟩ := pv
       rw [List.getElem?_map] at hx8
       obtain ⟨r, hri, rfl⟩ := Option.map_eq_some_iff.mp hx8
       obtain ⟨b1, b2⟩ := zX hri hfb
       obtain ⟨v0, us, hu, hrl1, hun, hul⟩ := words r (List.mem_cons_of_mem _ (List.mem_of_getElem? hri))
       have hOk : jh w s r = (decide (v0 = "case") && (us.map dX).all (bK w s)) := by unfold jh; rw [hu]
       have hFD : jb r = .list (us.map dX) := by unfold jb; rw [hu]; rfl
       rw [hOk] at b1 b2
       have htl8 := tt.length
       rw [List.length_map, List.length_take] at htl8
       have s89 := aA (o := HO.tup [V.int (i : Nat), V.str r]) hp9
       have e9 : upd H8 p9 (HO.tup [V.int (i : Nat), V.str r]) p9 = _ := aB
       have c9 := s89 _ _ c8
       have t9 := tt.same s89
       have s9 := s8.trans s89.x
       generalize upd H8 p9 (HO.tup [V.int (i : Nat), V.str r]) = H9 at s89 e9 c9 t9 s9 |-
       simp only [zJ, e9, V0, Jc, Q9, kJ, List.length_cons, List.length_nil, Nat.reduceAdd, true_and, eq_self, List.set_cons_zero, List.set_cons_succ]
       refine aK fun k2 hk2 => ?_
       push_cast [rdG]
       rw [hu]
       refine ⟨by decide, hrl1, aP (by rw [List.length_cons]; omega), fun pa hpa => ?_⟩
       have sa := aA (o := HO.lst ((v0 :: us).map V.str)) hpa
       have ea : upd H9 pa (HO.lst ((v0 :: us).map V.str)) pa = some (.lst (V.str v0 :: us.map V.str)) := aB
       have ca := sa _ _ c9
       have ta := t9.same sa
       have sA := s9.trans sa.x
       generalize upd H9 pa (HO.lst ((v0 :: us).map V.str)) = HA at sa ea ca ta sA |-
       subst hk2
       refine aK fun k2 hk2 => ?_
       have ga : atI (V.str v0 :: us.map V.str) 0 = some (V.str v0) := cT (j := 0) rfl
       have hcu : j8 (V.str v0 :: us.map V.str) (some 1) none = us.map V.str := (jm ((v0 :: us).map V.str) 1 (by rw [List.length_map, List.length_cons]; omega)).trans rfl
       push_cast
       refine eH fun R2 hR2 => ?_
       push_cast [ea, hcu]
       intro pb hpb
       have sb := aA (o := HO.lst (us.map V.str)) hpb
       have eb : upd HA pb (HO.lst (us.map V.str)) pb = _ := aB
       replace ea := sb _ _ ea
       have cb := sb _ _ ca
       have tb := ta.same sb
       have sB := sA.trans sb.x
       generalize upd HA pb (HO.lst (us.map V.str)) = HB at sb eb ea cb tb sB |-
       obtain ⟨Pd, hPd⟩ : ∃ Pv : Nat -> List V -> L2.St -> Hp -> Prop, Pv = fun (i : Nat) acc τ H' => ∃ (o1 : Option V), Same HB H' /\ nM (· ≠ c) H' acc (us.take i) /\ τ = [o1] := ⟨_, rfl⟩
       refine qQ hR2 (xs := us.map V.str) (aP (by rw [List.length_map]; omega)) Pd (by rw [hPd]; exact ⟨none, Same.refl _, .nil, rfl⟩) ?_ ?_ ?_ ?_
       ·intro m acc τ HC pc
        rw [hPd] at pc
        obtain ⟨_, _, wi, _⟩ := pc
        rw [wi.length]
        exact List.length_take_le _ _
       ·intro m acc τ HC pc
        rw [hPd] at pc
        obtain ⟨_, sC, _⟩ := pc
        exact SqL.of (sC _ _ eb)
       ·intro m v acc τ HC hv pc
        rw [hPd] at pc
        obtain ⟨_, sC, wi, rfl⟩ := pc
        rw [List.getElem?_map] at hv
        obtain ⟨t, ht1, rfl⟩ := Option.map_eq_some_iff.mp hv
        push_cast
        refine ⟨t, (· ≠ c), rfl, hul t (List.mem_cons_of_mem _ (List.mem_of_getElem? ht1)), Dd (sC _ _ cb), fun z HD sD => ?_, fun z q4 ys HD sD eD tD => ?_⟩
        ·rw [hPd]
         refine ⟨_, sC.trans sD, ?_, rfl⟩
         rw [take_snoc ht1]
         exact (wi.same sD).snoc (.inl ⟨z, rfl⟩)
        ·rw [hPd]
         refine ⟨_, sC.trans sD, ?_, rfl⟩
         rw [take_snoc ht1]
         exact (wi.same sD).snoc (.inr ⟨z, q4, ys, rfl, eD, tD⟩)
       ·intro acc τ HC pd pc hpd
        rw [hPd] at pc
        obtain ⟨_, sC, wi, rfl⟩ := pc
        rw [List.length_map, List.take_length] at wi
        have sd := sC.trans (aA (o := HO.lst acc) hpd)
        have ed : upd HC pd (HO.lst acc) pd = _ := aB
        have wd := wi.same (aA (o := HO.lst acc) hpd)
        replace ea := sd _ _ ea
        have cd := sd _ _ cb
        have td := tb.same sd
        have sD := sB.trans sd.x
        have hpdc : pd ≠ c := fun z => by rw [z, sC _ _ cb] at hpd; cases hpd
        generalize upd HC pd (HO.lst acc) = HD at sd ed wd ea cd td sD |-
        have hal := wd.length
        subst hk2
        refine aK fun k2 hk2 => ?_
        push_cast [ea, ga]
        have bad : ∀ {H' : Hp}, Same HD H' -> (decide (v0 = "case") && (us.map dX).all (bK w s)) = false -> 2 <= sizeLine /\ ∀ (q : Addr), H' q = none -> Q (V.ref q) (upd H' q (HO.tup [V.non, V.int ((i : Int) + 1)])) := fun {H'} s' z =>
         ⟨aP (by decide), fun q hq => qn (i + 1) (za hrs hk0 (b2 z)) q _ ((rD (s7.x.trans (sD.trans s'.x)) hcH).trans (aA hq)) aB⟩
        by_cases d1 : v0 = "case"
        ·rw [if_neg (by rw [decide_eq_true d1]; decide)]
         refine ⟨pd, acc, rfl, rfl, ed, wd.flat, ?_⟩
         rw [wd.any]
         refine ⟨_, rfl, ?_⟩
         cases hall : us.all iK with
         | false =>
          rw [if_pos (by decide)]
          exact bad (Same.refl _) (by rw [Kr hall, Bool.and_false])
         | true =>
          rw [if_neg (by decide)]
          have tr := wd.trees hall
          refine eH fun R3 hR3 => ?_
          push_cast [ed]
          refine sX (bK w s) (fun τ => ∃ o1, τ = [o1, some (.int w), some (.int s)]) hR3 tr ed (by omega) ⟨none, rfl⟩ ?_ ?_
          ·rintro x1 d1 τ HE Qn hd1 sE tE ⟨o1, rfl⟩ qn5
           push_cast
           obtain ⟨t1, ht1, rfl⟩ := List.mem_map.mp hd1
           exact ⟨w, s, x1, _, t1, rfl, h1, h2, h3, List.all_eq_true.mp hall t1 ht1, tE, fun H' s' => qn5 _ _ ⟨_, rfl⟩ s'⟩
          ·intro HE l sE hlE
           have sF := sE.trans (aA (o := HO.lst (((us.map dX).map (bK w s)).map V.bl)) hlE)
           have eF : upd HE l (HO.lst (((us.map dX).map (bK w s)).map V.bl)) l = _ := aB
           generalize upd HE l (HO.lst (((us.map dX).map (bK w s)).map V.bl)) = HF at sF eF |-
           push_cast [eF]
           refine ⟨_, rfl, ?_⟩
           have hal2 : (((us.map dX).map (bK w s)).all id) = (us.map dX).all (bK w s) := by rw [List.all_map]; rfl
           rw [hal2]
           cases d2 : (us.map dX).all (bK w s) with
           | false =>
            rw [if_pos (by decide)]
            exact bad sF (by rw [d2, Bool.and_false])
           | true =>
            rw [if_neg (by decide)]
            subst hk2
            have cF := sF _ _ cd
            push_cast [cF]
            refine ⟨Nat.lt_of_lt_of_le (show vs.length < 1000000 by omega) (aP (Nat.le_refl 1000000)), ?_⟩
            rw [hPv]
            have sx : cj c HD (upd HF c (HO.lst (vs ++ [V.ref pd]))) := sF.x.trans cj.upd
            refine ⟨vs ++ [V.ref pd], _, _, _, _, sD.trans sx, aB, ?_, b1 (by rw [decide_eq_true d1, d2]; rfl), rfl⟩
            rw [take_snoc hri, List.map_append]
            refine (td.CG sx).append (.cons ?_ .nil)
            rw [hFD]
            exact .lst hpdc (by rw [aJ hpdc]; exact sF _ _ ed) (by omega) (tr.CG sx)
        ·rw [if_pos (by rw [decide_eq_false d1]; decide)]
         exact bad (Same.refl _) (by rw [decide_eq_false d1, Bool.false_and])
      ·intro σ H8 pv
       rw [hPv] at pv
       obtain ⟨vs, o2, o7, o8, o9, s8, c8, tt, hfb, rfl⟩ := pv
       show k _ _
       subst hk
       push_cast
       rw [List.length_map, List.take_length] at tt
       rw [List.length_map, List.drop_length] at hfb
       have hll := tt.length
       rw [List.length_map] at hll
       refine ⟨aP (by decide), fun q1 hq1 => ⟨aP (by decide), fun q2 hq2 => ?_⟩⟩
       have u1 := aA (o := HO.tup [V.int w, V.int s, V.ref c]) hq1
       have f1 : upd H8 q1 (HO.tup [V.int w, V.int s, V.ref c]) q1 = _ := aB
       have u2 := aA (o := HO.tup [V.ref q1, V.non]) hq2
       have u3 := u1.trans u2
       refine qy _ (v5 hrs hk0 hfb) q2 (.ref q1) _ ((rD (s7.x.trans s8) hcH).trans u3) aB ?_
       exact .tup trivial (u2 _ _ f1) (by show 3 <= 1000000; decide) (.cons (.int _) (.cons (.int _) (.cons (.lst trivial (u3 _ _ c8) (by omega) (tt.keep fun a o h e => ⟨trivial, u3 _ _ e⟩)) .nil)))
    ·rw [if_pos (by rw [decide_eq_false (show ¬ ((ts.length : Nat) : Int) = 2 by omega)]; decide)]
     exact none0 (sG hw fun a b hab _ => c2 (by rw [hab]; rfl)) s5
   ·rw [if_pos (by rw [decide_eq_false c1]; decide)]
    exact none0 (sG hw fun a b _ hc => c1 hc.1) s5
abbrev fJ : Stmt := top 44
theorem vX : bF ["_law_text", "_law_choice", "_law_row"] ["_law_text"] (aj fJ) := ⟨rfl, rfl, rfl, by decide +kernel, rfl, by decide +kernel, by decide +kernel⟩
abbrev N29_ : List Str := ["_law_text", "_law_choice", "_law_row"]
theorem zq : NM_ N29_ fJ 0 "_law_text" := .of (by decide +kernel)
theorem zp : NM_ N29_ fJ 1 "_law_choice" := .of (by decide +kernel)
theorem tY : NM_ N29_ fJ 2 "_law_row" := .of (by decide +kernel)
theorem yu : GI_ fJ "_law_read" := by decide +kernel
theorem yt : GI_ fJ "_law_same" := by decide +kernel
theorem yr : GI_ fJ "_law_told" := by decide +kernel
theorem Ef : Bn "_law_right" := ⟨by decide +kernel, by decide +kernel⟩
abbrev cY : Stmt := top 45
theorem ig : bF ["_law_width", "_law_sign", "_law_least_here", "_law_many", "_law_most", "_law_some", "_law_found", "_law_odd"] ["_law_width", "_law_sign"] (aj cY) := ⟨rfl, rfl, rfl, by decide +kernel, rfl, by decide +kernel, by decide +kernel⟩
abbrev N30_ : List Str := ["_law_width", "_law_sign", "_law_least_here", "_law_many", "_law_most", "_law_some", "_law_found", "_law_odd"]
theorem zm : NM_ N30_ cY 0 "_law_width" := .of (by decide +kernel)
theorem Ka : NM_ N30_ cY 1 "_law_sign" := .of (by decide +kernel)
theorem qb : NM_ N30_ cY 2 "_law_least_here" := .of (by decide +kernel)
theorem jH : NM_ N30_ cY 3 "_law_many" := .of (by decide +kernel)
theorem tX : NM_ N30_ cY 4 "_law_most" := .of (by decide +kernel)
theorem pZ : NM_ N30_ cY 5 "_law_some" := .of (by decide +kernel)
theorem pY : NM_ N30_ cY 6 "_law_found" := .of (by decide +kernel)
theorem pX : NM_ N30_ cY 7 "_law_odd" := .of (by decide +kernel)
theorem wX : GI_ cY "_law_least" := by decide +kernel
theorem uR : GI_ cY "str" := by decide +kernel
theorem RJ : Bn "_law_words" := ⟨by decide +kernel, by decide +kernel⟩
theorem O6 (hB : ∀ x : Str, x ∈ BLs -> mg x = none) (CZTold : Cal P w K mg base "_law_told" 5 ["_law_text"] Hl) (CZRead : Cal P w K mg base "_law_read" 3 ["_law_text"] Hr) (CZSame : Cal P w K mg base "_law_same" 5 ["_law_found", "_law_due"] (pN 5)) (F : Fun K "_law_right" "_law_right" fJ f fd) : dh P w K mg base CX0 6 f fd ["_law_text"] Ho := by
 refine F.okq vX (fun vs H Q E h => ?_) (fun cdv A outer s H vs Q E hr h => ?_)
 ·obtain ⟨x, rfl, _⟩ := h
  rfl
 ·obtain ⟨z, rfl, hzl, q⟩ := h
  refine ⟨_, (aD (gO (bf CZRead (hr.mono (by decide)) yu Wi (ak (aq zq) ao)) (jo (n := 2) rfl (bh (cL zp vX.nd) (bh (cL tY vX.nd) eU))))
   (aF (aL (bf CZSame (hr.mono (by decide)) yt Jr (ak (bf CZTold (hr.mono (by decide)) yr Wg (ak (aq zq) ao)) (ak (iR (aW lg (aq tY) cH (aU _)) (aq zp) (bY (ak aG (ak (aq tY) ao)))) ao)))))), ?_⟩
  refine aK fun k3 hk3 => ?_
  push_cast
  refine ⟨z, rfl, hzl, fun d hd pr v H9 s9 e9 tv => ?_, fun jj hj2 pr H9 s9 e9 => ?_⟩
  ·have hT : qY z = d := by unfold qY; rw [hd]
   push_cast [e9]
   subst hk3
   push_cast
   refine ⟨z, rfl, hzl, fun v1 H10 s10 t10 => ?_⟩
   rw [hT] at t10
   have hdep : d.depth < 5 := by rw [<- hT]; exact yQ z
   exact ⟨_, _, fun _ => True, d, rfl, t10, tv.same s10, hdep, fun H11 s11 => q _ (s9.trans (s10.trans s11))⟩
  ·have hT : qY z = .tuple [.str "text", .int (jj : Int)] := by unfold qY; rw [hj2]
   push_cast [e9]
   subst hk3
   push_cast
   refine ⟨z, rfl, hzl, fun v1 H10 s10 t10 => ⟨aP (by decide), fun pt hpt => ?_⟩⟩
   rw [hT] at t10
   have hdep : (PyData.tuple [.str "text", .int (jj : Int)]).depth < 5 := by rw [<- hT]; exact yQ z
   have s11 := aA (o := HO.tup [V.str "text", V.int (jj : Int)]) hpt
   exact ⟨_, _, fun _ => True, _, rfl, t10.same s11, .tup trivial aB (by show 2 <= 1000000; decide) (.cons (.str _) (.cons (.int _) .nil)), hdep, fun H12 s12 => q _ (s9.trans (s10.trans (s11.trans s12)))⟩
theorem O5 (hB : ∀ x : Str, x ∈ BLs -> mg x = none) (CZLeast : Cal P w K mg base "_law_least" 1 ["_law_width", "_law_sign"] nW) (F : Fun K "_law_words" "_law_words" cY f fd) : dh P w K mg base CX0 2 f fd ["_law_width", "_law_sign"] Ci := by
 refine F.okq ig (fun vs H Q E h => ?_) (fun cdv A outer s H vs Q E hr h => ?_)
 ·obtain ⟨w, s, rfl, _⟩ := h
  rfl
 ·obtain ⟨w, s, rfl, h1, h2, hs, q⟩ := h
  refine ⟨_, (aD (gO (bY (ak (bf CZLeast (hr.mono (by decide)) wX sZ (ak (aq zm) (ak (aq Ka) ao))) (ak (aH iC au (aq zm)) ao))) (jo (n := 2) rfl (bh (cL qb ig.nd) (bh (cL jH ig.nd) eU))))
   (aD (bL tX ig.nd (aH fU (aH bT (aq qb) (aq jH)) au))
   (aD (bL pZ ig.nd (gP (ak (aq qb) (ak (aq tX) (ak (aH fU (aq qb) au) (ak (aH bT (aq tX) au) (ak au (ak (Ia Ab au) ao))))))))
   (aD (bL pY ig.nd (aH bT (fK (NX := ["_law_width", "_law_sign", "_law_least_here", "_law_many", "_law_most", "_law_some", "_law_found", "_law_odd"]) (kX := (aj cY).names) ["_law_one"] [none] rfl rfl ⟨rfl, by decide +kernel, by decide +kernel, by decide +kernel, by decide +kernel⟩ rfl (dw (aq pZ)) (fun _ _ _ _ _ => (dM 0 (show List.Nodup (["_law_one"] : List Str) from by decide +kernel) rfl (Or.inl rfl))) (fun _ _ _ _ _ => fG) (fun _ _ _ _ _ => (jQ gm rfl (hB "str" iZ) boot_str jc (ak (iQ 0) ao)))) (fK (NX := ["_law_width", "_law_sign", "_law_least_here", "_law_many", "_law_most", "_law_some", "_law_found", "_law_odd"]) (kX := (aj cY).names) ["_law_one", "_law_least_here"] [none, some 2] rfl rfl ⟨rfl, by decide +kernel, by decide +kernel, by decide +kernel, by decide +kernel⟩ rfl (dw (aq pZ)) (fun _ _ _ _ _ => (dM 0 (show List.Nodup (["_law_one", "_law_least_here"] : List Str) from by decide +kernel) rfl (Or.inl rfl))) (fun _ _ _ _ _ => fG) (fun _ _ _ _ _ => (aH bT (aH bT (jQ gm rfl (hB "str" iZ) boot_str jc (ak (iQ 1) ao)) aG) (jQ gm rfl (hB "str" iZ) boot_str jc (ak (iQ 0) ao)))))))
   (aD (bL pY ig.nd (aH bT (aH bT (aq pY) (fK (NX := ["_law_width", "_law_sign", "_law_least_here", "_law_many", "_law_most", "_law_some", "_law_found", "_law_odd"]) (kX := (aj cY).names) ["_law_one"] [none] rfl rfl ⟨rfl, by decide +kernel, by decide +kernel, by decide +kernel, by decide +kernel⟩ rfl (dw (aH bT (aq pZ) (gP (ak (aH fU (aq jH) au) (ak (aq jH) ao))))) (fun _ _ _ _ _ => (dM 0 (show List.Nodup (["_law_one"] : List Str) from by decide +kernel) rfl (Or.inl rfl))) (fun _ _ _ _ _ => fG) (fun _ _ _ _ _ => (aH bT aG (jQ gm rfl (hB "str" iZ) boot_str jc (ak (iQ 0) ao)))))) (gP (ak (aH bT (jQ gm uR (hB "str" iZ) boot_str jc (ak (aH fU (aq jH) au) ao)) aG) (ak (aH bT (jQ gm uR (hB "str" iZ) boot_str jc (ak (aq jH) ao)) aG) ao)))))
   (aD (bL pX ig.nd aG)
   (aD (bL pX ig.nd (aH bT (aq pX) aG))
   (aF (aL (aH bT (aH bT (aq pY) (iz PySem.F.slot_str_split PySem.F.type_str_split gG (aq pX) (ak aG ao))) (gP (ak (aH vA aG au) (ak (aH vA aG au) (ak (aH bT aG (aH vA aG au)) (ak (aH bT (aH vA aG au) aG) (ak aG (ak aG ao))))))))))))))))), ?_⟩
  refine aK fun k hk => ?_
  push_cast [rdX]
  refine ⟨w, s, rfl, h1, h2, hs, ?_⟩
  push_cast [rdX, Int.one_mul]
  refine ⟨⟨by omega, by omega, by decide⟩, aP (by decide), fun p0 hp0 => ?_⟩
  have s0 := aA (o := HO.tup [V.int (wl w s), V.int (2 ^ w.toNat)]) hp0
  generalize upd H p0 (HO.tup [V.int (wl w s), V.int (2 ^ w.toNat)]) = H0 at s0 |-
  obtain ⟨sm, smM1, smM⟩ := Sh h1 h2 hs
  subst hk
  refine aK fun k hk => ?_
  push_cast [rdX]
  subst hk
  refine aK fun k hk => ?_
  push_cast [rdX]
  have smL : SmI (wl w s) := sm _ List.mem_cons_self
  generalize wl w s = L at sm smL |-
  generalize (2 : Int) ^ w.toNat = M at sm smM1 smM |-
  refine ⟨aP (by decide), fun p1 hp1 => ?_⟩
  obtain ⟨is, his⟩ : ∃ is : List Int, is = [L, L + M - 1, L - 1, L + M - 1 + 1, 0, -1] := ⟨_, rfl⟩
  have hil : is.length = 6 := by rw [his]; rfl
  rw [<- his] at sm
  have s1 := s0.trans (aA (o := HO.lst [V.int L, V.int (L + M - 1), V.int (L - 1), V.int (L + M - 1 + 1), V.int 0, V.int (-1)]) hp1)
  have e1 : upd H0 p1 (HO.lst [V.int L, V.int (L + M - 1), V.int (L - 1), V.int (L + M - 1 + 1), V.int 0, V.int (-1)]) p1 = some (.lst (is.map V.int)) := by rw [aB, his]; rfl
  generalize upd H0 p1 (HO.lst [V.int L, V.int (L + M - 1), V.int (L - 1), V.int (L + M - 1 + 1), V.int 0, V.int (-1)]) = H1 at s1 e1 |-
  subst hk
  refine aK fun k hk => ?_
  push_cast [rdX]
  refine eH fun R hR => ?_
  push_cast [e1]
  refine uK is tsI (fun τ => ∃ o1, τ = [o1]) hR e1 (by omega) ⟨none, rfl⟩ ?_ ?_
  ·rintro n τ Qn hn ⟨o1, rfl⟩ qn
   push_cast [rdX]
   exact ⟨jz (sm n hn), qn _ ⟨_, rfl⟩⟩
  intro p2 H2 hp2 s12 e2
  have s2 := s1.trans s12
  replace e1 := s12 _ _ e1
  have ln : ∀ n, SmI n -> (tsI n).length <= 21 := fun n h => gZ h
  have big : ∀ {a b : Str}, a.length <= 60 -> b.length <= 60 -> a.length + b.length <= sizeLine := fun ha hb => aP (by omega)
  have d2 : (".." : Str).length = 2 := by decide +kernel
  refine eH fun R hR => ?_
  push_cast [e1]
  refine uK is (fun n => tsI L ++ ".." ++ tsI n) (fun τ => ∃ o1, τ = [o1, some (.int L)]) hR e1 (by omega) ⟨none, rfl⟩ ?_ ?_
  ·rintro n τ Qn hn ⟨o1, rfl⟩ qn
   have l1 : (Str.ofString (toString L)).length <= 21 := ln L smL
   have l2 : (Str.ofString (toString n)).length <= 21 := ln n (sm n hn)
   push_cast [rdX]
   exact ⟨jz smL, big (by omega) (by omega), jz (sm n hn), big (by rw [nu]; omega) (by omega), qn [some (.int n), some (.int L)] ⟨_, rfl⟩⟩
  intro p3 H3 hp3 s23 e3
  have s3 := s2.trans s23
  replace e1 := s23 _ _ e1
  replace e2 := s23 _ _ e2
  obtain ⟨A, hA⟩ : ∃ A : List Str, A = is.map tsI := ⟨_, rfl⟩
  obtain ⟨B, hB2⟩ : ∃ B : List Str, B = is.map fun n => tsI L ++ ".." ++ tsI n := ⟨_, rfl⟩
  have lA : A.length = 6 := by rw [hA, List.length_map, hil]
  have lB : B.length = 6 := by rw [hB2, List.length_map, hil]
  have bA : ∀ t ∈ A, t.length <= 200 := fun t ht => by
   rw [hA] at ht
   obtain ⟨n, hn, rfl⟩ := List.mem_map.mp ht
   have := ln n (sm n hn)
   omega
  have bB : ∀ t ∈ B, t.length <= 200 := fun t ht => by
   rw [hB2] at ht
   obtain ⟨n, hn, rfl⟩ := List.mem_map.mp ht
   have := ln n (sm n hn)
   have := ln L smL
   rw [nu, nu]
   omega
  rw [<- hA] at e2
  rw [<- hB2] at e3
  push_cast [rdX, e2, e3]
  rw [List.length_map, List.length_map]
  refine ⟨aP (by omega), fun p4 hp4 => ?_⟩
  have s34 := aA (o := HO.lst (A.map V.str ++ B.map V.str)) hp4
  have s4 := s3.trans s34
  replace e1 := s34 _ _ e1
  have e4 : upd H3 p4 (HO.lst (A.map V.str ++ B.map V.str)) p4 = some (.lst ((A ++ B).map V.str)) := by rw [aB, List.map_append]
  generalize upd H3 p4 (HO.lst (A.map V.str ++ B.map V.str)) = H4 at s34 s4 e1 e4 |-
  subst hk
  refine aK fun k hk => ?_
  push_cast [rdX]
  refine eH fun R hR => ?_
  push_cast [rdX, e1]
  refine ⟨aP (by decide), fun p5 hp5 => ?_⟩
  have s45 := aA (o := HO.lst [V.int (M - 1), V.int M]) hp5
  have s5 := s4.trans s45
  replace e1 := s45 _ _ e1
  replace e4 := s45 _ _ e4
  generalize upd H4 p5 (HO.lst [V.int (M - 1), V.int M]) = H5 at s45 s5 e1 e4 |-
  rw [e1, xW]
  refine ⟨aP (by rw [List.length_map, hil]; show 6 + 2 <= 1000000; decide), fun p6 hp6 => ?_⟩
  have s56 := aA (o := HO.lst (is.map V.int ++ [V.int (M - 1), V.int M])) hp6
  have s6 := s5.trans s56
  have e6 : upd H5 p6 (HO.lst (is.map V.int ++ [V.int (M - 1), V.int M])) p6 = some (.lst ((is ++ [M - 1, M]).map V.int)) := by rw [aB, List.map_append]; rfl
  replace e4 := s56 _ _ e4
  generalize upd H5 p6 (HO.lst (is.map V.int ++ [V.int (M - 1), V.int M])) = H6 at s56 s6 e6 e4 |-
  have sm8 : ∀ n ∈ is ++ [M - 1, M], SmI n := fun n hn => by
   rcases List.mem_append.mp hn with hn | hn
   ·exact sm n hn
   ·simp only [List.mem_cons, List.not_mem_nil, or_false] at hn
    rcases hn with rfl | rfl
    ·exact smM1
    ·exact smM
  have hil8 : (is ++ [M - 1, M]).length = 8 := by rw [List.length_append, hil]; rfl
  generalize is ++ [M - 1, M] = is8 at e6 sm8 hil8
  push_cast [e6]
  have d3 : ("0&" : Str).length = 2 := by decide +kernel
  refine uK is8 (fun n => ("0&" : Str) ++ tsI n) (fun τ => ∃ o1, τ = [o1]) hR e6 (by omega) ⟨none, rfl⟩ ?_ ?_
  ·rintro n τ Qn hn ⟨o1, rfl⟩ qn
   have l2 : (Str.ofString (toString n)).length <= 21 := ln n (sm8 n hn)
   push_cast [rdX]
   exact ⟨jz (sm8 n hn), big (by omega) (by omega), qn [some (.int n)] ⟨_, rfl⟩⟩
  intro p7 H7 hp7 s67 e7
  have s7 := s6.trans s67
  replace e4 := s67 _ _ e4
  obtain ⟨C, hC⟩ : ∃ C : List Str, C = is8.map fun n => ("0&" : Str) ++ tsI n := ⟨_, rfl⟩
  have lC : C.length = 8 := by rw [hC, List.length_map, hil8]
  have bC : ∀ t ∈ C, t.length <= 200 := fun t ht => by
   rw [hC] at ht
   obtain ⟨n, hn, rfl⟩ := List.mem_map.mp ht
   have := ln n (sm8 n hn)
   rw [nu]
   omega
  rw [<- hC] at e7
  push_cast [rdX, e4, e7]
  rw [List.length_map, List.length_map, List.length_append]
  refine ⟨aP (by omega), fun p8 hp8 => ?_⟩
  have s78 := aA (o := HO.lst ((A ++ B).map V.str ++ C.map V.str)) hp8
  have s8 := s7.trans s78
  have e8 : upd H7 p8 (HO.lst ((A ++ B).map V.str ++ C.map V.str)) p8 = some (.lst ((A ++ B ++ C).map V.str)) := by rw [aB, <- List.map_append]
  generalize upd H7 p8 (HO.lst ((A ++ B).map V.str ++ C.map V.str)) = H8 at s78 s8 e8 |-
  have d4 : ("&0" : Str).length = 2 := by decide +kernel
  have lM1 : (Str.ofString (toString (M - 1))).length <= 21 := ln _ smM1
  have lM : (Str.ofString (toString M)).length <= 21 := ln _ smM
  refine ⟨jz smM1, big (by omega) (by omega), jz smM, big (by omega) (by omega), aP (by decide), fun p9 hp9 => ?_⟩
  obtain ⟨D, hD⟩ : ∃ D : List Str, D = [Str.ofString (toString (M - 1)) ++ "&0", Str.ofString (toString M) ++ "&0"] := ⟨_, rfl⟩
  have lD : D.length = 2 := by rw [hD]; rfl
  have bD : ∀ t ∈ D, t.length <= 200 := fun t ht => by
   rw [hD] at ht
   simp only [List.mem_cons, List.not_mem_nil, or_false] at ht
   rcases ht with rfl | rfl <;> (rw [nu]; omega)
  have s89 := aA (o := HO.lst (D.map V.str)) hp9
  have s9 := s8.trans s89
  replace e8 := s89 _ _ e8
  have e9 : upd H8 p9 (HO.lst (D.map V.str)) p9 = _ := aB
  rw [show ([V.str (Str.ofString (toString (M - 1)) ++ "&0"), V.str (Str.ofString (toString M) ++ "&0")] : List V) = D.map V.str by rw [hD]; rfl]
  generalize upd H8 p9 (HO.lst (D.map V.str)) = H9 at s89 s9 e8 e9 |-
  rw [e8, xW, List.length_map, List.length_map, List.length_append, List.length_append]
  refine ⟨aP (by omega), fun pa hpa => ?_⟩
  have sa := s9.trans (aA (o := HO.lst ((A ++ B ++ C).map V.str ++ D.map V.str)) hpa)
  have ea : upd H9 pa (HO.lst ((A ++ B ++ C).map V.str ++ D.map V.str)) pa = some (.lst ((A ++ B ++ C ++ D).map V.str)) := by rw [aB, <- List.map_append]
  generalize upd H9 pa (HO.lst ((A ++ B ++ C).map V.str ++ D.map V.str)) = HA at sa ea |-
  obtain ⟨W, hW⟩ : ∃ W : List Str, W = A ++ B ++ C ++ D := ⟨_, rfl⟩
  have lW : W.length = 22 := by rw [hW]; simp only [List.length_append]; omega
  have bW : ∀ t ∈ W, t.length <= 200 := fun t ht => by
   rw [hW] at ht
   rcases List.mem_append.mp ht with ht | ht
   ·rcases List.mem_append.mp ht with ht | ht
    ·rcases List.mem_append.mp ht with ht | ht
     ·exact bA t ht
     ·exact bB t ht
    ·exact bC t ht
   ·exact bD t ht
  rw [<- hW] at ea
  subst hk
  refine aK fun k hk => ?_
  push_cast
  subst hk
  refine aK fun k hk => ?_
  push_cast [rdX]
  refine ⟨aP (by decide +kernel), ?_⟩
  subst hk
  push_cast [rdX, Nr]
  obtain ⟨odd, hodd⟩ : ∃ odd : Str, odd = ("00 01 -0 -00 +1 1. .1 1..  ..1 1...2 1..2..3 1&2&3 1&2..3 & .. - -- 1- a 1a 0x1 1e0" : Str) ++ " 1_0 -1..-1 -1&0 0&-1" := ⟨_, rfl⟩
  have lo : odd.length <= 120 := by rw [hodd]; decide +kernel
  rw [<- hodd]
  clear hodd
  have hwl := pK odd
  have hpl : ∀ t ∈ Txt.split odd " ", t.length <= 200 := fun t ht => by
   rw [qj] at ht
   have := lR odd 32 t ht
   omega
  generalize Txt.split odd " " = O at hwl hpl |-
  refine ⟨by decide +kernel, aP (by omega), aP (by omega), fun pb hpb => ?_⟩
  have sb := aA (o := HO.lst (O.map V.str)) hpb
  have sB := sa.trans sb
  replace ea := sb _ _ ea
  generalize upd HA pb (HO.lst (O.map V.str)) = HB at sb sB ea |-
  rw [ea, xW, List.length_map, List.length_map]
  refine ⟨aP (by omega), fun pc hpc => ?_⟩
  have sC := sB.trans (aA (o := HO.lst (W.map V.str ++ O.map V.str)) hpc)
  have ec : upd HB pc (HO.lst (W.map V.str ++ O.map V.str)) pc = some (.lst ((W ++ O).map V.str)) := by rw [aB, <- List.map_append]
  generalize upd HB pc (HO.lst (W.map V.str ++ O.map V.str)) = HC at sC ec |-
  have m1 : MulOk "9" 20 := by unfold MulOk; decide +kernel
  have m2 : MulOk "9" 21 := by unfold MulOk; decide +kernel
  have m3 : MulOk "0" 20 := by unfold MulOk; decide +kernel
  have m4 : MulOk "0" 2 := by unfold MulOk; decide +kernel
  refine ⟨m1, m2, m3, aP (by decide +kernel), m4, aP (by decide +kernel), aP (by decide), fun pd hpd => ?_⟩
  obtain ⟨Z, hZ⟩ : ∃ Z : List Str, Z = [Txt.mul "9" 20, Txt.mul "9" 21, "1" ++ Txt.mul "0" 20, Txt.mul "0" 2 ++ "1", "0..00", "case"] := ⟨_, rfl⟩
  have lZ : Z.length = 6 := by rw [hZ]; rfl
  have bZ : ∀ t ∈ Z, t.length <= 200 := by rw [hZ]; decide +kernel
  rw [show ([V.str (Txt.mul "9" 20), V.str (Txt.mul "9" 21), V.str ("1" ++ Txt.mul "0" 20), V.str (Txt.mul "0" 2 ++ "1"), V.str "0..00", V.str "case"] : List V) = Z.map V.str by rw [hZ]; rfl]
  have sd := aA (o := HO.lst (Z.map V.str)) hpd
  have sD := sC.trans sd
  replace ec := sd _ _ ec
  have ed : upd HC pd (HO.lst (Z.map V.str)) pd = _ := aB
  generalize upd HC pd (HO.lst (Z.map V.str)) = HD at sd sD ec ed |-
  rw [HX, ec, ed, xW, List.length_map, List.length_map, List.length_append]
  refine ⟨aP (by omega), fun pe hpe => ?_⟩
  refine q pe (W ++ O ++ Z) _ (sD.none hpe) (sD.trans (aA hpe)) (by rw [aB, <- List.map_append]) (by simp only [List.length_append]; omega) fun t ht => ?_
  rcases List.mem_append.mp ht with ht | ht
  ·rcases List.mem_append.mp ht with ht | ht
   ·exact bW t ht
   ·exact hpl t ht
  ·exact bZ t ht
abbrev gA : Stmt := top 46
theorem lK : bF ["_law_script", "_law_heads", "_law_head", "_law_behind", "_law_k", "_law_tape_here", "_law_choice", "_law_rows", "_law_word_here", "_law_made", "_law_at", "_law_words_here"] ["_law_script"] (aj gA) := ⟨rfl, rfl, rfl, by decide +kernel, rfl, by decide +kernel, by decide +kernel⟩
abbrev N31_ : List Str := ["_law_script", "_law_heads", "_law_head", "_law_behind", "_law_k", "_law_tape_here", "_law_choice", "_law_rows", "_law_word_here", "_law_made", "_law_at", "_law_words_here"]
theorem Qa : NM_ N31_ gA 0 "_law_script" := .of (by decide +kernel)
theorem tZ : NM_ N31_ gA 1 "_law_heads" := .of (by decide +kernel)
theorem P0 : NM_ N31_ gA 2 "_law_head" := .of (by decide +kernel)
theorem PX : NM_ N31_ gA 3 "_law_behind" := .of (by decide +kernel)
theorem PN : NM_ N31_ gA 4 "_law_k" := .of (by decide +kernel)
theorem Bl : NM_ N31_ gA 5 "_law_tape_here" := .of (by decide +kernel)
theorem Bk : NM_ N31_ gA 6 "_law_choice" := .of (by decide +kernel)
theorem Bj : NM_ N31_ gA 7 "_law_rows" := .of (by decide +kernel)
theorem Gb : NM_ N31_ gA 8 "_law_word_here" := .of (by decide +kernel)
theorem Bh : NM_ N31_ gA 9 "_law_made" := .of (by decide +kernel)
theorem Bm : NM_ N31_ gA 10 "_law_at" := .of (by decide +kernel)
theorem vC : NM_ N31_ gA 11 "_law_words_here" := .of (by decide +kernel)
theorem uI : GI_ gA "_law_choice_text" := by decide +kernel
theorem uT : GI_ gA "_law_right" := by decide +kernel
theorem xG : GI_ gA "_law_take" := by decide +kernel
theorem GF : GI_ gA "_law_tape" := by decide +kernel
theorem uH : GI_ gA "_law_wild_choice" := by decide +kernel
theorem DQ : GI_ gA "_law_words" := by decide +kernel
theorem sS : GI_ gA "len" := by decide +kernel
theorem KH : GI_ gA "list" := by decide +kernel
theorem Ra : GI_ gA "min" := by decide +kernel
theorem GD : GI_ gA "range" := by decide +kernel
def Hv (K : PySem.W.Frag) : Sp := fun vs H Q _ => ∃ (a : Addr) (ns : List Int), vs = [.ref a] /\ SqL K H a (ns.map V.int) /\ ns.length <= 63 /\ ∀ H', Q (.bl true) H'
theorem Yy (hB : ∀ x : Str, x ∈ BLs -> mg x = none) (CZTake : Cal P w K mg base "_law_take" 2 ["_law_tape_here", "_law_many"] (gq 2)) (CZTape : Cal P w K mg base "_law_tape" 2 ["_law_script", "_law_k"] (Mr K)) (CZWildChoice : Cal P w K mg base "_law_wild_choice" 5 ["_law_tape_here"] Mq) (CZChoiceText : Cal P w K mg base "_law_choice_text" 2 ["_law_choice"] Wz)
  (CZRight : Cal P w K mg base "_law_right" 6 ["_law_text"] Ho) (CZWords : Cal P w K mg base "_law_words" 2 ["_law_width", "_law_sign"] Ci)
  (F : Fun K "law" "law" gA f fd) : dh P w K mg base CX0 63 f fd ["_law_script"] (Hv K) := by
 refine F.okq lK (fun vs H Q E h => ?_) (fun cdv A outer s H vs Q E hr h => ?_)
 ·obtain ⟨a, ns, rfl, _⟩ := h
  rfl
 ·obtain ⟨a, ns, rfl, hS, h63, q⟩ := h
  refine ⟨_, (aD (bL tZ lK.nd aG)
   (aD (bL tZ lK.nd (aH bT (aq tZ) aG))
   (aD (bL tZ lK.nd (aH bT (aq tZ) aG))
   (aD (jP PassesOwn.never rfl (dw (iz PySem.F.slot_str_split PySem.F.type_str_split gG (aq tZ) (ak aG ao))) (cL P0 lK.nd)
   (aF (jP PassesOwn.never rfl (dw (bY (ak aG (ak aG (ak aG (ak aG (ak aG ao))))))) (cL PX lK.nd)
   (aF (cg (fQ (cW (bf CZRight (hr.mono (by decide)) uT Ef (ak (aH bT (aq P0) (aq PX)) ao)))) (aF (aL nF)) bJ)))))
   (aD (jP PassesOwn.never rfl (pQ GD (hB "range" rY) (ak (aH bT au (bI (uL rfl) Ra (hB "min" Gg) boot_min GR (ak au (ak (bI jG sS (hB "len" eX) PySem.boot_len fj (ak (aq Qa) ao)) ao)))) ao)) (cL PN lK.nd)
   (aD (bL Bl lK.nd (bf CZTape (hr.mono (by decide)) GF Wh (ak (aq Qa) (ak (aq PN) ao))))
   (aD (bL Bk lK.nd (bf CZWildChoice (hr.mono (by decide)) uH yH (ak (aq Bl) ao)))
   (aD (bL Bj lK.nd (iz PySem.F.slot_str_split PySem.F.type_str_split gG (bf CZChoiceText (hr.mono (by decide)) uI yI (ak (aq Bk) ao)) (ak aG ao)))
   (aF (jP PassesOwn.never rfl (dw (bf CZWords (hr.mono (by decide)) DQ RJ (ak (bR Dz (aq Bk) au (fun _ _ => rfl)) (ak (bR Dz (aq Bk) au (fun _ _ => rfl)) ao)))) (cL Gb lK.nd)
   (aD (Az (i := 9) (j := 10) rfl lK.nd rfl rfl (by decide) rfl rfl (ak (jQ BR KH (hB "list" vD) boot_list vK (ak (aq Bj) ao)) (ak (bf CZTake (hr.mono (by decide)) xG cR (ak (aq Bl) (ak (aH bT (bI jK sS (hB "len" eX) PySem.boot_len fj (ak (aq Bj) ao)) au) ao))) ao)) (by rfl))
   (aD (cg (aW Fx (aq Bm) (bY (ak au (ak (bI jK sS (hB "len" eX) PySem.boot_len fj (ak (aq Bj) ao)) ao))) (by with_unfolding_all rfl)) (aF (j9 (pR (aq Bh) (aH bT aG (aq Gb))))) (aD (bL vC lK.nd (iz PySem.F.slot_str_split PySem.F.type_str_split gG (bR Dz (aq Bh) (aq Bm) (fun _ _ => rfl)) (ak aG ao)))
   (aD (j9 (T6 (aq vC) (aH bT au (bf CZTake (hr.mono (by decide)) xG cR (ak (aq Bl) (ak (bI jK sS (hB "len" eX) PySem.boot_len fj (ak (aq vC) ao)) ao)))) (aq Gb)))
   (aF (gO (iz PySem.F.slot_str_join PySem.F.type_str_join rW aG (ak (aq vC) ao)) (T5 (aq Bh) (aq Bm) HJ))))))
   (aF (cg (fQ (cW (bf CZRight (hr.mono (by decide)) uT Ef (ak (iz PySem.F.slot_str_join PySem.F.type_str_join rW aG (ak (aq Bh) ao)) ao)))) (aF (aL nF)) bJ))))))))))
   (aF (aL nF))))))), ?_⟩
  refine aK fun k hk => ?_
  push_cast
  subst hk
  refine aK fun k hk => ?_
  push_cast [rdX]
  refine ⟨by decide +kernel, ?_⟩
  subst hk
  refine aK fun k hk => ?_
  push_cast [rdX]
  refine ⟨by decide +kernel, ?_⟩
  suffices go : ∀ odd : Str, odd.length <= 2000 -> k [some (.ref a), some (.str odd), none, none, none, none, none, none, none, none, none, none] H from go _ (by decide +kernel)
  intro odd hodd
  subst hk
  refine aK fun k hk => ?_
  refine pC fun R hR => ?_
  push_cast [rdX]
  rw [show (("|" : Str)) = ⟨#[124]⟩ by decide +kernel]
  have hps := pW odd 124
  have hpl := lR odd 124
  obtain ⟨ps, hps0⟩ : ∃ ps, ps = Txt.split odd ⟨#[124]⟩ := ⟨_, rfl⟩
  rw [<- hps0] at hps hpl |-
  refine ⟨rfl, by rw [sizeLine_eq]; omega, aP (by omega), fun l1 hl1 => ?_⟩
  have s1 := aA (o := HO.lst (ps.map V.str)) hl1
  have e1 : upd H l1 (HO.lst (ps.map V.str)) l1 = _ := aB
  generalize upd H l1 (HO.lst (ps.map V.str)) = H1 at s1 e1 |-
  obtain ⟨Pv, hPv⟩ : ∃ Pv : Nat -> L2.St -> Hp -> Prop, Pv = fun (i : Nat) σ H' => Same H1 H' /\ ∃ o2 o3, σ = [some (.ref a), some (.str odd), o2, o3, none, none, none, none, none, none, none, none] := ⟨_, rfl⟩
  refine Rh hR (xs := ps.map V.str) Pv (by rw [hPv]; exact ⟨Same.refl _, _, _, rfl⟩) (fun i σ H' _ pv => ?_) ?_ ?_
  ·rw [hPv] at pv
   exact SqL.of (pv.1 _ _ e1)
  ·intro i x σ H2 hx pv
   rw [hPv] at pv
   obtain ⟨s2, o2, o3, rfl⟩ := pv
   rw [List.getElem?_map] at hx
   obtain ⟨one, hone, rfl⟩ := Option.map_eq_some_iff.mp hx
   have hol := hpl one (List.mem_of_getElem? hone)
   refine pC fun R2 hR2 => ?_
   push_cast
   refine ⟨aP (by decide), fun t3 ht3 => ?_⟩
   have s3 := s2.trans (aA (o := HO.tup [V.str "", V.str "\ncase", V.str "\ncase 0", V.str "\n", V.str "\ncase\ncases 0"]) ht3)
   have e3 : upd H2 t3 (HO.tup [V.str "", V.str "\ncase", V.str "\ncase 0", V.str "\n", V.str "\ncase\ncases 0"]) t3 = _ := aB
   generalize upd H2 t3 (HO.tup [V.str "", V.str "\ncase", V.str "\ncase 0", V.str "\n", V.str "\ncase\ncases 0"]) = H3 at s3 e3 |-
   obtain ⟨Pw, hPw⟩ : ∃ Pv : Nat -> L2.St -> Hp -> Prop, Pv = fun (i : Nat) σ H' => Same H3 H' /\ ∃ o3, σ = [some (.ref a), some (.str odd), some (.str one), o3, none, none, none, none, none, none, none, none] := ⟨_, rfl⟩
   refine WM hR2 (xs := [V.str "", V.str "\ncase", V.str "\ncase 0", V.str "\n", V.str "\ncase\ncases 0"]) Pw (by rw [hPw]; exact ⟨Same.refl _, _, rfl⟩) (fun j σ H' pw => ?_) ?_ ?_
   ·rw [hPw] at pw
    exact pw.1 _ _ e3
   ·intro j y σ H4 hy pw
    rw [hPw] at pw
    obtain ⟨s4, o3, rfl⟩ := pw
    obtain ⟨b, hb, rfl⟩ : ∃ b : Str, b.length <= 20 /\ y = V.str b := by
     have hq9 := List.mem_of_getElem? hy
     simp only [List.mem_cons, List.not_mem_nil, or_false] at hq9
     rcases hq9 with rfl | rfl | rfl | rfl | rfl
     ·exact ⟨_, by decide +kernel, rfl⟩
     ·exact ⟨_, by decide +kernel, rfl⟩
     ·exact ⟨_, by decide +kernel, rfl⟩
     ·exact ⟨_, by decide +kernel, rfl⟩
     ·exact ⟨_, by decide +kernel, rfl⟩
    push_cast [rdX]
    refine ⟨by rw [sizeLine_eq]; omega, one ++ b, rfl, by rw [nu]; omega, fun H5 s5 => ?_⟩
    push_cast
    rw [hPw]
    exact ⟨s4.trans s5, _, rfl⟩
   ·intro σ H4 pw
    rw [hPw] at pw
    obtain ⟨s4, o3, rfl⟩ := pw
    show Pv (i + 1) _ _
    rw [hPv]
    exact ⟨s3.trans s4, _, _, rfl⟩
  ·intro σ H2 pv
   rw [hPv] at pv
   obtain ⟨s2, o2, o3, rfl⟩ := pv
   show k _ _
   subst hk
   have hS2 := (s1.trans s2).seq hS
   generalize H2 = H0 at hS2 |-
   clear s1 s2 e1 hPv hR
   refine aK fun k hk => ?_
   refine pC fun R hR => ?_
   push_cast [wW, rdX]
   refine ⟨_, .inl hS2, ?_⟩
   rw [List.length_map]
   have m6 : (0 : Int) <= 1 + (if (ns.length : Int) < 6 then (ns.length : Int) else 6) /\ 1 + (if (ns.length : Int) < 6 then (ns.length : Int) else 6) <= 7 := by
    split <;> omega
   refine ⟨by omega, by omega, ?_⟩
   obtain ⟨Pv, hPv⟩ : ∃ Pv : Nat -> L2.St -> Hp -> Prop, Pv = fun (i : Nat) σ H' => Same H0 H' /\ ∃ o4 o5 o6 o7 o8 o9 oa ob, σ = [some (.ref a), some (.str odd), o2, o3, o4, o5, o6, o7, o8, o9, oa, ob] := ⟨_, rfl⟩
   refine Jd hR Pv (by rw [hPv]; exact ⟨Same.refl _, none, none, none, none, none, none, none, none, rfl⟩) ?_ ?_
   ·intro i σ H1 hi pv
    rw [hPv] at pv
    obtain ⟨s1, o4, o5, o6, o7, o8, o9, oa, ob, rfl⟩ := pv
    refine aK fun k2 hk2 => ?_
    push_cast
    refine ⟨a, ns, (0 : Int) + (i : Int), rfl, s1.seq hS2, by omega, by omega, fun p H2 hp s2 tp => ?_⟩
    push_cast
    subst hk2
    have hp0 : H0 p = none := s1.none hp
    refine aK fun k2 hk2 => ?_
    push_cast
    refine ⟨p, 0, rfl, tp, by decide, by decide, fun w s t css H3 hw1 hw2 hs s3 tp3 tr3 hok3 hl3 => ?_⟩
    subst hk2
    have sx3 : cj p H0 H3 := ((s1.trans s2).x (p := p)).trans s3
    have hch : yN w s css := ⟨hw1, hw2, hs, hok3, hl3⟩
    have htx := hch.len
    obtain ⟨p0, c0, xs0, e0, _, ep, _⟩ := uM tr3
    cases e0
    have npt : t ≠ p := tp3.net ep
    refine aK fun k2 hk2 => ?_
    push_cast [rdX]
    refine ⟨_, w, s, _, css, rfl, hch, tr3, fun H4 s34 => ?_⟩
    push_cast [rdX]
    rw [yF]
    have hrow := hch.rows
    obtain ⟨rs, hrs⟩ : ∃ rs, rs = ju w s :: css.map qF := ⟨_, rfl⟩
    have hrl : 1 <= rs.length /\ rs.length <= 13 := by rw [hrs, List.length_cons, List.length_map]; omega
    rw [<- hrs] at hrow |-
    refine ⟨by decide +kernel, aP (by omega), aP (by omega), fun pr hpr => ?_⟩
    have s45 := aA (o := HO.lst (rs.map V.str)) hpr
    have e5 : upd H4 pr (HO.lst (rs.map V.str)) pr = _ := aB
    have sx5 := sx3.trans (s34.trans s45).x
    have tp5 := tp3.same (s34.trans s45)
    have nr : pr ≠ p := (tp3.same s34).ne hpr
    replace ep := (s34.trans s45) _ _ ep
    generalize upd H4 pr (HO.lst (rs.map V.str)) = H5 at s45 e5 sx5 tp5 ep |-
    clear s1 s2 s3 s34 s45 tp3 tr3 tp hpr
    subst hk2
    refine pC fun R3 hR3 => ?_
    push_cast [rdX, ep]
    refine ⟨w, s, rfl, hw1, hw2, hs, fun pw ws H6 hpw s56 e6 hwn hwl => ?_⟩
    have npw : pw ≠ p := tp5.ne hpw
    have sx6 := sx5.trans s56.x
    have tp6 := tp5.same s56
    replace e5 := s56 _ _ e5
    try push_cast [e6]
    obtain ⟨Pw, hPw⟩ : ∃ Pv : Nat -> L2.St -> Hp -> Prop, Pv = fun (j : Nat) σ H' => cj p H6 H' /\ bN H' p (6000 + 10 * (j : Int)) /\ ∃ o8 o9 oa ob, σ = [some (.ref a), some (.str odd), o2, o3, some (.int (0 + (i : Int))), some (.ref p), some (.ref t), some (.ref pr), o8, o9, oa, ob] := ⟨_, rfl⟩
    refine Rh hR3 (xs := ws.map V.str) Pw (by rw [hPw]; exact ⟨cj.refl _ _, tp6.le (by decide), _, _, _, _, rfl⟩) (fun j σ H' _ pw => ?_) ?_ ?_
    ·rw [hPw] at pw
     exact SqL.of (pw.1 _ _ npw e6)
    ·intro j y σ H7 hy pv
     rw [hPw] at pv
     obtain ⟨s7, tp7, o8, o9, oa, ob, rfl⟩ := pv
     rw [List.getElem?_map] at hy
     obtain ⟨wd, hwd, rfl⟩ := Option.map_eq_some_iff.mp hy
     have hwdl := hwl wd (List.mem_of_getElem? hwd)
     have hjl := (List.getElem?_eq_some_iff.mp hwd).1
     have e7 := s7 _ _ nr e5
     refine aK fun k3 hk3 => ?_
     push_cast [rdX]
     refine ⟨_, .inl (SqL.of e7), fun pm hpm => ?_⟩
     have npm : pm ≠ p := tp7.ne hpm
     have old : ∀ {Hz : Hp} {b : Addr}, cj p H6 Hz -> b ≠ p -> Hz b = none -> H6 b = none := fun {Hz b} sz nb hz => by
      cases e : H6 b with
      | none => rfl
      | some o => rw [sz _ _ nb e] at hz; cases hz
     have hm6 := old s7 npm hpm
     have nmr : pr ≠ pm := aQ e7 hpm
     have s78 := aA (o := HO.lst (rs.map V.str)) hpm
     have s8 := s7.trans s78.x
     have tp8 := tp7.same s78
     have e8 := s78 _ _ e7
     have m8 : upd H7 pm (HO.lst (rs.map V.str)) pm = _ := aB
     generalize upd H7 pm (HO.lst (rs.map V.str)) = H8 at s78 s8 tp8 e8 m8 |-
     push_cast [rdX, e8]
     rw [List.length_map]
     refine ⟨p, _, 6000 + 10 * (j : Int), rfl, tp8, by omega, by omega, by omega, by decide, fun z => absurd z (by omega), fun at0 H9 a0 a1 s89 tp9 => ?_⟩
     have e9 := s89 _ _ nr e8
     have m9 := s89 _ _ npm m8
     have s9 := s8.trans s89
     show k3 _ _
     subst hk3
     refine aK fun k3 hk3 => ?_
     have hl0 : ("\n" : Str).length = 1 := by decide +kernel
     have fin : ∀ (made : List Str) (H' : Hp) (ob : Option V), cj p H6 H' -> bN H' p (6000 + 10 * (j : Int) + 4) -> H' pm = some (.lst (made.map V.str)) -> made.length <= 14 -> (∀ t ∈ made, t.length <= 1000) ->
       k3 [some (.ref a), some (.str odd), o2, o3, some (.int (0 + (i : Int))), some (.ref p), some (.ref t), some (.ref pr), some (.str wd), some (.ref pm), some (.int at0), ob] H' := by
      intro made H' ob sx tpx em hml hmt
      subst hk3
      push_cast [rdX, em]
      refine ⟨made, rfl, qd (L := 1000) (n := 14) hmt hml (by rw [hl0]; decide), ?_⟩
      have hjl2 := join_le (sep := "\n") (L := 1000) (n := 14) hmt hml
      rw [hl0] at hjl2
      refine ⟨_, rfl, Nat.le_trans hjl2 (by decide), fun H'' s'' => ?_⟩
      push_cast
      rw [hPw]
      exact ⟨sx.trans s''.x, (tpx.same s'').le (by show 6000 + 10 * (j : Int) + 4 <= 6000 + 10 * ((j + 1 : Nat) : Int); omega), _, _, _, _, rfl⟩
     push_cast [rdX, e9]
     rw [List.length_map]
     refine ⟨aP (by decide), fun pt hpt => ⟨rfl, rfl, ?_⟩⟩
     have sA := aA (o := HO.tup [V.int 0, V.int (rs.length : Nat)]) hpt
     have mA := sA _ _ m9
     have tpA := tp9.same sA
     have sxA := s9.trans sA.x
     generalize upd H9 pt (HO.tup [V.int 0, V.int (rs.length : Nat)]) = HA at sA mA tpA sxA |-
     have hin : inV (V.int at0) [V.int 0, V.int (rs.length : Nat)] = (((0 : Int) == at0) || (((rs.length : Nat) : Int) == at0)) := by
      unfold inV
      show (((0 : Int) == at0) || ((((rs.length : Nat) : Int) == at0) || false)) = _
      rw [Bool.or_false]
     have hlc : ("case " : Str).length = 5 := by decide +kernel
     cases hc : inV (V.int at0) [V.int 0, V.int (rs.length : Nat)] with
     | true =>
      rw [if_pos rfl, mA, vL]
      refine ⟨trivial, aP (by omega), Nat.lt_of_lt_of_le (show (rs.map V.str).length < 1000 by rw [List.length_map]; omega) (aP (by decide)), ?_⟩
      refine fin (rs ++ ["case " ++ wd]) _ _ (iV sxA hm6) ((tpA.upd npm).le (by omega)) (by rw [aB, List.map_append]; rfl) (by rw [List.length_append, List.length_singleton]; omega) fun t ht => ?_
      rcases List.mem_append.mp ht with ht | ht
      ·have := hrow t ht
       omega
      ·rw [List.mem_singleton.mp ht, nu]
       omega
     | false =>
      rw [if_neg (by decide), mA, Iu]
      rw [hin, Bool.or_eq_false_iff, beq_eq_false_iff_ne, beq_eq_false_iff_ne] at hc
      have hat : at0.toNat < rs.length := by omega
      obtain ⟨r, hr⟩ : ∃ r, rs[at0.toNat]? = some r := ⟨_, List.getElem?_eq_getElem hat⟩
      have hrl2 := hrow r (List.mem_of_getElem? hr)
      have hatI : atI (rs.map V.str) at0 = some (V.str r) := by
       have := cT (xs := rs.map V.str) (j := at0.toNat) (by rw [List.getElem?_map, hr]; rfl)
       rwa [show ((at0.toNat : Nat) : Int) = at0 by omega] at this
      refine ⟨_, hatI, trivial, ?_⟩
      have hps2 := pW r 32
      have hune := List.length_pos_iff.mpr (nR r 32)
      rw [<- qj] at hps2 hune
      push_cast [rdX, rdB]
      generalize Txt.split r " " = us at hps2 hune |-
      refine ⟨by decide +kernel, aP (by omega), aP (by omega), fun pu hpu => ?_⟩
      have npu : pu ≠ p := tpA.ne hpu
      have nmu : pm ≠ pu := aQ mA hpu
      have sB := aA (o := HO.lst (us.map V.str)) hpu
      have eB : upd HA pu (HO.lst (us.map V.str)) pu = _ := aB
      have mB := sB _ _ mA
      have tpB := tpA.same sB
      have sxB := sxA.trans sB.x
      generalize upd HA pu (HO.lst (us.map V.str)) = HB at sB eB mB tpB sxB |-
      have hu6 := old sxA npu hpu
      try push_cast [rdX, rdB, eB]
      rw [List.length_map]
      refine ⟨p, _, 6000 + 10 * (j : Int) + 2, rfl, tpB, by omega, by omega, by omega, by decide, fun z => absurd z (by omega), fun at1 HC b0 b1 sC tpC => ?_⟩
      have eC := sC _ _ npu eB
      have mC := sC _ _ npm mB
      have sxC := sxB.trans sC
      push_cast [rdX, rdB, eC]
      rw [List.length_map]
      refine ⟨by omega, by omega, Nat.lt_of_lt_of_le (show us.length < 1000 by omega) (aP (by decide)), ?_⟩
      obtain ⟨vs2, hvs⟩ : ∃ vs2 : List Str, vs2 = us.take (1 + at1).toNat ++ wd :: us.drop (1 + at1).toNat := ⟨_, rfl⟩
      have hins : QJ (us.map V.str) (1 + at1) (V.str wd) = vs2.map V.str := by
       unfold QJ
       rw [hvs, List.map_append, List.map_cons, List.map_take, List.map_drop]
      have hsum : (vs2.map (·.length)).sum + vs2.length <= 600 := by
       have e := congrArg (fun l : List Str => (l.map (·.length)).sum + l.length) (List.take_append_drop (1 + at1).toNat us)
       simp only [List.map_append, List.sum_append, List.length_append] at e
       rw [hvs]
       simp only [List.map_append, List.map_cons, List.sum_append, List.sum_cons, List.length_append, List.length_cons]
       omega
      rw [hins]
      have sxD : cj p H6 (upd HC pu (HO.lst (vs2.map V.str))) := iV sxC hu6
      have tpD : bN (upd HC pu (HO.lst (vs2.map V.str))) p (6000 + 10 * (j : Int) + 2 + 2) := tpC.upd npu
      have eD : upd HC pu (HO.lst (vs2.map V.str)) pu = _ := aB
      have mD : upd HC pu (HO.lst (vs2.map V.str)) pm = some (.lst (rs.map V.str)) := by rw [aJ nmu]; exact mC
      generalize upd HC pu (HO.lst (vs2.map V.str)) = HD at sxD tpD eD mD |-
      try push_cast [rdX, eD]
      have hj2 := join_one (c := 32) hsum (by decide)
      rw [<- qj] at hj2
      refine ⟨vs2, rfl, hj2.1, ?_⟩
      rw [mD, Hg]
      refine ⟨at0.toNat, ?_, ?_⟩
      ·rw [List.length_map]
       exact Vr (by omega) (by omega)
      ·refine fin (rs.set at0.toNat (Txt.join " " vs2)) _ _ (iV sxD hm6) ((tpD.upd npm).le (by omega)) (by rw [aB, List.map_set]) (by rw [List.length_set]; omega) fun t ht => ?_
       rcases List.mem_or_eq_of_mem_set ht with h | h
       ·have := hrow t h
        omega
       ·rw [h]
        omega
    ·intro σ H7 pv
     rw [hPw] at pv
     obtain ⟨s7, tp7, o8, o9, oa, ob, rfl⟩ := pv
     show Pv (i + 1) _ _
     rw [hPv]
     exact ⟨rD (sx6.trans s7) hp0, _, _, _, _, _, _, _, _, rfl⟩
   ·intro σ H1 pv
    rw [hPv] at pv
    obtain ⟨s1, o4, o5, o6, o7, o8, o9, oa, ob, rfl⟩ := pv
    show k _ _
    subst hk
    exact q _
end
theorem all_mk {l : PySem.W.OpenLaw} {w : World} {K : PySem.W.Frag} {h : Heap} {mg : Str -> Option Value} {fa : Addr} {f1 : Addr} {od1 an1 : Option Addr} {sl1 : Array (Option Value)} {oc1 kV1 dc1 pm1 cd1 ct1 : Value} {f2 : Addr} {od2 an2 : Option Addr} {sl2 : Array (Option Value)} {oc2 kV2 dc2 pm2 cd2 ct2 : Value} {f3 : Addr} {od3 an3 : Option Addr} {sl3 : Array (Option Value)} {oc3 kV3 dc3 pm3 cd3 ct3 : Value} {f4 : Addr} {od4 an4 : Option Addr} {sl4 : Array (Option Value)} {oc4 kV4 dc4 pm4 cd4 ct4 : Value} {f5 : Addr} {od5 an5 : Option Addr} {sl5 : Array (Option Value)} {oc5 kV5 dc5 pm5 cd5 ct5 : Value} {f6 : Addr} {od6 an6 : Option Addr} {sl6 : Array (Option Value)} {oc6 kV6 dc6 pm6 cd6 ct6 : Value} {f7 : Addr} {od7 an7 : Option Addr} {sl7 : Array (Option Value)} {oc7 kV7 dc7 pm7 cd7 ct7 : Value} {f8 : Addr} {od8 an8 : Option Addr} {sl8 : Array (Option Value)} {oc8 kV8 dc8 pm8 cd8 ct8 : Value} {f9 : Addr} {od9 an9 : Option Addr} {sl9 : Array (Option Value)} {oc9 kV9 dc9 pm9 cd9 ct9 : Value} {f10 : Addr} {od10 an10 : Option Addr} {sl10 : Array (Option Value)} {oc10 kV10 dc10 pm10 cd10 ct10 : Value} {f11 : Addr} {od11 an11 : Option Addr} {sl11 : Array (Option Value)} {oc11 kV11 dc11 pm11 cd11 ct11 : Value} {f12 : Addr} {od12 an12 : Option Addr} {sl12 : Array (Option Value)} {oc12 kV12 dc12 pm12 cd12 ct12 : Value} {f13 : Addr} {od13 an13 : Option Addr} {sl13 : Array (Option Value)} {oc13 kV13 dc13 pm13 cd13 ct13 : Value} {f14 : Addr} {od14 an14 : Option Addr} {sl14 : Array (Option Value)} {oc14 kV14 dc14 pm14 cd14 ct14 : Value} {f15 : Addr} {od15 an15 : Option Addr} {sl15 : Array (Option Value)} {oc15 kV15 dc15 pm15 cd15 ct15 : Value} {f16 : Addr} {od16 an16 : Option Addr} {sl16 : Array (Option Value)} {oc16 kV16 dc16 pm16 cd16 ct16 : Value} {f17 : Addr} {od17 an17 : Option Addr} {sl17 : Array (Option Value)} {oc17 kV17 dc17 pm17 cd17 ct17 : Value} {f18 : Addr} {od18 an18 : Option Addr} {sl18 : Array (Option Value)} {oc18 kV18 dc18 pm18 cd18 ct18 : Value} {f19 : Addr} {od19 an19 : Option Addr} {sl19 : Array (Option Value)} {oc19 kV19 dc19 pm19 cd19 ct19 : Value} {f20 : Addr} {od20 an20 : Option Addr} {sl20 : Array (Option Value)} {oc20 kV20 dc20 pm20 cd20 ct20 : Value} {f21 : Addr} {od21 an21 : Option Addr} {sl21 : Array (Option Value)} {oc21 kV21 dc21 pm21 cd21 ct21 : Value} {f22 : Addr} {od22 an22 : Option Addr} {sl22 : Array (Option Value)} {oc22 kV22 dc22 pm22 cd22 ct22 : Value} {f23 : Addr} {od23 an23 : Option Addr} {sl23 : Array (Option Value)} {oc23 kV23 dc23 pm23 cd23 ct23 : Value} {f24 : Addr} {od24 an24 : Option Addr} {sl24 : Array (Option Value)} {oc24 kV24 dc24 pm24 cd24 ct24 : Value} {f25 : Addr} {od25 an25 : Option Addr} {sl25 : Array (Option Value)} {oc25 kV25 dc25 pm25 cd25 ct25 : Value} {f26 : Addr} {od26 an26 : Option Addr} {sl26 : Array (Option Value)} {oc26 kV26 dc26 pm26 cd26 ct26 : Value} {f27 : Addr} {od27 an27 : Option Addr} {sl27 : Array (Option Value)} {oc27 kV27 dc27 pm27 cd27 ct27 : Value} {f28 : Addr} {od28 an28 : Option Addr} {sl28 : Array (Option Value)} {oc28 kV28 dc28 pm28 cd28 ct28 : Value} {f29 : Addr} {od29 an29 : Option Addr} {sl29 : Array (Option Value)} {oc29 kV29 dc29 pm29 cd29 ct29 : Value} {f30 : Addr} {od30 an30 : Option Addr} {sl30 : Array (Option Value)} {oc30 kV30 dc30 pm30 cd30 ct30 : Value} {f31 : Addr} {od31 an31 : Option Addr} {sl31 : Array (Option Value)} {oc31 kV31 dc31 pm31 cd31 ct31 : Value} {f32 : Addr} {od32 an32 : Option Addr} {sl32 : Array (Option Value)} {oc32 kV32 dc32 pm32 cd32 ct32 : Value} {f33 : Addr} {od33 an33 : Option Addr} {sl33 : Array (Option Value)} {oc33 kV33 dc33 pm33 cd33 ct33 : Value} {ckFigures : Tok} {ckMostFigures : Tok} {ckMostWidth : Tok} {nmB qB : Str} {bsB : List Value} {snB : List Str} {subB : List Value} {abB : Bool} {colB : Option Bool} {ddB : Option Addr} {b0 b1 b2 b3 b5 : Option Value} {nmD qD : Str} {bsD : List Value} {hdD : Bool} {snD : List Str} {subD : List Value} {abD : Bool} {colD : Option Bool} {ddD : Option Addr} {e0 e1 e2 e3 e5 : Option Value} {nidD : String} {aTwice aBeyond aTooNarrow aNoStretch aBadText aCaseError NB ND fI : Addr} {odI anI : Option Addr} {slI : Array (Option Value)} {kVI dcI pmI cdI ctI : Value} (X : K.In h) (G : h.Ns mainGlobals mg) (hfa : mg "law" = some (.ref fa))
  (a1 : PySem.W.nsIn K mainGlobals "is_number" = some (some (.ref f1))) (l1 : K.lookup f1 = some ⟨oc1, od1, .func (PySem.W.fnOf "is_number" "is_number" (bx dU) (aZ dU) (aj dU) .none kV1 dc1 pm1 an1 cd1 ct1), sl1⟩) (c1 : PySem.W.codeIn K cd1 "is_number" = true) (k1 : PySem.W.keepIn K (.ref f1) = true)
  (a2 : PySem.W.nsIn K mainGlobals "is_kind" = some (some (.ref f2))) (l2 : K.lookup f2 = some ⟨oc2, od2, .func (PySem.W.fnOf "is_kind" "is_kind" (bx gH) (aZ gH) (aj gH) .none kV2 dc2 pm2 an2 cd2 ct2), sl2⟩) (c2 : PySem.W.codeIn K cd2 "is_kind" = true) (k2 : PySem.W.keepIn K (.ref f2) = true)
  (a3 : PySem.W.nsIn K mainGlobals "least_of" = some (some (.ref f3))) (l3 : K.lookup f3 = some ⟨oc3, od3, .func (PySem.W.fnOf "least_of" "least_of" (bx gC) (aZ gC) (aj gC) .none kV3 dc3 pm3 an3 cd3 ct3), sl3⟩) (c3 : PySem.W.codeIn K cd3 "least_of" = true) (k3 : PySem.W.keepIn K (.ref f3) = true)
  (a4 : PySem.W.nsIn K mainGlobals "most_of" = some (some (.ref f4))) (l4 : K.lookup f4 = some ⟨oc4, od4, .func (PySem.W.fnOf "most_of" "most_of" (bx je) (aZ je) (aj je) .none kV4 dc4 pm4 an4 cd4 ct4), sl4⟩) (c4 : PySem.W.codeIn K cd4 "most_of" = true) (k4 : PySem.W.keepIn K (.ref f4) = true)
  (a5 : PySem.W.nsIn K mainGlobals "is_item" = some (some (.ref f5))) (l5 : K.lookup f5 = some ⟨oc5, od5, .func (PySem.W.fnOf "is_item" "is_item" (bx cG) (aZ cG) (aj cG) .none kV5 dc5 pm5 an5 cd5 ct5), sl5⟩) (c5 : PySem.W.codeIn K cd5 "is_item" = true) (k5 : PySem.W.keepIn K (.ref f5) = true)
  (a6 : PySem.W.nsIn K mainGlobals "number_from" = some (some (.ref f6))) (l6 : K.lookup f6 = some ⟨oc6, od6, .func (PySem.W.fnOf "number_from" "number_from" (bx bV) (aZ bV) (aj bV) .none kV6 dc6 pm6 an6 cd6 ct6), sl6⟩) (c6 : PySem.W.codeIn K cd6 "number_from" = true) (k6 : PySem.W.keepIn K (.ref f6) = true)
  (a7 : PySem.W.nsIn K mainGlobals "numbers_from" = some (some (.ref f7))) (l7 : K.lookup f7 = some ⟨oc7, od7, .func (PySem.W.fnOf "numbers_from" "numbers_from" (bx cJ) (aZ cJ) (aj cJ) .none kV7 dc7 pm7 an7 cd7 ct7), sl7⟩) (c7 : PySem.W.codeIn K cd7 "numbers_from" = true) (k7 : PySem.W.keepIn K (.ref f7) = true)
  (a8 : PySem.W.nsIn K mainGlobals "item_from" = some (some (.ref f8))) (l8 : K.lookup f8 = some ⟨oc8, od8, .func (PySem.W.fnOf "item_from" "item_from" (bx dj) (aZ dj) (aj dj) .none kV8 dc8 pm8 an8 cd8 ct8), sl8⟩) (c8 : PySem.W.codeIn K cd8 "item_from" = true) (k8 : PySem.W.keepIn K (.ref f8) = true)
  (a9 : PySem.W.nsIn K mainGlobals "kind_from" = some (some (.ref f9))) (l9 : K.lookup f9 = some ⟨oc9, od9, .func (PySem.W.fnOf "kind_from" "kind_from" (bx cP) (aZ cP) (aj cP) .none kV9 dc9 pm9 an9 cd9 ct9), sl9⟩) (c9 : PySem.W.codeIn K cd9 "kind_from" = true) (k9 : PySem.W.keepIn K (.ref f9) = true)
  (a10 : PySem.W.nsIn K mainGlobals "case_from" = some (some (.ref f10))) (l10 : K.lookup f10 = some ⟨oc10, od10, .func (PySem.W.fnOf "case_from" "case_from" (bx dm) (aZ dm) (aj dm) .none kV10 dc10 pm10 an10 cd10 ct10), sl10⟩) (c10 : PySem.W.codeIn K cd10 "case_from" = true) (k10 : PySem.W.keepIn K (.ref f10) = true)
  (a11 : PySem.W.nsIn K mainGlobals "choice_from" = some (some (.ref f11))) (l11 : K.lookup f11 = some ⟨oc11, od11, .func (PySem.W.fnOf "choice_from" "choice_from" (bx bG) (aZ bG) (aj bG) .none kV11 dc11 pm11 an11 cd11 ct11), sl11⟩) (c11 : PySem.W.codeIn K cd11 "choice_from" = true) (k11 : PySem.W.keepIn K (.ref f11) = true)
  (a12 : PySem.W.nsIn K mainGlobals "_law_cell_at" = some (some (.ref f12))) (l12 : K.lookup f12 = some ⟨oc12, od12, .func (PySem.W.fnOf "_law_cell_at" "_law_cell_at" (bx fM) (aZ fM) (aj fM) .none kV12 dc12 pm12 an12 cd12 ct12), sl12⟩) (c12 : PySem.W.codeIn K cd12 "_law_cell_at" = true) (k12 : PySem.W.keepIn K (.ref f12) = true)
  (a13 : PySem.W.nsIn K mainGlobals "_law_tape" = some (some (.ref f13))) (l13 : K.lookup f13 = some ⟨oc13, od13, .func (PySem.W.fnOf "_law_tape" "_law_tape" (bx iw) (aZ iw) (aj iw) .none kV13 dc13 pm13 an13 cd13 ct13), sl13⟩) (c13 : PySem.W.codeIn K cd13 "_law_tape" = true) (k13 : PySem.W.keepIn K (.ref f13) = true)
  (a14 : PySem.W.nsIn K mainGlobals "_law_take" = some (some (.ref f14))) (l14 : K.lookup f14 = some ⟨oc14, od14, .func (PySem.W.fnOf "_law_take" "_law_take" (bx iy) (aZ iy) (aj iy) .none kV14 dc14 pm14 an14 cd14 ct14), sl14⟩) (c14 : PySem.W.codeIn K cd14 "_law_take" = true) (k14 : PySem.W.keepIn K (.ref f14) = true)
  (a15 : PySem.W.nsIn K mainGlobals "_law_kind" = some (some (.ref f15))) (l15 : K.lookup f15 = some ⟨oc15, od15, .func (PySem.W.fnOf "_law_kind" "_law_kind" (bx jn) (aZ jn) (aj jn) .none kV15 dc15 pm15 an15 cd15 ct15), sl15⟩) (c15 : PySem.W.codeIn K cd15 "_law_kind" = true) (k15 : PySem.W.keepIn K (.ref f15) = true)
  (a16 : PySem.W.nsIn K mainGlobals "_law_least" = some (some (.ref f16))) (l16 : K.lookup f16 = some ⟨oc16, od16, .func (PySem.W.fnOf "_law_least" "_law_least" (bx jd) (aZ jd) (aj jd) .none kV16 dc16 pm16 an16 cd16 ct16), sl16⟩) (c16 : PySem.W.codeIn K cd16 "_law_least" = true) (k16 : PySem.W.keepIn K (.ref f16) = true)
  (a17 : PySem.W.nsIn K mainGlobals "_law_number" = some (some (.ref f17))) (l17 : K.lookup f17 = some ⟨oc17, od17, .func (PySem.W.fnOf "_law_number" "_law_number" (bx cI) (aZ cI) (aj cI) .none kV17 dc17 pm17 an17 cd17 ct17), sl17⟩) (c17 : PySem.W.codeIn K cd17 "_law_number" = true) (k17 : PySem.W.keepIn K (.ref f17) = true)
  (a18 : PySem.W.nsIn K mainGlobals "_law_mask" = some (some (.ref f18))) (l18 : K.lookup f18 = some ⟨oc18, od18, .func (PySem.W.fnOf "_law_mask" "_law_mask" (bx gw) (aZ gw) (aj gw) .none kV18 dc18 pm18 an18 cd18 ct18), sl18⟩) (c18 : PySem.W.codeIn K cd18 "_law_mask" = true) (k18 : PySem.W.keepIn K (.ref f18) = true)
  (a19 : PySem.W.nsIn K mainGlobals "_law_item" = some (some (.ref f19))) (l19 : K.lookup f19 = some ⟨oc19, od19, .func (PySem.W.fnOf "_law_item" "_law_item" (bx dR) (aZ dR) (aj dR) .none kV19 dc19 pm19 an19 cd19 ct19), sl19⟩) (c19 : PySem.W.codeIn K cd19 "_law_item" = true) (k19 : PySem.W.keepIn K (.ref f19) = true)
  (a20 : PySem.W.nsIn K mainGlobals "_law_wild_choice" = some (some (.ref f20))) (l20 : K.lookup f20 = some ⟨oc20, od20, .func (PySem.W.fnOf "_law_wild_choice" "_law_wild_choice" (bx aV) (aZ aV) (aj aV) .none kV20 dc20 pm20 an20 cd20 ct20), sl20⟩) (c20 : PySem.W.codeIn K cd20 "_law_wild_choice" = true) (k20 : PySem.W.keepIn K (.ref f20) = true)
  (a21 : PySem.W.nsIn K mainGlobals "_law_same" = some (some (.ref f21))) (l21 : K.lookup f21 = some ⟨oc21, od21, .func (PySem.W.fnOf "_law_same" "_law_same" (bx d9) (aZ d9) (aj d9) .none kV21 dc21 pm21 an21 cd21 ct21), sl21⟩) (c21 : PySem.W.codeIn K cd21 "_law_same" = true) (k21 : PySem.W.keepIn K (.ref f21) = true)
  (a22 : PySem.W.nsIn K mainGlobals "_law_is_number" = some (some (.ref f22))) (l22 : K.lookup f22 = some ⟨oc22, od22, .func (PySem.W.fnOf "_law_is_number" "_law_is_number" (bx dF) (aZ dF) (aj dF) .none kV22 dc22 pm22 an22 cd22 ct22), sl22⟩) (c22 : PySem.W.codeIn K cd22 "_law_is_number" = true) (k22 : PySem.W.keepIn K (.ref f22) = true)
  (a23 : PySem.W.nsIn K mainGlobals "_law_word" = some (some (.ref f23))) (l23 : K.lookup f23 = some ⟨oc23, od23, .func (PySem.W.fnOf "_law_word" "_law_word" (bx fC) (aZ fC) (aj fC) .none kV23 dc23 pm23 an23 cd23 ct23), sl23⟩) (c23 : PySem.W.codeIn K cd23 "_law_word" = true) (k23 : PySem.W.keepIn K (.ref f23) = true)
  (a24 : PySem.W.nsIn K mainGlobals "_law_is_item" = some (some (.ref f24))) (l24 : K.lookup f24 = some ⟨oc24, od24, .func (PySem.W.fnOf "_law_is_item" "_law_is_item" (bx b8) (aZ b8) (aj b8) .none kV24 dc24 pm24 an24 cd24 ct24), sl24⟩) (c24 : PySem.W.codeIn K cd24 "_law_is_item" = true) (k24 : PySem.W.keepIn K (.ref f24) = true)
  (a25 : PySem.W.nsIn K mainGlobals "_law_word_number" = some (some (.ref f25))) (l25 : K.lookup f25 = some ⟨oc25, od25, .func (PySem.W.fnOf "_law_word_number" "_law_word_number" (bx bQ) (aZ bQ) (aj bQ) .none kV25 dc25 pm25 an25 cd25 ct25), sl25⟩) (c25 : PySem.W.codeIn K cd25 "_law_word_number" = true) (k25 : PySem.W.keepIn K (.ref f25) = true)
  (a26 : PySem.W.nsIn K mainGlobals "_law_word_item" = some (some (.ref f26))) (l26 : K.lookup f26 = some ⟨oc26, od26, .func (PySem.W.fnOf "_law_word_item" "_law_word_item" (bx bU) (aZ bU) (aj bU) .none kV26 dc26 pm26 an26 cd26 ct26), sl26⟩) (c26 : PySem.W.codeIn K cd26 "_law_word_item" = true) (k26 : PySem.W.keepIn K (.ref f26) = true)
  (a27 : PySem.W.nsIn K mainGlobals "_law_read" = some (some (.ref f27))) (l27 : K.lookup f27 = some ⟨oc27, od27, .func (PySem.W.fnOf "_law_read" "_law_read" (bx dJ) (aZ dJ) (aj dJ) .none kV27 dc27 pm27 an27 cd27 ct27), sl27⟩) (c27 : PySem.W.codeIn K cd27 "_law_read" = true) (k27 : PySem.W.keepIn K (.ref f27) = true)
  (a28 : PySem.W.nsIn K mainGlobals "_law_item_text" = some (some (.ref f28))) (l28 : K.lookup f28 = some ⟨oc28, od28, .func (PySem.W.fnOf "_law_item_text" "_law_item_text" (bx dY) (aZ dY) (aj dY) .none kV28 dc28 pm28 an28 cd28 ct28), sl28⟩) (c28 : PySem.W.codeIn K cd28 "_law_item_text" = true) (k28 : PySem.W.keepIn K (.ref f28) = true)
  (a29 : PySem.W.nsIn K mainGlobals "_law_choice_text" = some (some (.ref f29))) (l29 : K.lookup f29 = some ⟨oc29, od29, .func (PySem.W.fnOf "_law_choice_text" "_law_choice_text" (bx b7) (aZ b7) (aj b7) .none kV29 dc29 pm29 an29 cd29 ct29), sl29⟩) (c29 : PySem.W.codeIn K cd29 "_law_choice_text" = true) (k29 : PySem.W.keepIn K (.ref f29) = true)
  (a30 : PySem.W.nsIn K mainGlobals "_law_told" = some (some (.ref f30))) (l30 : K.lookup f30 = some ⟨oc30, od30, .func (PySem.W.fnOf "_law_told" "_law_told" (bx gM) (aZ gM) (aj gM) .none kV30 dc30 pm30 an30 cd30 ct30), sl30⟩) (c30 : PySem.W.codeIn K cd30 "_law_told" = true) (k30 : PySem.W.keepIn K (.ref f30) = true)
  (a31 : PySem.W.nsIn K mainGlobals "_law_right" = some (some (.ref f31))) (l31 : K.lookup f31 = some ⟨oc31, od31, .func (PySem.W.fnOf "_law_right" "_law_right" (bx fJ) (aZ fJ) (aj fJ) .none kV31 dc31 pm31 an31 cd31 ct31), sl31⟩) (c31 : PySem.W.codeIn K cd31 "_law_right" = true) (k31 : PySem.W.keepIn K (.ref f31) = true)
  (a32 : PySem.W.nsIn K mainGlobals "_law_words" = some (some (.ref f32))) (l32 : K.lookup f32 = some ⟨oc32, od32, .func (PySem.W.fnOf "_law_words" "_law_words" (bx cY) (aZ cY) (aj cY) .none kV32 dc32 pm32 an32 cd32 ct32), sl32⟩) (c32 : PySem.W.codeIn K cd32 "_law_words" = true) (k32 : PySem.W.keepIn K (.ref f32) = true)
  (a33 : PySem.W.nsIn K mainGlobals "law" = some (some (.ref f33))) (l33 : K.lookup f33 = some ⟨oc33, od33, .func (PySem.W.fnOf "law" "law" (bx gA) (aZ gA) (aj gA) .none kV33 dc33 pm33 an33 cd33 ct33), sl33⟩) (c33 : PySem.W.codeIn K cd33 "law" = true) (k33 : PySem.W.keepIn K (.ref f33) = true)
  (z1 : PySem.W.nsIn K mainGlobals "ValueError" = some none)
  (z2 : PySem.W.nsIn K mainGlobals "abs" = some none)
  (z3 : PySem.W.nsIn K mainGlobals "all" = some none)
  (z4 : PySem.W.nsIn K mainGlobals "any" = some none)
  (z5 : PySem.W.nsIn K mainGlobals "bool" = some none)
  (z6 : PySem.W.nsIn K mainGlobals "enumerate" = some none)
  (z7 : PySem.W.nsIn K mainGlobals "int" = some none)
  (z8 : PySem.W.nsIn K mainGlobals "isinstance" = some none)
  (z9 : PySem.W.nsIn K mainGlobals "len" = some none)
  (z10 : PySem.W.nsIn K mainGlobals "list" = some none)
  (z11 : PySem.W.nsIn K mainGlobals "max" = some none)
  (z12 : PySem.W.nsIn K mainGlobals "min" = some none)
  (z13 : PySem.W.nsIn K mainGlobals "range" = some none)
  (z14 : PySem.W.nsIn K mainGlobals "str" = some none)
  (z15 : PySem.W.nsIn K mainGlobals "tuple" = some none)
  (z16 : PySem.W.nsIn K mainGlobals "zip" = some none)
  (w1 : PySem.W.nsIn K mainGlobals "FIGURES" = some (some (.str "0123456789" ckFigures)))
  (w2 : PySem.W.nsIn K mainGlobals "MOST_FIGURES" = some (some (.int 20 ckMostFigures)))
  (w3 : PySem.W.nsIn K mainGlobals "MOST_WIDTH" = some (some (.int 40 ckMostWidth)))
  (xTwice : PySem.W.nsIn K mainGlobals "Twice" = some (some (.ref aTwice)))
  (xBeyond : PySem.W.nsIn K mainGlobals "Beyond" = some (some (.ref aBeyond)))
  (xTooNarrow : PySem.W.nsIn K mainGlobals "TooNarrow" = some (some (.ref aTooNarrow)))
  (xNoStretch : PySem.W.nsIn K mainGlobals "NoStretch" = some (some (.ref aNoStretch)))
  (xBadText : PySem.W.nsIn K mainGlobals "BadText" = some (some (.ref aBadText)))
  (xCaseError : PySem.W.nsIn K mainGlobals "CaseError" = some (some (.ref aCaseError)))
  (y1 : K.lookup aBadText = some (excClassObj nmB qB aBadText NB bsB (.ref aCaseError :: vbm) true snB subB abB colB ddB b0 b1 b2 b3 b5 "ValueError.__new__"))
  (y2 : K.lookup aCaseError = some (excClassObj nmD qD aCaseError ND bsD vbm hdD snD subD abD colD ddD e0 e1 e2 e3 e5 nidD))
  (y3 : PySem.W.nsIn K NB "__init__" = some (some (.ref fI)))
  (y4 : K.lookup fI = some ⟨.type "function", odI, .func (PySem.W.fnOf "__init__" "BadText.__init__" (bx mQ) (aZ mQ) (aj mQ) .none kVI dcI pmI anI cdI ctI), slI⟩)
  (y5 : PySem.W.codeIn K cdI "BadText.__init__" = true)
  (y6 : PySem.W.keepIn K (.ref fI) = true)
  (y7 : PySem.W.findIn K (.ref aBadText) "__setattr__" = some (some (.builtin "object.__setattr__")))
  (y8 : PySem.W.findIn K (.ref aBadText) "__getattribute__" = some (some (.builtin "BaseException.__getattribute__")))
  (y9 : PySem.W.findIn K (.ref aBadText) "__getattr__" = some none)
  (y10 : PySem.W.findIn K (.ref aBadText) "row" = some none)
  (y11 : PySem.W.readsIn K aCaseError (.type "type") = true)
  (y12 : PySem.W.specialIn K (.ref aCaseError) "__getattribute__" = some (some (.builtin "type.__getattribute__")))
  (y13 : PySem.W.findCls K (.ref aCaseError) (.type "type") "__init__" = some (.val (.builtin "ValueError.__init__")))
  (y14 : PySem.W.nsOkIn K NB = true)
  (y15 : PySem.W.tailIn K vbm (.ref aCaseError :: vbm) = true)
  (y16 : PySem.W.findIn K (.ref aBadText) "__class__" = some (some (.builtin "object.__class__")))
  (y17 : PySem.W.specialIn K (.builtin "object.__class__") "__get__" = some (some (.builtin "getset_descriptor.__get__")))
  (y18 : PySem.W.takesIn K (.builtin "object.__class__") = some true)
  (y19 : PySem.W.mroIn K aBadText (.type "object") = some true)
  (y20 : PySem.W.mroIn K aBadText (.type "BaseException") = some true)
  (y21 : (PySem.W.clsIn K aBadText).isSome = true)
  (z_1 : PySem.W.kitOne K (.ref aBadText) (.ref aTwice) = some false)
  (z_2 : PySem.W.kitOne K (.ref aBadText) (.ref aBeyond) = some false)
  (z_3 : PySem.W.kitOne K (.ref aBadText) (.ref aTooNarrow) = some false)
  (z_4 : PySem.W.kitOne K (.ref aBadText) (.ref aNoStretch) = some false)
  (z_5 : PySem.W.kitOne K (.ref aBadText) (.ref aBadText) = some true)
  (z_6 : PySem.W.kitOne K (.ref aBadText) (.type "ValueError") = some true) :
  ∃ fd : FuncData, (∀ (s : Shared) (v : Value), BindsTo s fd ⟨[v], []⟩ [("_law_script", v)]) /\ ∀ base : Heap, K.In base -> base.Ns mainGlobals mg -> dh l.prog w K mg base CX0 63 fa fd ["_law_script"] (Hv K) := by
 have e := hfa.symm.trans (PySem.W.mg_of X G a33)
 cases e
 have DIsNumber : fH K mg "is_number" dU ["thing"] _ _ := ⟨aR (st := dU) l1 c1 k1, (aR (st := dU) l1 c1 k1).binds (ps := ["thing"]) fun _ _ _ _ _ _ us hl => by obtain ⟨z0, rfl⟩ := ln1 hl; rfl, PySem.W.mg_of X G a1⟩
 have DIsKind : fH K mg "is_kind" gH ["width", "sign"] _ _ := ⟨aR (st := gH) l2 c2 k2, (aR (st := gH) l2 c2 k2).binds (ps := ["width", "sign"]) fun _ _ _ _ _ _ us hl => by obtain ⟨z0, z1, rfl⟩ := ln2 hl; rfl, PySem.W.mg_of X G a2⟩
 have DLeastOf : fH K mg "least_of" gC ["width", "sign"] _ _ := ⟨aR (st := gC) l3 c3 k3, (aR (st := gC) l3 c3 k3).binds (ps := ["width", "sign"]) fun _ _ _ _ _ _ us hl => by obtain ⟨z0, z1, rfl⟩ := ln2 hl; rfl, PySem.W.mg_of X G a3⟩
 have DMostOf : fH K mg "most_of" je ["width", "sign"] _ _ := ⟨aR (st := je) l4 c4 k4, (aR (st := je) l4 c4 k4).binds (ps := ["width", "sign"]) fun _ _ _ _ _ _ us hl => by obtain ⟨z0, z1, rfl⟩ := ln2 hl; rfl, PySem.W.mg_of X G a4⟩
 have DIsItem : fH K mg "is_item" cG ["width", "sign", "thing"] _ _ := ⟨aR (st := cG) l5 c5 k5, (aR (st := cG) l5 c5 k5).binds (ps := ["width", "sign", "thing"]) fun _ _ _ _ _ _ us hl => by obtain ⟨z0, z1, z2, rfl⟩ := ln3 hl; rfl, PySem.W.mg_of X G a5⟩
 have DNumberFrom : fH K mg "number_from" bV ["word"] _ _ := ⟨aR (st := bV) l6 c6 k6, (aR (st := bV) l6 c6 k6).binds (ps := ["word"]) fun _ _ _ _ _ _ us hl => by obtain ⟨z0, rfl⟩ := ln1 hl; rfl, PySem.W.mg_of X G a6⟩
 have DNumbersFrom : fH K mg "numbers_from" cJ ["words"] _ _ := ⟨aR (st := cJ) l7 c7 k7, (aR (st := cJ) l7 c7 k7).binds (ps := ["words"]) fun _ _ _ _ _ _ us hl => by obtain ⟨z0, rfl⟩ := ln1 hl; rfl, PySem.W.mg_of X G a7⟩
 have DItemFrom : fH K mg "item_from" dj ["word"] _ _ := ⟨aR (st := dj) l8 c8 k8, (aR (st := dj) l8 c8 k8).binds (ps := ["word"]) fun _ _ _ _ _ _ us hl => by obtain ⟨z0, rfl⟩ := ln1 hl; rfl, PySem.W.mg_of X G a8⟩
 have DKindFrom : fH K mg "kind_from" cP ["row"] _ _ := ⟨aR (st := cP) l9 c9 k9, (aR (st := cP) l9 c9 k9).binds (ps := ["row"]) fun _ _ _ _ _ _ us hl => by obtain ⟨z0, rfl⟩ := ln1 hl; rfl, PySem.W.mg_of X G a9⟩
 have DCaseFrom : fH K mg "case_from" dm ["width", "sign", "row"] _ _ := ⟨aR (st := dm) l10 c10 k10, (aR (st := dm) l10 c10 k10).binds (ps := ["width", "sign", "row"]) fun _ _ _ _ _ _ us hl => by obtain ⟨z0, z1, z2, rfl⟩ := ln3 hl; rfl, PySem.W.mg_of X G a10⟩
 have DChoiceFrom : fH K mg "choice_from" bG ["text"] _ _ := ⟨aR (st := bG) l11 c11 k11, (aR (st := bG) l11 c11 k11).binds (ps := ["text"]) fun _ _ _ _ _ _ us hl => by obtain ⟨z0, rfl⟩ := ln1 hl; rfl, PySem.W.mg_of X G a11⟩
 have DZCellAt : fH K mg "_law_cell_at" fM ["_law_script", "_law_k"] _ _ := ⟨aR (st := fM) l12 c12 k12, (aR (st := fM) l12 c12 k12).binds (ps := ["_law_script", "_law_k"]) fun _ _ _ _ _ _ us hl => by obtain ⟨z0, z1, rfl⟩ := ln2 hl; rfl, PySem.W.mg_of X G a12⟩
 have DZTape : fH K mg "_law_tape" iw ["_law_script", "_law_k"] _ _ := ⟨aR (st := iw) l13 c13 k13, (aR (st := iw) l13 c13 k13).binds (ps := ["_law_script", "_law_k"]) fun _ _ _ _ _ _ us hl => by obtain ⟨z0, z1, rfl⟩ := ln2 hl; rfl, PySem.W.mg_of X G a13⟩
 have DZTake : fH K mg "_law_take" iy ["_law_tape_here", "_law_many"] _ _ := ⟨aR (st := iy) l14 c14 k14, (aR (st := iy) l14 c14 k14).binds (ps := ["_law_tape_here", "_law_many"]) fun _ _ _ _ _ _ us hl => by obtain ⟨z0, z1, rfl⟩ := ln2 hl; rfl, PySem.W.mg_of X G a14⟩
 have DZKind : fH K mg "_law_kind" jn ["_law_tape_here"] _ _ := ⟨aR (st := jn) l15 c15 k15, (aR (st := jn) l15 c15 k15).binds (ps := ["_law_tape_here"]) fun _ _ _ _ _ _ us hl => by obtain ⟨z0, rfl⟩ := ln1 hl; rfl, PySem.W.mg_of X G a15⟩
 have DZLeast : fH K mg "_law_least" jd ["_law_width", "_law_sign"] _ _ := ⟨aR (st := jd) l16 c16 k16, (aR (st := jd) l16 c16 k16).binds (ps := ["_law_width", "_law_sign"]) fun _ _ _ _ _ _ us hl => by obtain ⟨z0, z1, rfl⟩ := ln2 hl; rfl, PySem.W.mg_of X G a16⟩
 have DZNumber : fH K mg "_law_number" cI ["_law_tape_here", "_law_width", "_law_sign", "_law_other"] _ _ := ⟨aR (st := cI) l17 c17 k17, (aR (st := cI) l17 c17 k17).binds (ps := ["_law_tape_here", "_law_width", "_law_sign", "_law_other"]) fun _ _ _ _ _ _ us hl => by obtain ⟨z0, z1, z2, z3, rfl⟩ := ln4 hl; rfl, PySem.W.mg_of X G a17⟩
 have DZMask : fH K mg "_law_mask" gw ["_law_tape_here", "_law_width"] _ _ := ⟨aR (st := gw) l18 c18 k18, (aR (st := gw) l18 c18 k18).binds (ps := ["_law_tape_here", "_law_width"]) fun _ _ _ _ _ _ us hl => by obtain ⟨z0, z1, rfl⟩ := ln2 hl; rfl, PySem.W.mg_of X G a18⟩
 have DZItem : fH K mg "_law_item" dR ["_law_tape_here", "_law_width", "_law_sign", "_law_other"] _ _ := ⟨aR (st := dR) l19 c19 k19, (aR (st := dR) l19 c19 k19).binds (ps := ["_law_tape_here", "_law_width", "_law_sign", "_law_other"]) fun _ _ _ _ _ _ us hl => by obtain ⟨z0, z1, z2, z3, rfl⟩ := ln4 hl; rfl, PySem.W.mg_of X G a19⟩
 have DZWildChoice : fH K mg "_law_wild_choice" aV ["_law_tape_here"] _ _ := ⟨aR (st := aV) l20 c20 k20, (aR (st := aV) l20 c20 k20).binds (ps := ["_law_tape_here"]) fun _ _ _ _ _ _ us hl => by obtain ⟨z0, rfl⟩ := ln1 hl; rfl, PySem.W.mg_of X G a20⟩
 have DZSame : fH K mg "_law_same" d9 ["_law_found", "_law_due"] _ _ := ⟨aR (st := d9) l21 c21 k21, (aR (st := d9) l21 c21 k21).binds (ps := ["_law_found", "_law_due"]) fun _ _ _ _ _ _ us hl => by obtain ⟨z0, z1, rfl⟩ := ln2 hl; rfl, PySem.W.mg_of X G a21⟩
 have DZIsNumber : fH K mg "_law_is_number" dF ["_law_thing"] _ _ := ⟨aR (st := dF) l22 c22 k22, (aR (st := dF) l22 c22 k22).binds (ps := ["_law_thing"]) fun _ _ _ _ _ _ us hl => by obtain ⟨z0, rfl⟩ := ln1 hl; rfl, PySem.W.mg_of X G a22⟩
 have DZWord : fH K mg "_law_word" fC ["_law_caught"] _ _ := ⟨aR (st := fC) l23 c23 k23, (aR (st := fC) l23 c23 k23).binds (ps := ["_law_caught"]) fun _ _ _ _ _ _ us hl => by obtain ⟨z0, rfl⟩ := ln1 hl; rfl, PySem.W.mg_of X G a23⟩
 have DZIsItem : fH K mg "_law_is_item" b8 ["_law_width", "_law_sign", "_law_thing"] _ _ := ⟨aR (st := b8) l24 c24 k24, (aR (st := b8) l24 c24 k24).binds (ps := ["_law_width", "_law_sign", "_law_thing"]) fun _ _ _ _ _ _ us hl => by obtain ⟨z0, z1, z2, rfl⟩ := ln3 hl; rfl, PySem.W.mg_of X G a24⟩
 have DZWordNumber : fH K mg "_law_word_number" bQ ["_law_word_here"] _ _ := ⟨aR (st := bQ) l25 c25 k25, (aR (st := bQ) l25 c25 k25).binds (ps := ["_law_word_here"]) fun _ _ _ _ _ _ us hl => by obtain ⟨z0, rfl⟩ := ln1 hl; rfl, PySem.W.mg_of X G a25⟩
 have DZWordItem : fH K mg "_law_word_item" bU ["_law_word_here"] _ _ := ⟨aR (st := bU) l26 c26 k26, (aR (st := bU) l26 c26 k26).binds (ps := ["_law_word_here"]) fun _ _ _ _ _ _ us hl => by obtain ⟨z0, rfl⟩ := ln1 hl; rfl, PySem.W.mg_of X G a26⟩
 have DZRead : fH K mg "_law_read" dJ ["_law_text"] _ _ := ⟨aR (st := dJ) l27 c27 k27, (aR (st := dJ) l27 c27 k27).binds (ps := ["_law_text"]) fun _ _ _ _ _ _ us hl => by obtain ⟨z0, rfl⟩ := ln1 hl; rfl, PySem.W.mg_of X G a27⟩
 have DZItemText : fH K mg "_law_item_text" dY ["_law_item_here"] _ _ := ⟨aR (st := dY) l28 c28 k28, (aR (st := dY) l28 c28 k28).binds (ps := ["_law_item_here"]) fun _ _ _ _ _ _ us hl => by obtain ⟨z0, rfl⟩ := ln1 hl; rfl, PySem.W.mg_of X G a28⟩
 have DZChoiceText : fH K mg "_law_choice_text" b7 ["_law_choice"] _ _ := ⟨aR (st := b7) l29 c29 k29, (aR (st := b7) l29 c29 k29).binds (ps := ["_law_choice"]) fun _ _ _ _ _ _ us hl => by obtain ⟨z0, rfl⟩ := ln1 hl; rfl, PySem.W.mg_of X G a29⟩
 have DZTold : fH K mg "_law_told" gM ["_law_text"] _ _ := ⟨aR (st := gM) l30 c30 k30, (aR (st := gM) l30 c30 k30).binds (ps := ["_law_text"]) fun _ _ _ _ _ _ us hl => by obtain ⟨z0, rfl⟩ := ln1 hl; rfl, PySem.W.mg_of X G a30⟩
 have DZRight : fH K mg "_law_right" fJ ["_law_text"] _ _ := ⟨aR (st := fJ) l31 c31 k31, (aR (st := fJ) l31 c31 k31).binds (ps := ["_law_text"]) fun _ _ _ _ _ _ us hl => by obtain ⟨z0, rfl⟩ := ln1 hl; rfl, PySem.W.mg_of X G a31⟩
 have DZWords : fH K mg "_law_words" cY ["_law_width", "_law_sign"] _ _ := ⟨aR (st := cY) l32 c32 k32, (aR (st := cY) l32 c32 k32).binds (ps := ["_law_width", "_law_sign"]) fun _ _ _ _ _ _ us hl => by obtain ⟨z0, z1, rfl⟩ := ln2 hl; rfl, PySem.W.mg_of X G a32⟩
 have DLaw : fH K mg "law" gA ["_law_script"] _ _ := ⟨aR (st := gA) l33 c33 k33, (aR (st := gA) l33 c33 k33).binds (ps := ["_law_script"]) fun _ _ _ _ _ _ us hl => by obtain ⟨z0, rfl⟩ := ln1 hl; rfl, PySem.W.mg_of X G a33⟩
 have cgFigures : mg "FIGURES" = some (.str "0123456789" ckFigures) := PySem.W.mg_of X G w1
 have cgMostFigures : mg "MOST_FIGURES" = some (.int 20 ckMostFigures) := PySem.W.mg_of X G w2
 have cgMostWidth : mg "MOST_WIDTH" = some (.int 40 ckMostWidth) := PySem.W.mg_of X G w3
 have hB : ∀ x : Str, x ∈ BLs -> mg x = none := by
  intro x hx
  replace hx : x ∈ (["ValueError", "abs", "all", "any", "bool", "enumerate", "int", "isinstance", "len", "list", "max", "min", "range", "str", "tuple", "zip"] : List Str) := hx
  simp only [List.mem_cons, List.not_mem_nil, or_false] at hx
  rcases hx with rfl | rfl | rfl | rfl | rfl | rfl | rfl | rfl | rfl | rfl | rfl | rfl | rfl | rfl | rfl | rfl
  ·exact PySem.W.mg_none_of X G z1
  ·exact PySem.W.mg_none_of X G z2
  ·exact PySem.W.mg_none_of X G z3
  ·exact PySem.W.mg_none_of X G z4
  ·exact PySem.W.mg_none_of X G z5
  ·exact PySem.W.mg_none_of X G z6
  ·exact PySem.W.mg_none_of X G z7
  ·exact PySem.W.mg_none_of X G z8
  ·exact PySem.W.mg_none_of X G z9
  ·exact PySem.W.mg_none_of X G z10
  ·exact PySem.W.mg_none_of X G z11
  ·exact PySem.W.mg_none_of X G z12
  ·exact PySem.W.mg_none_of X G z13
  ·exact PySem.W.mg_none_of X G z14
  ·exact PySem.W.mg_none_of X G z15
  ·exact PySem.W.mg_none_of X G z16
 refine ⟨PySem.W.fnOf "law" "law" (bx gA) (aZ gA) (aj gA) .none kV33 dc33 pm33 an33 cd33 ct33, fun s v => .of_eq rfl, fun base kb nb => ?_⟩
 have CCell := DZCellAt.cal (Vg (P := l.prog) (w := w) (base := base) hB DZCellAt.fn)
 have CTape := DZTape.cal (Va hB CCell DZTape.fn)
 have CTake0 := DZTake.cal (Jy (P := l.prog) (w := w) (mg := mg) (base := base))
 have CTake1 := DZTake.cal (Ii (n := 0) hB (by decide) CTake0 DZTake.fn)
 have CTake2 := DZTake.cal (Ii (n := 1) hB (by decide) CTake1 DZTake.fn)
 have CSames : ∀ n, Cal l.prog w K mg base "_law_same" n ["_law_found", "_law_due"] (pN n) := fun n => by
  induction n with
  | zero => exact DZSame.cal (same_none (P := l.prog) (w := w) (mg := mg) (base := base))
  | succ n ih => exact DZSame.cal (Vb hB ih DZSame.fn)
 have CZK := DZKind.cal (Ve hB CTake2 DZKind.fn)
 have CZL := DZLeast.cal (O9 (P := l.prog) (w := w) (mg := mg) (base := base) DZLeast.fn)
 have CZN := DZNumber.cal (Yx hB CTake2 CZL DZNumber.fn)
 have CZM := DZMask.cal (Ij hB CTake2 DZMask.fn)
 have CZI := DZItem.cal (Vf hB CTake2 CZN CZM DZItem.fn)
 have CWild := DZWildChoice.cal (U8 hB CTake2 CZK CZL CZI DZWildChoice.fn)
 have CNum := DIsNumber.cal (Pg (P := l.prog) (w := w) (base := base) hB DIsNumber.fn)
 have CKd := DIsKind.cal (J6 hB cgMostWidth CNum DIsKind.fn)
 have CLs := DLeastOf.cal (J5 (P := l.prog) (w := w) (mg := mg) (base := base) DLeastOf.fn)
 have CMs := DMostOf.cal (O8 (P := l.prog) (w := w) (mg := mg) (base := base) DMostOf.fn)
 have CIt := DIsItem.cal (J7 hB CNum CLs CMs DIsItem.fn)
 have CNF := DNumberFrom.cal (Vd (P := l.prog) (w := w) (base := base) hB cgFigures cgMostFigures DNumberFrom.fn)
 have CNsF := DNumbersFrom.cal (O7 hB CNF DNumbersFrom.fn)
 have CIF := DItemFrom.cal (Pb hB CNF DItemFrom.fn)
 have CKF := DKindFrom.cal (Pa hB CKd CNsF DKindFrom.fn)
 have CCF := DCaseFrom.cal (Ph hB CIt CIF DCaseFrom.fn)
 have CLI := DZItemText.cal (J3 (P := l.prog) (w := w) (base := base) hB DZItemText.fn)
 have CLC := DZChoiceText.cal (Dc hB CLI DZChoiceText.fn)
 have CWN := DZWordNumber.cal (Fz (P := l.prog) (w := w) (base := base) hB DZWordNumber.fn)
 have CLN := DZIsNumber.cal (J4 (P := l.prog) (w := w) (base := base) hB DZIsNumber.fn)
 have CLIt := DZIsItem.cal (FJ hB CLN CZL DZIsItem.fn)
 have CWI := DZWordItem.cal (CZ hB CWN DZWordItem.fn)
 have CRead := DZRead.cal (Vc hB CWN CWI CLIt DZRead.fn)
 have XC : qg K aBadText aCaseError NB fI := ⟨⟨_, _, _, _, _, _, _, _, _, _, _, _, _, y1⟩, y15, y14, y3, y7, y8, y9⟩
 have XD : XBase K aCaseError := ⟨y11, y12, y13⟩
 have XT : Wq K aCaseError ND := ⟨⟨_, _, _, _, _, _, _, _, _, _, _, _, _, _, _, y2⟩⟩
 have Z : XIs K aBadText := ⟨y8, y9, y16, y17, y18, y19, y20, y21⟩
 have cD := PySem.W.mg_of X G xCaseError
 have FI := aR (st := mQ) y4 y5 y6
 have CInit := Pj (P := l.prog) (w := w) (base := base) XC XD cD y10 FI
 have XB : Zf l.prog w K mg base "BadText" aBadText aCaseError 1 ["self", "row"] (vy aBadText "row") := ⟨NB, fI, _, XC, CInit, FI.binds (ps := ["self", "row"]) fun _ _ _ _ _ _ us hl => match us, hl with | [_, _], _ => rfl, ⟨_, y4, rfl⟩, PySem.W.mg_of X G xBadText⟩
 have CChF := DChoiceFrom.aaJ (FN hB XB CKF CCF DChoiceFrom.fn)
 have CWord := DZWord.cal (U7 (P := l.prog) (w := w) (base := base) hB XC Z (PySem.W.mg_of X G xTwice) (PySem.W.mg_of X G xBeyond) (PySem.W.mg_of X G xTooNarrow) (PySem.W.mg_of X G xNoStretch) (PySem.W.mg_of X G xBadText) z_1 z_2 z_3 z_4 z_5 z_6 y10 DZWord.fn)
 have CTold := DZTold.cal (U9 hB XC XT cD CChF CWord DZTold.fn)
 have CRight := DZRight.cal (O6 hB CTold CRead (CSames 5) DZRight.fn)
 have CWords := DZWords.cal (O5 hB CZL DZWords.fn)
 exact Yy hB CTake2 CTape CWild CLC CRight CWords DLaw.fn
theorem walk {l : PySem.W.OpenLaw} {q : Program} {loose : List Str} {XP : (Str -> Option Value) -> Heap -> Prop} {YP : World -> Heap -> Prop} {d : DefRec} {K : Params -> PySem.W.Frag} (hn : l.most = some 63) (hdf : d.params.defaults = [])
  (hY : ∀ (w : World) (h : Heap), YP w h -> (K w.params).In h)
  (F : ∀ (w : World) (mg : Str -> Option Value) (fa : Addr) (h : Heap), (K w.params).In h -> h.Ns mainGlobals mg -> mg d.name = some (.ref fa) ->
   ∃ fd : FuncData, (∀ (s : Shared) (u : Value), BindsTo s fd ⟨[u], []⟩ [("_law_script", u)]) /\ ∀ base : Heap, (K w.params).In base -> base.Ns mainGlobals mg -> dh l.prog w (K w.params) mg base CX0 63 fa fd ["_law_script"] (Hv (K w.params))) :
  PySem.W.WalkO q loose XP YP l.row.toRowW d [] (fun f vs => PySem.call f vs) :=
 L2.RZ (n := 63) (k := 63) (x := "_law_script") (CX := fun _ => CX0) (sp := fun w => Hv (K w.params)) hn (by decide) hdf ⟨rfl, by decide, by decide, rfl⟩ hY F (fun _ _ a ns hl _ hS => ⟨a, ns, rfl, hS, hl, fun _ => rfl⟩) fun _ _ _ _ _ z => z
end K46
namespace PySem.W.Fast
theorem tw10095945285055719821:True:=⟨⟩
theorem tw10147714980091763237:True:=⟨⟩
theorem tw1016079437060427933:True:=⟨⟩
theorem tw10182177955364545172:True:=⟨⟩
theorem tw10284948116185496862:True:=⟨⟩
theorem tw10294453065096908220:True:=⟨⟩
theorem tw10313209575794408750:True:=⟨⟩
theorem tw10340635929943653706:True:=⟨⟩
theorem tw10395493297341161213:True:=⟨⟩
theorem tw10528494221139327274:True:=⟨⟩
theorem tw10620357313601407004:True:=⟨⟩
theorem tw10673834139837031691:True:=⟨⟩
theorem tw10715836291580963808:True:=⟨⟩
theorem tw10779894055271632199:True:=⟨⟩
theorem tw10819093330742414540:True:=⟨⟩
theorem tw10833455253714774475:True:=⟨⟩
theorem tw10955503231710420674:True:=⟨⟩
theorem tw11058002036155725030:True:=⟨⟩
theorem tw11218002794416740202:True:=⟨⟩
theorem tw11257708957840077831:True:=⟨⟩
theorem tw11269154320290605011:True:=⟨⟩
theorem tw1127735552016391049:True:=⟨⟩
theorem tw11307853559326182207:True:=⟨⟩
theorem tw11353774873158100228:True:=⟨⟩
theorem tw11432422511294414178:True:=⟨⟩
theorem tw11449248593897540630:True:=⟨⟩
theorem tw11497749166131233526:True:=⟨⟩
theorem tw11518887133093473174:True:=⟨⟩
theorem tw1159013998262170709:True:=⟨⟩
theorem tw11733995321578456924:True:=⟨⟩
theorem tw11997331148067698245:True:=⟨⟩
theorem tw12099820905459277141:True:=⟨⟩
theorem tw12268455198975967030:True:=⟨⟩
theorem tw12293783480156878320:True:=⟨⟩
theorem tw12308348325937519617:True:=⟨⟩
theorem tw1239844730042382890:True:=⟨⟩
theorem tw12439789989675766640:True:=⟨⟩
theorem tw12519074238915920477:True:=⟨⟩
theorem tw12532042611006410941:True:=⟨⟩
theorem tw12580443339558262168:True:=⟨⟩
theorem tw12654802198117879796:True:=⟨⟩
theorem tw12721424139139688642:True:=⟨⟩
theorem tw12778083147718293081:True:=⟨⟩
theorem tw12783261731086527853:True:=⟨⟩
theorem tw12886106795253825858:True:=⟨⟩
theorem tw12899623993091215115:True:=⟨⟩
theorem tw13005777546529369595:True:=⟨⟩
theorem tw13028282632726851067:True:=⟨⟩
theorem tw13081998378592189599:True:=⟨⟩
theorem tw13117259835807677860:True:=⟨⟩
theorem tw13121144829724615692:True:=⟨⟩
theorem tw1315080243667311790:True:=⟨⟩
theorem tw13240031644525925653:True:=⟨⟩
theorem tw13313804654223677944:True:=⟨⟩
theorem tw13323655413940958687:True:=⟨⟩
theorem tw13350585376380896632:True:=⟨⟩
theorem tw13359635704575953058:True:=⟨⟩
theorem tw13368882584720459521:True:=⟨⟩
theorem tw1344049554873133878:True:=⟨⟩
theorem tw13454931072330055445:True:=⟨⟩
theorem tw13494035516312275604:True:=⟨⟩
theorem tw13510354507774528781:True:=⟨⟩
theorem tw13547968319614997050:True:=⟨⟩
theorem tw13606709892370182454:True:=⟨⟩
theorem tw1361526792680538415:True:=⟨⟩
theorem tw13623860018465766845:True:=⟨⟩
theorem tw13625509272735483066:True:=⟨⟩
theorem tw13678438609958523022:True:=⟨⟩
theorem tw13691806357040432225:True:=⟨⟩
theorem tw13714094079153181140:True:=⟨⟩
theorem tw13751190295389587641:True:=⟨⟩
theorem tw13763659647941790985:True:=⟨⟩
theorem tw13813676882736201841:True:=⟨⟩
theorem tw13876205003928896143:True:=⟨⟩
theorem tw13929045399678916640:True:=⟨⟩
theorem tw13929319607969124241:True:=⟨⟩
theorem tw13988230808115520828:True:=⟨⟩
theorem tw14040016004851755379:True:=⟨⟩
theorem tw14225085044112499905:True:=⟨⟩
theorem tw14311316764996021763:True:=⟨⟩
theorem tw14324422205868566469:True:=⟨⟩
theorem tw14383546893380775431:True:=⟨⟩
theorem tw14416892123001644327:True:=⟨⟩
theorem tw14493978858055691223:True:=⟨⟩
theorem tw14585519543863383338:True:=⟨⟩
theorem tw14607567055113938736:True:=⟨⟩
theorem tw14637705149776607712:True:=⟨⟩
theorem tw14691421448406974341:True:=⟨⟩
theorem tw14704915365867518345:True:=⟨⟩
theorem tw14714452197474515885:True:=⟨⟩
theorem tw1483283592363239825:True:=⟨⟩
theorem tw14899584974595801663:True:=⟨⟩
theorem tw1490874656790523996:True:=⟨⟩
theorem tw14917937041704477807:True:=⟨⟩
theorem tw14967273004226787935:True:=⟨⟩
theorem tw14984135152499425614:True:=⟨⟩
theorem tw15078864085412533508:True:=⟨⟩
theorem tw15091356143699469324:True:=⟨⟩
theorem tw15175446991202988268:True:=⟨⟩
theorem tw15217031225954905024:True:=⟨⟩
theorem tw15364877946475755940:True:=⟨⟩
theorem tw15423969779505570844:True:=⟨⟩
theorem tw15518853310974459470:True:=⟨⟩
theorem tw15518972685603522468:True:=⟨⟩
theorem tw15572007134480725485:True:=⟨⟩
theorem tw15595963756377274070:True:=⟨⟩
theorem tw15624401040004185378:True:=⟨⟩
theorem tw1569836300874199270:True:=⟨⟩
theorem tw15755935943399813697:True:=⟨⟩
theorem tw15787545098461882274:True:=⟨⟩
theorem tw15792962997907055495:True:=⟨⟩
theorem tw15799898041806845683:True:=⟨⟩
theorem tw15994300001487886969:True:=⟨⟩
theorem tw16101135561135253023:True:=⟨⟩
theorem tw16231473672949005625:True:=⟨⟩
theorem tw16299772286172198962:True:=⟨⟩
theorem tw16578105961955575054:True:=⟨⟩
theorem tw16645132874036610634:True:=⟨⟩
theorem tw16661476083038086664:True:=⟨⟩
theorem tw16662908425788944444:True:=⟨⟩
theorem tw16763377489298898004:True:=⟨⟩
theorem tw1679010712680506619:True:=⟨⟩
theorem tw16811428990867668312:True:=⟨⟩
theorem tw16863124219209619303:True:=⟨⟩
theorem tw16863900222316696825:True:=⟨⟩
theorem tw16885575021598684255:True:=⟨⟩
theorem tw16918024474900424013:True:=⟨⟩
theorem tw16980146156831068564:True:=⟨⟩
theorem tw17095330754016329675:True:=⟨⟩
theorem tw17118523319124580237:True:=⟨⟩
theorem tw17155568010945976245:True:=⟨⟩
theorem tw17192855875456674522:True:=⟨⟩
theorem tw17194247968956330395:True:=⟨⟩
theorem tw17415402517012997528:True:=⟨⟩
theorem tw17446264166622744991:True:=⟨⟩
theorem tw17452604786187811023:True:=⟨⟩
theorem tw17492420799913762489:True:=⟨⟩
theorem tw17544631746210389274:True:=⟨⟩
theorem tw17671003509912615360:True:=⟨⟩
theorem tw17811172136820207717:True:=⟨⟩
theorem tw17924139551100726976:True:=⟨⟩
theorem tw17932167563342814377:True:=⟨⟩
theorem tw17944598003145279828:True:=⟨⟩
theorem tw17945074219744411657:True:=⟨⟩
theorem tw18014410267690593760:True:=⟨⟩
theorem tw1807960600167554083:True:=⟨⟩
theorem tw18083860236624158725:True:=⟨⟩
theorem tw18111165744102349245:True:=⟨⟩
theorem tw18162444303387106347:True:=⟨⟩
theorem tw18273734481761236749:True:=⟨⟩
theorem tw18299871361117821122:True:=⟨⟩
theorem tw18358051465461723761:True:=⟨⟩
theorem tw1930413187180125030:True:=⟨⟩
theorem tw197493315814040774:True:=⟨⟩
theorem tw2068535408061457752:True:=⟨⟩
theorem tw2081749738266430834:True:=⟨⟩
theorem tw2109709139565852697:True:=⟨⟩
theorem tw2124021246870696668:True:=⟨⟩
theorem tw2130380299038595223:True:=⟨⟩
theorem tw2141477775273304974:True:=⟨⟩
theorem tw2170753131849862493:True:=⟨⟩
theorem tw2189632177750755782:True:=⟨⟩
theorem tw22446848832369461:True:=⟨⟩
theorem tw2294788651828632691:True:=⟨⟩
theorem tw2333206854963633986:True:=⟨⟩
theorem tw2416790915328853503:True:=⟨⟩
theorem tw2459742826684184406:True:=⟨⟩
theorem tw2530470152574665406:True:=⟨⟩
theorem tw2634968838517431770:True:=⟨⟩
theorem tw2655079276654394125:True:=⟨⟩
theorem tw2789156720495327871:True:=⟨⟩
theorem tw2998451771737125062:True:=⟨⟩
theorem tw3006770762830615623:True:=⟨⟩
theorem tw3058902327200238362:True:=⟨⟩
theorem tw3139066489812639611:True:=⟨⟩
theorem tw3151018520843062337:True:=⟨⟩
theorem tw3161358554661461981:True:=⟨⟩
theorem tw3177314584147819170:True:=⟨⟩
theorem tw3244730524023666324:True:=⟨⟩
theorem tw3276566312280531175:True:=⟨⟩
theorem tw3290211925647869618:True:=⟨⟩
theorem tw3298698916906813925:True:=⟨⟩
theorem tw3413773473314551935:True:=⟨⟩
theorem tw3417928820554279896:True:=⟨⟩
theorem tw3421683708651307252:True:=⟨⟩
theorem tw3493823181699838778:True:=⟨⟩
theorem tw3574120505008196611:True:=⟨⟩
theorem tw357922947078258176:True:=⟨⟩
theorem tw363675910713912661:True:=⟨⟩
theorem tw3637050068117815307:True:=⟨⟩
theorem tw3807451495948613546:True:=⟨⟩
theorem tw3842560415726089676:True:=⟨⟩
theorem tw3876049886989313862:True:=⟨⟩
theorem tw3905701902052333302:True:=⟨⟩
theorem tw4157630632933898903:True:=⟨⟩
theorem tw4183381660659367629:True:=⟨⟩
theorem tw4208327168227845073:True:=⟨⟩
theorem tw4212250928224822782:True:=⟨⟩
theorem tw4218218474807950787:True:=⟨⟩
theorem tw4260575170996942929:True:=⟨⟩
theorem tw4421367905807126752:True:=⟨⟩
theorem tw4515001704172867942:True:=⟨⟩
theorem tw4546500078354116637:True:=⟨⟩
theorem tw4569288868816427930:True:=⟨⟩
theorem tw4631052453104107677:True:=⟨⟩
theorem tw4669439628140737652:True:=⟨⟩
theorem tw4732596891151996616:True:=⟨⟩
theorem tw4736987442375189369:True:=⟨⟩
theorem tw4767891843720073195:True:=⟨⟩
theorem tw4802576807343667238:True:=⟨⟩
theorem tw4808333486190667033:True:=⟨⟩
theorem tw4835979882149684713:True:=⟨⟩
theorem tw4843257752075075913:True:=⟨⟩
theorem tw4899090529073259616:True:=⟨⟩
theorem tw4954066244817014638:True:=⟨⟩
theorem tw4999555045850802202:True:=⟨⟩
theorem tw5053268636268503749:True:=⟨⟩
theorem tw5128002470247615487:True:=⟨⟩
theorem tw515572925020011922:True:=⟨⟩
theorem tw5236490524271723168:True:=⟨⟩
theorem tw5393557404991222272:True:=⟨⟩
theorem tw5477081093963820945:True:=⟨⟩
theorem tw5543881537499773323:True:=⟨⟩
theorem tw5569718533904657527:True:=⟨⟩
theorem tw5660385525446742047:True:=⟨⟩
theorem tw5708167812234810209:True:=⟨⟩
theorem tw5719243391438377325:True:=⟨⟩
theorem tw5748084763868574469:True:=⟨⟩
theorem tw5752784625414872257:True:=⟨⟩
theorem tw5951328861778837604:True:=⟨⟩
theorem tw5999075486076189375:True:=⟨⟩
theorem tw6022856600339942702:True:=⟨⟩
theorem tw6139951073820296721:True:=⟨⟩
theorem tw6224669094148088307:True:=⟨⟩
theorem tw6339358248381990073:True:=⟨⟩
theorem tw6395737699275307189:True:=⟨⟩
theorem tw6397495687113757193:True:=⟨⟩
theorem tw6514041893361001200:True:=⟨⟩
theorem tw6709499858579191325:True:=⟨⟩
theorem tw6728389232179316980:True:=⟨⟩
theorem tw6735312093716812730:True:=⟨⟩
theorem tw6777513631936291014:True:=⟨⟩
theorem tw6788475963130601588:True:=⟨⟩
theorem tw6847497103119363389:True:=⟨⟩
theorem tw6880423946109058505:True:=⟨⟩
theorem tw6917714251445267196:True:=⟨⟩
theorem tw703796834555476437:True:=⟨⟩
theorem tw7120107982369167763:True:=⟨⟩
theorem tw7152637401392070490:True:=⟨⟩
theorem tw7173245507873535788:True:=⟨⟩
theorem tw7193294663689865888:True:=⟨⟩
theorem tw7228311281431908540:True:=⟨⟩
theorem tw7277265392389831370:True:=⟨⟩
theorem tw7480924481019352983:True:=⟨⟩
theorem tw7670302674884377927:True:=⟨⟩
theorem tw767641902225607497:True:=⟨⟩
theorem tw768148402783691587:True:=⟨⟩
theorem tw7745911494630845973:True:=⟨⟩
theorem tw775056495380664400:True:=⟨⟩
theorem tw7773085637428635478:True:=⟨⟩
theorem tw7821971522674348653:True:=⟨⟩
theorem tw7849034421273525379:True:=⟨⟩
theorem tw7887957465378789561:True:=⟨⟩
theorem tw7904008385393322202:True:=⟨⟩
theorem tw8008518601243053069:True:=⟨⟩
theorem tw8218221950778268903:True:=⟨⟩
theorem tw8224478058510793577:True:=⟨⟩
theorem tw8285325064989033046:True:=⟨⟩
theorem tw830210266281825598:True:=⟨⟩
theorem tw8311666145817698230:True:=⟨⟩
theorem tw8351940332161926127:True:=⟨⟩
theorem tw8357378845737544020:True:=⟨⟩
theorem tw8370911173775475659:True:=⟨⟩
theorem tw843670566505818730:True:=⟨⟩
theorem tw845052871917053018:True:=⟨⟩
theorem tw8454552009431544028:True:=⟨⟩
theorem tw8460580651847098841:True:=⟨⟩
theorem tw847119539105250700:True:=⟨⟩
theorem tw8471659392704786605:True:=⟨⟩
theorem tw8581757768579469897:True:=⟨⟩
theorem tw85886588224566563:True:=⟨⟩
theorem tw8595508761772833271:True:=⟨⟩
theorem tw8606807754612762199:True:=⟨⟩
theorem tw8624822296594783898:True:=⟨⟩
theorem tw8651260932460481690:True:=⟨⟩
theorem tw8780152835828705447:True:=⟨⟩
theorem tw8798862834877132634:True:=⟨⟩
theorem tw8872155342640079075:True:=⟨⟩
theorem tw8922981821027814128:True:=⟨⟩
theorem tw8937398790358392748:True:=⟨⟩
theorem tw8943892125822116320:True:=⟨⟩
theorem tw896340769764175543:True:=⟨⟩
theorem tw8973222304619023089:True:=⟨⟩
theorem tw899379416726712547:True:=⟨⟩
theorem tw9167960662492917068:True:=⟨⟩
theorem tw9211585322701557784:True:=⟨⟩
theorem tw929120521940527289:True:=⟨⟩
theorem tw9412097692698403791:True:=⟨⟩
theorem tw9485882056600183541:True:=⟨⟩
theorem tw9545902871385211906:True:=⟨⟩
theorem tw9591675704575214493:True:=⟨⟩
theorem tw9713778011117962228:True:=⟨⟩
theorem tw9741261032079737699:True:=⟨⟩
theorem tw9767670740769742944:True:=⟨⟩
theorem tw9785086926384825610:True:=⟨⟩
theorem tw9847268246863411156:True:=⟨⟩
theorem tw9899973194673448638:True:=⟨⟩
end PySem.W.Fast
open PySem PySem.W PyProof.Rows
set_option maxRecDepth 100000 in
set_option maxHeartbeats 0 in
theorem PySem.Challenge.cw_caseways_k46_texts_that_are_no_choices_holds : PySem.Challenge.rw_caseways_k46_texts_that_are_no_choices.Holds := by
 w_on; o_law; k_head; (case hw => w_witness2)
 k_fill
 refine K46.walk (l := PySem.Challenge.rw_caseways_k46_texts_that_are_no_choices) rfl rfl (fun w h Y => PySem.W.kIn_of Y) ?F
 case F =>
  intro w mg fa h KX G hmg
  refine' K46.all_mk KX G hmg ?a1 ?l1 ?c1 ?k1 ?a2 ?l2 ?c2 ?k2 ?a3 ?l3 ?c3 ?k3 ?a4 ?l4 ?c4 ?k4 ?a5 ?l5 ?c5 ?k5 ?a6 ?l6 ?c6 ?k6 ?a7 ?l7 ?c7 ?k7 ?a8 ?l8 ?c8 ?k8 ?a9 ?l9 ?c9 ?k9 ?a10 ?l10 ?c10 ?k10 ?a11 ?l11 ?c11 ?k11 ?a12 ?l12 ?c12 ?k12 ?a13 ?l13 ?c13 ?k13 ?a14 ?l14 ?c14 ?k14 ?a15 ?l15 ?c15 ?k15 ?a16 ?l16 ?c16 ?k16 ?a17 ?l17 ?c17 ?k17 ?a18 ?l18 ?c18 ?k18 ?a19 ?l19 ?c19 ?k19 ?a20 ?l20 ?c20 ?k20 ?a21 ?l21 ?c21 ?k21 ?a22 ?l22 ?c22 ?k22 ?a23 ?l23 ?c23 ?k23 ?a24 ?l24 ?c24 ?k24 ?a25 ?l25 ?c25 ?k25 ?a26 ?l26 ?c26 ?k26 ?a27 ?l27 ?c27 ?k27 ?a28 ?l28 ?c28 ?k28 ?a29 ?l29 ?c29 ?k29 ?a30 ?l30 ?c30 ?k30 ?a31 ?l31 ?c31 ?k31 ?a32 ?l32 ?c32 ?k32 ?a33 ?l33 ?c33 ?k33 ?z1 ?z2 ?z3 ?z4 ?z5 ?z6 ?z7 ?z8 ?z9 ?z10 ?z11 ?z12 ?z13 ?z14 ?z15 ?z16 ?w1 ?w2 ?w3 ?xTwice ?xBeyond ?xTooNarrow ?xNoStretch ?xBadText ?xCaseError ?y1 ?y2 ?y3 ?y4 ?y5 ?y6 ?y7 ?y8 ?y9 ?y10 ?y11 ?y12 ?y13 ?y14 ?y15 ?y16 ?y17 ?y18 ?y19 ?y20 ?y21 ?z_1 ?z_2 ?z_3 ?z_4 ?z_5 ?z_6
  case a1|l1|c1|k1|a2|l2|c2|k2|a3|l3|c3|k3|a4|l4|c4|k4|a5|l5|c5|k5|a6|l6|c6|k6|a7|l7|c7|k7|a8|l8|c8|k8|a9|l9|c9|k9|a10|l10|c10|k10|a11|l11|c11|k11|a12|l12|c12|k12|a13|l13|c13|k13|a14|l14|c14|k14|a15|l15|c15|k15|a16|l16|c16|k16|a17|l17|c17|k17|a18|l18|c18|k18|a19|l19|c19|k19|a20|l20|c20|k20|a21|l21|c21|k21|a22|l22|c22|k22|a23|l23|c23|k23|a24|l24|c24|k24|a25|l25|c25|k25|a26|l26|c26|k26|a27|l27|c27|k27|a28|l28|c28|k28|a29|l29|c29|k29|a30|l30|c30|k30|a31|l31|c31|k31|a32|l32|c32|k32|a33|l33|c33|k33|z1|z2|z3|z4|z5|z6|z7|z8|z9|z10|z11|z12|z13|z14|z15|z16|w1|w2|w3 => k_is
  case xTwice|xBeyond|xTooNarrow|xNoStretch|xBadText|xCaseError|y1|y2|y3|y4|y5|y6|y7|y8|y9|y10|y11|y12|y13|y14|y15|y16|y17|y18|y19|y20|y21|z_1|z_2|z_3|z_4|z_5|z_6 => first | k_is | rfl | (with_unfolding_all rfl) | decide +kernel
#print axioms PySem.Challenge.cw_caseways_k46_texts_that_are_no_choices_holds
