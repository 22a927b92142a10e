import PyProof.Rows.All
import Wide.All
import OpenK.AllK
import Wide.FinOn
import Lean
import PyProof.EqAt
import PyProof.EqKinds
import PyProof.TupleCall
import PyProof.NeData
import PySem.Challenge.RW_caseways_k48_rows_written
set_option Elab.async false
set_option linter.all false
set_option maxRecDepth 100000
namespace L2
open PySem PySem.Spec PyProof.Rows
abbrev Key := Sum Int Str
def Jj : Key → Value → Bool
 | .inl k, v => Value.isInt k v
 | .inr x, v => Value.isStrOf x v
def Ow (w : World) : Key → Int
 | .inl k => hashInt k
 | .inr x => hashStr w x
theorem b8 : ∀ {k : Key} {v : Value}, Jj k v = true → (∃ i t, k = Sum.inl i ∧ v = Value.int i t) ∨ (∃ x t, k = Sum.inr x ∧ v = Value.str x t)
 | .inl i, v, h => by
  obtain ⟨t, e⟩ := Value.isInt_shape (k := i) (v := v) h
  exact .inl ⟨i, t, rfl, e⟩
 | .inr x, v, h => by
  obtain ⟨t, e⟩ := Value.isStrOf_shape (x := x) (v := v) h
  exact .inr ⟨x, t, rfl, e⟩
theorem Lk (a b : Int) : decide ((Sum.inl a : Key) = Sum.inl b) = (a == b) := by
 by_cases e : a = b
 ·subst e; simp
 ·have h : ¬ (Sum.inl a : Key) = Sum.inl b := fun q => e (Sum.inl.inj q)
  rw [decide_eq_false h]
  exact (beq_eq_false_iff_ne.mpr e).symm
theorem Lh (a b : Str) : decide ((Sum.inr a : Key) = Sum.inr b) = decide (a = b) := by
 by_cases e : a = b
 ·subst e; simp
 ·have h : ¬ (Sum.inr a : Key) = Sum.inr b := fun q => e (Sum.inr.inj q)
  rw [decide_eq_false h, decide_eq_false e]
theorem Lj (a : Int) (b : Str) : decide ((Sum.inl a : Key) = Sum.inr b) = false := decide_eq_false (fun q => nomatch q)
theorem Li (a : Str) (b : Int) : decide ((Sum.inr a : Key) = Sum.inl b) = false := decide_eq_false (fun q => nomatch q)
def rN (prog : Program) (w : World) : PySem.KeyKind prog w Key where
 is := Jj
 hash := Ow w
 inj := fun v a b ha hb => by
  rcases b8 ha with ⟨i, t, rfl, rfl⟩ | ⟨x, t, rfl, rfl⟩
  ·rcases b8 hb with ⟨j, u, rfl, e⟩ | ⟨y, u, rfl, e⟩
   ·injection e with e1 _; rw [e1]
   ·exact nomatch e
  ·rcases b8 hb with ⟨j, u, rfl, e⟩ | ⟨y, u, rfl, e⟩
   ·exact nomatch e
   ·injection e with e1 _; rw [e1]
 byValue := fun k v h => by
  rcases b8 h with ⟨i, t, rfl, rfl⟩ | ⟨x, t, rfl, rfl⟩ <;> rfl
 pyHash := fun hv h => by
  rcases b8 hv with ⟨i, t, rfl, rfl⟩ | ⟨x, t, rfl, rfl⟩
  ·exact wpAny_pyHash_int h
  ·exact wpAny_pyHash_str h
 eqBool := fun hu hv h => by
  rcases b8 hu with ⟨i, t, rfl, rfl⟩ | ⟨x, t, rfl, rfl⟩
  ·rcases b8 hv with ⟨j, u, rfl, rfl⟩ | ⟨y, u, rfl, rfl⟩
   ·rw [Lk] at h; exact wpAny_eqBool_int h
   ·rw [Lj] at h; exact SeqAt.EqAt.int_str i t y u _ _ _ _ h
  ·rcases b8 hv with ⟨j, u, rfl, rfl⟩ | ⟨y, u, rfl, rfl⟩
   ·rw [Li] at h; exact SeqAt.EqAt.str_int x t j u _ _ _ _ h
   ·rw [Lh] at h; exact wpAny_eqBool_str h
 «strs» := fun k x t v h => by
  rcases b8 h with ⟨i, u, rfl, e⟩ | ⟨y, u, rfl, e⟩
  ·exact nomatch e
  ·injection e with e1 _
   subst e1
   cases v <;> rfl
inductive V where
 | non | bl (b : Bool) | int (i : Int) | str (x : Str) | byt (b : Array UInt8) | flt (b : UInt64) | ref (a : Addr) | ty (n : String)
 deriving DecidableEq
def RelV : V → Value → Prop
 | .non, u => u = Value.none
 | .bl b, u => u = Value.bool b
 | .int i, u => ∃ t, u = Value.int i t
 | .str x, u => ∃ t, u = Value.str x t
 | .byt b, u => ∃ t, u = Value.bytes b t
 | .flt b, u => ∃ t, u = Value.float b t
 | .ref a, u => u = Value.ref a
 | .ty n, u => u = Value.type n
abbrev Vals : List V → List Value → Prop := Paired RelV
theorem Vals.length {xs : List V} {us : List Value} (r : Vals xs us) : xs.length = us.length := Paired.length r
theorem Vals.get : ∀ {xs : List V} {us : List Value} {i : Nat} {x : V}, Vals xs us → xs[i]? = some x → ∃ u, us[i]? = some u ∧ RelV x u
 | _, _, _, _, .nil, e => by simp at e
 | _, _, 0, _, .cons r _, e => by simp at e; subst e; exact ⟨_, rfl, r⟩
 | _, _, i + 1, x, .cons _ t, e => by
  obtain ⟨u, h1, h2⟩ := Vals.get (i := i) (x := x) t (by simpa using e)
  exact ⟨u, by simpa using h1, h2⟩
theorem Vals.set {x : V} {u : Value} (r : RelV x u) : ∀ {xs : List V} {us : List Value} (i : Nat), Vals xs us → Vals (xs.set i x) (us.set i u)
 | _, _, _, .nil => .nil
 | _, _, 0, .cons _ t => .cons r t
 | _, _, i + 1, .cons q t => .cons q (Vals.set r i t)
theorem Vals.append : ∀ {xs ys : List V} {us ws : List Value}, Vals xs us → Vals ys ws → Vals (xs ++ ys) (us ++ ws)
 | _, _, _, _, .nil, s => s
 | _, _, _, _, .cons r t, s => .cons r (Vals.append t s)
theorem Vals.take : ∀ {xs : List V} {us : List Value} (n : Nat), Vals xs us → Vals (xs.take n) (us.take n)
 | _, _, 0, _ => .nil
 | _, _, _ + 1, .nil => .nil
 | _, _, n + 1, .cons r t => .cons r (Vals.take n t)
theorem Vals.drop : ∀ {xs : List V} {us : List Value} (n : Nat), Vals xs us → Vals (xs.drop n) (us.drop n)
 | _, _, 0, r => r
 | _, _, _ + 1, .nil => .nil
 | _, _, n + 1, .cons _ t => Vals.drop n t
theorem Vals.none_of : ∀ {xs : List V} {us : List Value} {i : Nat}, Vals xs us → xs[i]? = none → us[i]? = none := fun {xs us i} r e => by
 have h1 := r.length
 have h2 : xs.length ≤ i := List.getElem?_eq_none_iff.mp e
 exact List.getElem?_eq_none_iff.mpr (by omega)
def Mq : Option V → Option Value → Prop
 | some v, some u => RelV v u
 | none, none => True
 | _, _ => False
def KV {κ : Type} : List (κ × V) → List (κ × Value) → Prop := Paired fun (p : κ × V) (q : κ × Value) => p.1 = q.1 ∧ RelV p.2 q.2
def kV : Key → V
 | .inl i => .int i
 | .inr x => .str x
inductive HO where
 /-- a list -/
 | lst (xs : List V)
 /-- a tuple (never changes) -/
 | tup (xs : List V)
 /-- a dict whose keys are ints and texts; one whose keys are tuples of ints and texts (the empty one is both) -/
 | dK (kvs : List (Key × V)) | dT (kvs : List (List Key × V))
 /-- a set of ints: its members, its size -/
 | set (S : Int → Bool) (n : Nat)
 /-- an instance of the class at C, its dict at dx, its attributes -/
 | ins (C dx : Addr) (fs : List (Str × V))
 /-- the dict of the instance at x -/
 | own (x : Addr)
 /-- the dict of an exception -/
 | xd (fs : List (Str × V))
 /-- a bound method, f of x -/
 | met (f x : Addr)
 /-- a range object lo, lo + 1, .. below hi -/
 | rng (lo hi : Int)
 /-- a thing that is known to the object (the script; a dict while a loop walks it): read, never written while it is so -/
 | frz (o : Obj) (u : HO)
 /-- a code object's table -/
 | tbl (ps : Array Value)
 /-- any other thing, by what is true of its one object (a def of one's own: SetO a S n := HO.ext fun h => ..) -/
 | ext (φ : Heap → Prop)
abbrev Hp := Addr → Option HO
def upd (H : Hp) (a : Addr) (o : HO) : Hp := fun b => if b = a then some o else H b
theorem aB {H : Hp} {a : Addr} {o : HO} : upd H a o a = some o := by unfold upd; rw [if_pos rfl]
theorem aJ {H : Hp} {a b : Addr} {o : HO} (h : b ≠ a) : upd H a o b = H b := by unfold upd; rw [if_neg h]
theorem aF {H : Hp} {a b : Addr} {o : HO} (h : H a = some o) (h' : H b = none) : a ≠ b := by
 intro e; subst e; rw [h] at h'; cases h'
section
variable (P : Program) (w : World)
def bT (H : Hp) (h : Heap) (a : Addr) : HO → Prop
 | .lst xs => xs.length ≤ sizeLine ∧ ∃ (its : List Value) (n : Nat), Vals xs its ∧ h.get? a = some { cls := .type "list", data := .seq its.toArray n }
 | .tup xs => xs.length ≤ sizeLine ∧ ∃ its : List Value, Vals xs its ∧ IsTup h a its.toArray
 | .dK kvs => kvs.length ≤ sizeLine ∧ (a == sysModules) = false ∧ ∃ vs, KV kvs vs ∧ h.DictOf (rN P w) a vs
 | .dT kvs => kvs.length ≤ sizeLine ∧ (a == sysModules) = false ∧ ∃ xs : List (List Key × Addr × Value),
   Paired (fun (p : List Key × V) (q : List Key × Addr × Value) => p.1 = q.1 ∧ H q.2.1 = some (.tup (p.1.map kV)) ∧ RelV p.2 q.2.2) kvs xs ∧
   ∃ o es ep, h.get? a = some o ∧ o.ExactDict ∧ o.data = .dict es ep ∧ es.toList = xs.map (entryOfKey (tupleKind (rN P w))) ∧ (xs.map (·.1)).Nodup
 | .set S n => h.SetOf (intKind P w) a S n
 | .ins C dx fs => H dx = some (.own a) ∧ fs.length ≤ 1000 ∧ dx ≠ a ∧ h.get? a = some (PySem.W.instObj C dx) ∧
   ∃ mA, h.Ns1 dx mA ∧ (∀ f, Mq (fs.lookup f) (mA f)) ∧ PySem.Within mA (fs.map (·.1))
 | .own _ => ∃ o, h.get? a = some o
 | .xd fs => ∃ mA, h.Ns1 a mA ∧ ∀ f, Mq (fs.lookup f) (mA f)
 | .rng lo hi => ∃ t u v, h.get? a = some { cls := .type "range", data := .fields #[.int lo t, .int hi u, .int 1 v] }
 | .frz o u => h.get? a = some o ∧ bT H h a u
 | .tbl ps => h.get? a = some { cls := .none, data := .fields ps }
 | .met f x => h.get? a = some (PySem.W.methodObj (.ref f) (.ref x))
 | .ext φ => φ h ∧ (∃ o, h.get? a = some o) ∧ ∀ h1 h2 : Heap, φ h1 → (∀ o, h1.get? a = some o → h2.get? a = some o) → φ h2
def HOk (H : Hp) (h : Heap) : Prop := ∀ a o, H a = some o → bT P w H h a o
end
section
variable {P : Program} {w : World} {H H' : Hp} {h h' : Heap} {a : Addr} {o : HO}
theorem bT.lt (x : bT P w H h a o) : a < h.objs.size := by
 cases o with
 | lst xs => obtain ⟨_, _, _, _, e⟩ := x; exact Heap.lt_size e
 | tup xs => obtain ⟨_, _, _, p⟩ := x; exact p.lt
 | dK kvs => obtain ⟨_, _, _, _, o, _, _, e, _⟩ := x; exact Heap.lt_size e
 | dT kvs => obtain ⟨_, _, _, _, o, _, _, e, _⟩ := x; exact Heap.lt_size e
 | set S n => obtain ⟨o, _, _, _, e, _⟩ := x; exact Heap.lt_size e
 | ins C dx fs => obtain ⟨_, _, _, e, _⟩ := x; exact Heap.lt_size e
 | own y => obtain ⟨_, e⟩ := x; exact Heap.lt_size e
 | xd fs => obtain ⟨_, ⟨_, _, _, e, _⟩, _⟩ := x; exact Heap.lt_size e
 | rng lo hi => obtain ⟨_, _, _, e⟩ := x; exact Heap.lt_size e
 | frz ob u => obtain ⟨e, _⟩ := x; exact Heap.lt_size e
 | tbl ps => exact Heap.lt_size (show h.get? a = some _ from x)
 | met f y => exact Heap.lt_size (show h.get? a = some _ from x)
 | ext φ => obtain ⟨_, ⟨_, e⟩, _⟩ := x; exact Heap.lt_size e
theorem Paired.NP {α β : Type} {F G : α → β → Prop} : ∀ {l₁ : List α} {l₂ : List β}, Paired F l₁ l₂ → (∀ a b, F a b → G a b) → Paired G l₁ l₂
 | _, _, .nil, _ => .nil
 | _, _, .cons r t, f => .cons (f _ _ r) (Paired.NP t f)
theorem bT.stay (x : bT P w H h a o) (k : ∀ b u, (b = a ∨ H b = some (.own a)) → h.get? b = some u → h'.get? b = some u)
  (ho : ∀ b, H b = some (.own a) → H' b = some (.own a)) (ht : ∀ b xs, H b = some (.tup xs) → H' b = some (.tup xs)) : bT P w H' h' a o := by
 induction o with
 | lst xs => obtain ⟨z, its, n, r, e⟩ := x; exact ⟨z, its, n, r, k _ _ (.inl rfl) e⟩
 | tup xs => obtain ⟨z, its, r, ob, e, c⟩ := x; exact ⟨z, its, r, ob, k _ _ (.inl rfl) e, c⟩
 | dK kvs => obtain ⟨z, y, vs, r, ob, es, ep, e, c⟩ := x; exact ⟨z, y, vs, r, ob, es, ep, k _ _ (.inl rfl) e, c⟩
 | dT kvs =>
  obtain ⟨z, y, xs, r, ob, es, ep, e, c⟩ := x
  exact ⟨z, y, xs, Paired.NP r fun p q z => ⟨z.1, ht _ _ z.2.1, z.2.2⟩, ob, es, ep, k _ _ (.inl rfl) e, c⟩
 | set S n => obtain ⟨ob, es, ep, t, e, c⟩ := x; exact ⟨ob, es, ep, t, k _ _ (.inl rfl) e, c⟩
 | ins C dx fs =>
  obtain ⟨d, z, ne, e, mA, ⟨od, es, ep, e2, c⟩, r⟩ := x
  exact ⟨ho _ d, z, ne, k _ _ (.inl rfl) e, mA, ⟨od, es, ep, k _ _ (.inr d) e2, c⟩, r⟩
 | own y => obtain ⟨ob, e⟩ := x; exact ⟨ob, k _ _ (.inl rfl) e⟩
 | xd fs => obtain ⟨mA, ⟨od, es, ep, e, c⟩, r⟩ := x; exact ⟨mA, ⟨od, es, ep, k _ _ (.inl rfl) e, c⟩, r⟩
 | rng lo hi => obtain ⟨t, u, v, e⟩ := x; exact ⟨t, u, v, k _ _ (.inl rfl) e⟩
 | frz ob u ih => obtain ⟨e, q⟩ := x; exact ⟨k _ _ (.inl rfl) e, ih q⟩
 | tbl ps =>
  have e : h.get? a = some { cls := .none, data := .fields ps } := x
  show h'.get? a = some { cls := .none, data := .fields ps }
  exact k a _ (.inl rfl) e
 | met f y =>
  have e : h.get? a = some (PySem.W.methodObj (.ref f) (.ref y)) := x
  show h'.get? a = some (PySem.W.methodObj (.ref f) (.ref y))
  exact k a _ (.inl rfl) e
 | ext φ => obtain ⟨p, ⟨o, e⟩, st⟩ := x; exact ⟨st _ _ p fun o q => k _ _ (.inl rfl) q, ⟨o, k _ _ (.inl rfl) e⟩, st⟩
theorem HOk.lt (x : HOk P w H h) (e : H a = some o) : a < h.objs.size := (x a o e).lt
theorem HOk.fresh (x : HOk P w H h) (e : h.objs.size ≤ a) : H a = none := by
 cases q : H a with
 | none => rfl
 | some u => exact absurd (Nat.lt_of_lt_of_le (x.lt q) e) (Nat.lt_irrefl _)
theorem HOk.kept (x : HOk P w H h) (k : ∀ b u, h.get? b = some u → h'.get? b = some u) : HOk P w H h' := fun a o e =>
 (x a o e).stay (fun b u _ q => k b u q) (fun _ q => q) fun _ _ q => q
theorem HOk.laid (x : HOk P w H h) (k : ∀ b u, h.get? b = some u → h'.get? b = some u) (hp : h.objs.size ≤ a) (new : bT P w (upd H a o) h' a o) : HOk P w (upd H a o) h' := fun b u e => by
 have hn := x.fresh hp
 by_cases hb : b = a
 ·subst hb; rw [aB] at e; cases e; exact new
 ·rw [aJ hb] at e
  exact (x b u e).stay (fun c v _ q => k c v q) (fun c q => by rw [aJ (aF q hn)]; exact q) fun c xs q => by rw [aJ (aF q hn)]; exact q
end
def Rd (H : Hp) (a : Addr) (u : HO) : Prop := H a = some u ∨ ∃ o, H a = some (.frz o u)
theorem Rd.ok {P : Program} {w : World} {H : Hp} {h : Heap} {a : Addr} {u : HO} (r : Rd H a u) (x : HOk P w H h) : bT P w H h a u := by
 rcases r with r | ⟨o, r⟩
 ·exact x a u r
 ·obtain ⟨_, q⟩ := x a _ r
  exact q
def Mut : Option HO → Prop
 | some (.lst _) => True
 | some (.dK _) => True
 | some (.dT _) => True
 | some (.set _ _) => True
 | some (.ins _ _ _) => True
 | some (.ext _) => True
 | _ => False
section
variable {P : Program} {w : World} {H : Hp} {h h' : Heap} {x e : Addr} {o' : HO}
theorem HOk.write (ok : HOk P w H h) (mu : Mut (H x)) (he : e = x ∨ H e = some (.own x)) (k : ∀ b u, b ≠ e → h.get? b = some u → h'.get? b = some u) (heo : ∃ u, h'.get? e = some u)
  (new : bT P w (upd H x o') h' x o') : HOk P w (upd H x o') h' := fun b u q => by
 have nown : ∀ c y, H c = some (.own y) → c ≠ x := fun c y r z => by subst z; rw [r] at mu; exact mu
 have ntup : ∀ c xs, H c = some (.tup xs) → c ≠ x := fun c xs r z => by subst z; rw [r] at mu; exact mu
 by_cases hb : b = x
 ·subst hb; rw [aB] at q; cases q; exact new
 ·rw [aJ hb] at q
  by_cases hbe : b = e
  ·have q' : H b = some (.own x) := by
    rcases he with z | z
    ·exact absurd (hbe.trans z) hb
    ·rw [hbe]; exact z
   rw [q] at q'; cases q'
   obtain ⟨v, hv⟩ := heo
   exact ⟨v, by rw [hbe]; exact hv⟩
  ·refine (ok b u q).stay (fun c v hc r => k c v ?_ r) (fun c r => by rw [aJ (nown c b r)]; exact r) fun c xs r => by rw [aJ (ntup c xs r)]; exact r
   rcases hc with rfl | hc
   ·exact hbe
   ·rintro rfl
    rcases he with z | z
    ·exact nown c b hc z
    ·rw [hc] at z; cases z; exact hb rfl
end
structure Un (fs ex : List Addr) (H H' : Hp) (h h' : Heap) : Prop where
 keep : ∀ b o, h.get? b = some o → H b = none → b ∉ fs → b ∉ ex → h'.get? b = some o
 slot : ∀ b o, h.get? b = some o → H b = none → b ∈ fs → b ∉ ex → ∃ sl, h'.get? b = some { o with slots := sl }
 free : ∀ b o, h.get? b = some o → H b = none → b ∉ ex → H' b = none
 there : ∀ b o, h.get? b = some o → b ∉ ex → ∃ o', h'.get? b = some o'
 tups : ∀ b xs, H b = some (.tup xs) → H' b = some (.tup xs)
 frzs : ∀ b o u, H b = some (.frz o u) → H' b = some (.frz o u)
 tbls : ∀ b ps, H b = some (.tbl ps) → ∃ more, H' b = some (.tbl (ps ++ more))
section
variable {fs fs' ex ex' : List Addr} {H H1 H2 : Hp} {h h1 h2 h' : Heap} {a x e : Addr} {o : HO}
theorem Un.any (u : Un fs ex H H1 h h1) {b : Addr} {ob : Obj} (q : h.get? b = some ob) (n : H b = none) (hx : b ∉ ex) : ∃ sl, h1.get? b = some { ob with slots := sl } := by
 by_cases hb : b ∈ fs
 ·exact u.slot b ob q n hb hx
 ·exact ⟨ob.slots, u.keep b ob q n hb hx⟩
theorem Un.kept (k : ∀ b u, h.get? b = some u → h'.get? b = some u) : Un fs ex H H h h' :=
 ⟨fun b ob q _ _ _ => k b ob q, fun b ob q _ _ _ => ⟨ob.slots, k b ob q⟩, fun _ _ _ n _ => n, fun b ob q _ => ⟨ob, k b ob q⟩, fun _ _ q => q, fun _ _ _ q => q, fun _ ps q => ⟨#[], by rw [q]; simp⟩⟩
theorem Un.refl : Un fs ex H H h h := Un.kept fun _ _ q => q
theorem Un.laid (k : ∀ b u, h.get? b = some u → h'.get? b = some u) (hp : h.objs.size ≤ a) (hn : H a = none) : Un fs ex H (upd H a o) h h' where
 keep := fun b u q _ _ _ => k b u q
 slot := fun b u q _ _ _ => ⟨u.slots, k b u q⟩
 free := fun b u q n _ => by rw [aJ (Nat.ne_of_lt (Nat.lt_of_lt_of_le (Heap.lt_size q) hp))]; exact n
 there := fun b u q _ => ⟨u, k b u q⟩
 tups := fun b xs q => by rw [aJ (aF q hn)]; exact q
 frzs := fun b u xs q => by rw [aJ (aF q hn)]; exact q
 tbls := fun b ps q => ⟨#[], by rw [aJ (aF q hn), q]; simp⟩
theorem Un.write (mu : Mut (H x)) (he : e = x ∨ H e = some (.own x)) (k : ∀ b u, b ≠ e → h.get? b = some u → h'.get? b = some u) (heo : ∃ u, h'.get? e = some u) : Un fs ex H (upd H x o) h h' := by
 have hx : ∀ b, H b = none → b ≠ x := fun b n z => by subst z; rw [n] at mu; exact mu
 have hb : ∀ b, H b = none → b ≠ e := fun b n z => by
  subst z
  rcases he with r | r
  ·exact hx b n r
  ·rw [n] at r; cases r
 have hm : ∀ b u, H b = some u → ¬ Mut (some u) → b ≠ x := fun b u q nm z => by subst z; rw [q] at mu; exact nm mu
 refine ⟨fun b u q n _ _ => k b u (hb b n) q, fun b u q n _ _ => ⟨u.slots, k b u (hb b n) q⟩, fun b u q n _ => by rw [aJ (hx b n)]; exact n, fun b u q _ => ?_,
  fun b xs q => by rw [aJ (hm b _ q fun z => z)]; exact q, fun b u xs q => by rw [aJ (hm b _ q fun z => z)]; exact q, fun b ps q => ⟨#[], by rw [aJ (hm b _ q fun z => z), q]; simp⟩⟩
 by_cases hbe : b = e
 ·subst hbe; exact heo
 ·exact ⟨u, k b u hbe q⟩
end
def trk (h : Heap) (H : Hp) : List Addr := (List.range h.objs.size).filter fun a => (H a).isSome
def rR (h : Heap) (H : Hp) : Heap := PySem.W.hideAll h (trk h H)
theorem zq (h : Heap) (H : Hp) : (rR h H).objs.size = h.objs.size := PySem.W.hideAll_size _ _
theorem Du {h : Heap} {H : Hp} {b : Addr} {o : Obj} (e : h.get? b = some o) (n : H b = none) : (rR h H).get? b = some o :=
 PySem.W.hideAll_get _ e fun hm => by
  have q : (H b).isSome = true := (List.mem_filter.mp hm).2
  rw [n] at q; simp at q
theorem Hl {h : Heap} {H : Hp} {b : Addr} {o : Obj} (e : (rR h H).get? b = some o) : h.get? b = some o ∧ H b = none := by
 have e' : h.get? b = some o := PySem.W.of_hideAll (trk h H) e
 refine ⟨e', ?_⟩
 cases q : H b with
 | none => rfl
 | some x =>
  have hm : b ∈ trk h H := List.mem_filter.mpr ⟨List.mem_range.mpr (Heap.lt_size e'), by simp [q]⟩
  have z : (rR h H).get? b = none := PySem.W.hideAll_none (trk h H) hm
  rw [z] at e; cases e
structure Mod (K : PySem.W.Frag) (mg : Str → Option Value) (base : Heap) : Prop where
 kin : K.In base
 glob : base.Ns mainGlobals mg
 blt : ∃ mb, base.Ns builtinsNs mb ∧ ∀ x : Str, x ≠ "__name__" → mb x = bootBuiltins x
 nolimit : base.NoLimit
structure Cx where
 prog : Program
 w : World
 K : PySem.W.Frag
 mg : Str → Option Value
 base : Heap
 A : Around
 N : List Str
 s₀ : Shared
 H₀ : Hp
 env : Env
 outer : List Env
 stack : List Env
 ex : List Addr
 fn : Str → Bool
 calm : Bool
 pn : List (Addr × Obj)
 xe : Value → Shared → Prop
def frs (l : List Env) : List Addr := l.filterMap (·.frame)
abbrev Cx.fs (X : Cx) : List Addr := frs X.outer
def Vis (sc : Scope) (x : Str) : Prop := sc.names.lookup x = some .local ∨ sc.names.lookup x = some .cell ∨ sc.names.lookup x = some .free
def Loc (sc : Scope) (x : Str) : Prop := sc.names.lookup x = some .local ∨ sc.names.lookup x = some .cell
def Look (env : Env) (h : Heap) (m : Str → Option Value) (x : Str) (u : Value) : Prop :=
 (env.kindOf x = some .local ∧ m x = some u) ∨ ((env.kindOf x = some .cell ∨ env.kindOf x = some .free) ∧ ∃ c, env.cells.lookup x = some c ∧ h.IsCell c (some u))
structure Cx.Ok (X : Cx) : Prop where
 mod : Mod X.K X.mg X.base
 kind : X.env.scope.kind = .function
 glob : X.env.globals = mainGlobals
 blt : X.env.builtins = builtinsNs
 above : X.s₀.heap.objs.size ≤ X.env.locals
 inj : ∀ x y c, X.env.cells.lookup x = some c → X.env.cells.lookup y = some c → x = y
 has : ∀ x, (X.env.kindOf x = some .cell ∨ X.env.kindOf x = some .free) → ∃ c, X.env.cells.lookup x = some c
 cab : ∀ x c, X.fn x = true → X.env.cells.lookup x = some c → X.s₀.heap.objs.size ≤ c
 hd : X.calm = true → X.A.handled = none
 frames : X.A.frames = some X.stack
 stk : X.stack = X.outer ∨ (X.stack = X.env :: X.outer ∧ X.env.frame = some X.env.locals)
 exf : ∀ b ∈ X.ex, b ≠ X.env.locals ∧ ∀ x c, X.env.cells.lookup x = some c → c ≠ b
 bs : ∀ b o, X.base.get? b = some o → X.s₀.heap.get? b = some o ∧ X.H₀ b = none
 bsz : X.base.objs.size ≤ X.s₀.heap.objs.size
 noex : ∀ b o, X.base.get? b = some o → b ∉ X.ex
 exfs : ∀ b ∈ X.ex, b ∉ X.fs
 lZ : X.s₀.heap.FunFrames X.base X.outer
 frf : ∀ b ∈ X.fs, X.H₀ b = none
structure Inv (X : Cx) (pins : List (Addr × Obj)) (σ : List (Option V)) (H : Hp) (s : Shared) : Prop where
 ok : X.Ok
 os : s.os = X.s₀.os
 bare : AllBare s.gens
 base : Un X.fs X.ex X.H₀ H X.s₀.heap s.heap
 loc : ∃ m, s.heap.Ns X.env.locals m ∧ ∀ (i : Nat) (x : Str) (v : V), X.N[i]? = some x → σ[i]? = some (some v) → Vis X.env.scope x → ∃ u, RelV v u ∧ Look X.env s.heap m x u
 cell : ∀ x c, X.env.cells.lookup x = some c → ∃ v, s.heap.IsCell c v
 free : H X.env.locals = none
 freeC : ∀ x c, X.env.cells.lookup x = some c → H c = none
 pin : ∀ p ∈ X.pn ++ pins, s.heap.get? p.1 = some p.2 ∧ H p.1 = none ∧ p.1 ≠ X.env.locals ∧ p.1 ∉ X.fs ∧ ∀ v, p.2.data ≠ .cell v
 hok : HOk X.prog X.w H s.heap
 len : σ.length = X.N.length
section
variable {X : Cx} {pins : List (Addr × Obj)} {σ : List (Option V)} {H H' : Hp} {s : Shared} {h' : Heap}
theorem Cx.Ok.Ot (ok : X.Ok) {b : Addr} {o : Obj} (e : X.base.get? b = some o) : b ∉ X.fs := fun hb => by
 have := (ok.lZ.mem hb).1
 rw [e] at this; cases this
theorem Inv.bs (I : Inv X pins σ H s) : ∀ b o, X.base.get? b = some o → s.heap.get? b = some o ∧ H b = none := fun b o e =>
 ⟨I.base.keep b o (I.ok.bs b o e).1 (I.ok.bs b o e).2 (I.ok.Ot e) (I.ok.noex b o e), I.base.free b o (I.ok.bs b o e).1 (I.ok.bs b o e).2 (I.ok.noex b o e)⟩
theorem Inv.bk (I : Inv X pins σ H s) : ∀ b o, X.base.get? b = some o → s.heap.get? b = some o := fun b o e => (I.bs b o e).1
theorem Inv.mod (I : Inv X pins σ H s) : Mod X.K X.mg X.base := I.ok.mod
theorem Inv.kIn (I : Inv X pins σ H s) : X.K.In s.heap := I.ok.mod.kin.keeps I.bk
theorem Inv.lt (I : Inv X pins σ H s) : X.env.locals < s.heap.objs.size := let ⟨_, hn, _⟩ := I.loc; hn.lt
theorem Inv.sz (I : Inv X pins σ H s) : X.s₀.heap.objs.size ≤ s.heap.objs.size := Nat.le_trans I.ok.above (Nat.le_of_lt I.lt)
theorem Inv.K8 (I : Inv X pins σ H s) {a : Addr} (h : s.heap.objs.size ≤ a) : a ∉ X.fs := fun hb => by
 obtain ⟨_, o, ho, _⟩ := I.ok.lZ.mem hb
 exact absurd (Nat.lt_of_lt_of_le (Heap.lt_size ho) (Nat.le_trans I.sz h)) (Nat.lt_irrefl _)
theorem Inv.cne (I : Inv X pins σ H s) : ∀ x c, X.env.cells.lookup x = some c → c ≠ X.env.locals := fun x c e z => by
 obtain ⟨v, o, ho, hd⟩ := I.cell x c e
 obtain ⟨m, ⟨o', es, ep, ho', hd', _⟩, _⟩ := I.loc
 rw [z, ho'] at ho; cases ho; rw [hd'] at hd; cases hd
theorem Inv.lZ (I : Inv X pins σ H s) : s.heap.FunFrames X.base X.outer := by
 have all : ∀ (l : List Env), (∀ b ∈ frs l, b ∈ X.fs) → X.s₀.heap.FunFrames X.base l → s.heap.FunFrames X.base l := by
  intro l
  induction l with
  | nil => intro _ _; trivial
  | cons env r ih =>
   intro hs hl
   obtain ⟨hk, ⟨L, o, hf, hn, ho, hd⟩, hr⟩ := hl
   have hL : L ∈ X.fs := hs L (by unfold frs; rw [List.filterMap_cons, hf]; exact List.mem_cons_self)
   obtain ⟨sl, e⟩ := I.base.slot L o ho (I.ok.frf L hL) hL fun z => I.ok.exfs L z hL
   exact ⟨hk, ⟨L, _, hf, hn, e, hd⟩, ih (fun b hb => hs b (by unfold frs; rw [List.filterMap_cons, hf]; exact List.mem_cons_of_mem _ hb)) hr⟩
 exact all X.outer (fun _ hb => hb) I.ok.lZ
theorem Inv.stack (I : Inv X pins σ H s) : s.heap.FunFrames X.base X.stack := by
 rcases I.ok.stk with e | ⟨e, hf⟩
 ·rw [e]; exact I.lZ
 ·rw [e]
  obtain ⟨m, hn, _⟩ := I.loc
  refine .cons (by rw [I.ok.kind]; decide) hf hn ?_ I.lZ
  exact Heap.get?_none_of_le (Nat.le_trans I.ok.bsz I.ok.above)
theorem Inv.mL (I : Inv X pins σ H s) : ∀ b ∈ frs X.stack, b ∈ X.env.locals :: X.fs := fun b hb => by
 rcases I.ok.stk with e | ⟨e, hf⟩
 ·rw [e] at hb; exact List.mem_cons_of_mem _ hb
 ·rw [e] at hb
  unfold frs at hb
  rw [List.filterMap_cons, hf] at hb
  exact hb
theorem Inv.wB (I : Inv X pins σ H s) : ∀ b ∈ frs X.stack, H b = none := fun b hb => by
 rcases List.mem_cons.mp (I.mL b hb) with e | hb
 ·rw [e]; exact I.free
 ·obtain ⟨_, o, ho, _⟩ := I.ok.lZ.mem hb
  exact I.base.free b o ho (I.ok.frf b hb) fun z => I.ok.exfs b z hb
theorem Inv.step {g' : Array GenState} {t' : Nat} {d' : Drawn} {ch : List Addr} (I : Inv X pins σ H s)
  (hch : ∀ b ∈ ch, (b ∈ X.ex ∨ X.s₀.heap.objs.size ≤ b) ∧ b ≠ X.env.locals ∧ (∀ x c, X.env.cells.lookup x = some c → c ≠ b) ∧ ∀ p ∈ X.pn ++ pins, p.1 ≠ b)
  (keep : ∀ b o, b ≠ X.env.locals → b ∉ X.fs → b ∉ ch → s.heap.get? b = some o → H b = none → h'.get? b = some o)
  (slot : ∀ b o, b ≠ X.env.locals → b ∈ X.fs → b ∉ ch → s.heap.get? b = some o → H b = none → ∃ sl, h'.get? b = some { o with slots := sl }) (free : ∀ b o, b ∉ ch → s.heap.get? b = some o → H b = none → H' b = none)
  (there : ∀ b o, b ∉ ch → s.heap.get? b = some o → ∃ o', h'.get? b = some o')
  (tups : ∀ b xs, H b = some (.tup xs) → H' b = some (.tup xs)) (frzs : ∀ b o u, H b = some (.frz o u) → H' b = some (.frz o u)) (tbls : ∀ b ps, H b = some (.tbl ps) → ∃ more, H' b = some (.tbl (ps ++ more)))
  (ns : ∀ m, s.heap.Ns X.env.locals m → h'.Ns X.env.locals m) (hok : HOk X.prog X.w H' h') (hg : AllBare g') :
  Inv X pins σ H' { s with heap := h', gens := g', drawn := d', toks := t' } := by
 have neL : ∀ b o, X.s₀.heap.get? b = some o → b ≠ X.env.locals := fun b o e => Nat.ne_of_lt (Nat.lt_of_lt_of_le (Heap.lt_size e) I.ok.above)
 have neC : ∀ b o, X.s₀.heap.get? b = some o → b ∉ X.ex → b ∉ ch := fun b o e hx hb => by
  rcases (hch b hb).1 with z | z
  ·exact hx z
  ·exact absurd (Nat.lt_of_lt_of_le (Heap.lt_size e) z) (Nat.lt_irrefl _)
 have cellK : ∀ x c, X.env.cells.lookup x = some c → ∀ v, s.heap.IsCell c v → h'.IsCell c v := fun x c e v ⟨o, ho, hd⟩ => by
  have nch : c ∉ ch := fun z => (hch c z).2.2.1 x c e rfl
  by_cases hc : c ∈ X.fs
  ·obtain ⟨sl, q⟩ := slot c o (I.cne x c e) hc nch ho (I.freeC x c e)
   exact ⟨_, q, hd⟩
  ·exact ⟨o, keep c o (I.cne x c e) hc nch ho (I.freeC x c e), hd⟩
 refine ⟨I.ok, I.os, hg, ⟨fun b o e n hb hx => ?_, fun b o e n hb hx => ?_, fun b o e n hx => ?_, fun b o e hx => ?_, fun b xs e => tups b xs (I.base.tups b xs e), fun b o xs e => frzs b o xs (I.base.frzs b o xs e), fun b ps e => ?_⟩, ?_, fun x c e => ?_, ?_, fun x c e => ?_, fun p hp => ?_, hok, I.len⟩
 ·exact keep b o (neL b o e) hb (neC b o e hx) (I.base.keep b o e n hb hx) (I.base.free b o e n hx)
 ·obtain ⟨sl, e1⟩ := I.base.slot b o e n hb hx
  obtain ⟨sl', e2⟩ := slot b _ (neL b o e) hb (neC b o e hx) e1 (I.base.free b o e n hx)
  exact ⟨sl', e2⟩
 ·obtain ⟨o', e1⟩ := I.base.there b o e hx
  exact free b o' (neC b o e hx) e1 (I.base.free b o e n hx)
 ·obtain ⟨o', e1⟩ := I.base.there b o e hx
  exact there b o' (neC b o e hx) e1
 ·obtain ⟨m1, e1⟩ := I.base.tbls b ps e
  obtain ⟨m2, e2⟩ := tbls b _ e1
  exact ⟨m1 ++ m2, by rw [e2, Array.append_assoc]⟩
 ·obtain ⟨m, hn, hl⟩ := I.loc
  refine ⟨m, ns m hn, fun i x v e1 e2 e3 => ?_⟩
  obtain ⟨u, r, l⟩ := hl i x v e1 e2 e3
  refine ⟨u, r, ?_⟩
  rcases l with l | ⟨k, c, e, z⟩
  ·exact .inl l
  ·exact .inr ⟨k, c, e, cellK x c e _ z⟩
 ·obtain ⟨v, z⟩ := I.cell x c e
  exact ⟨v, cellK x c e v z⟩
 ·obtain ⟨m, ⟨o, _, _, ho, _⟩, _⟩ := I.loc
  exact free _ o (fun z => (hch _ z).2.1 rfl) ho I.free
 ·obtain ⟨v, o, ho, hd⟩ := I.cell x c e
  exact free c o (fun z => (hch c z).2.2.1 x c e rfl) ho (I.freeC x c e)
 ·obtain ⟨e, n, ne, nf, d⟩ := I.pin p hp
  have nch : p.1 ∉ ch := fun z => (hch p.1 z).2.2.2 p hp rfl
  exact ⟨keep p.1 p.2 ne nf nch e n, free p.1 p.2 nch e n, ne, nf, d⟩
theorem Inv.un {t' : Nat} (I : Inv X pins σ H s) (u : Un X.fs [] H H' s.heap h') (hok : HOk X.prog X.w H' h') : Inv X pins σ H' { s with heap := h', toks := t' } := by
 obtain ⟨m, ⟨o, es, ep, ho, r⟩, _⟩ := id I.loc
 obtain ⟨sl, hL⟩ := u.any ho I.free (by simp)
 exact I.step (g' := s.gens) (d' := s.drawn) (ch := []) (fun _ z => nomatch z) (fun b o _ hb _ e n => u.keep b o e n hb (by simp)) (fun b o _ hb _ e n => u.slot b o e n hb (by simp)) (fun b o _ e n => u.free b o e n (by simp)) (fun b o _ e => u.there b o e (by simp)) u.tups u.frzs u.tbls (fun m' hm => by
  obtain ⟨o', es', ep', ho', r'⟩ := hm
  rw [ho] at ho'; cases ho'
  exact ⟨_, es', ep', hL, r'⟩) hok I.bare
theorem Inv.call {g' : Array GenState} {t' : Nat} {d' : Drawn} {ch : List Addr} (I : Inv X pins σ H s) (u : Un (frs X.stack) ch H H' s.heap h') (hok : HOk X.prog X.w H' h') (hg : AllBare g')
  (hch : ∀ b ∈ ch, (b ∈ X.ex ∨ X.s₀.heap.objs.size ≤ b) ∧ b ≠ X.env.locals ∧ (∀ x c, X.env.cells.lookup x = some c → c ≠ b) ∧ ∀ p ∈ X.pn ++ pins, p.1 ≠ b) :
  Inv X pins σ H' { s with heap := h', gens := g', drawn := d', toks := t' } := by
 obtain ⟨m, ⟨o, es, ep, ho, r⟩, _⟩ := id I.loc
 obtain ⟨sl, hL⟩ := u.any ho I.free fun z => (hch _ z).2.1 rfl
 exact I.step (ch := ch) hch (fun b o hL hb hc e n => u.keep b o e n (fun z => (List.mem_cons.mp (I.mL b z)).elim hL hb) hc) (fun b o _ _ hc e n => u.any e n hc) (fun b o hc e n => u.free b o e n hc) (fun b o hc e => u.there b o e hc) u.tups u.frzs u.tbls (fun m' hm => by
  obtain ⟨o', es', ep', ho', r'⟩ := hm
  rw [ho] at ho'; cases ho'
  exact ⟨_, es', ep', hL, r'⟩) hok hg
theorem Inv.turned {t' : Nat} {it : Addr} (I : Inv X pins σ H s) (k : ∀ b o, b ≠ it → s.heap.get? b = some o → h'.get? b = some o) (hn : H it = none) (hL : it ≠ X.env.locals)
  (h1 : it ∈ X.ex ∨ X.s₀.heap.objs.size ≤ it) (h2 : ∀ x c, X.env.cells.lookup x = some c → c ≠ it) (h3 : ∀ p ∈ X.pn ++ pins, p.1 ≠ it) : Inv X pins σ H { s with heap := h', toks := t' } := by
 have nit : ∀ b u, H b = some u → b ≠ it := fun b u e z => by rw [z, hn] at e; cases e
 refine I.step (g' := s.gens) (d' := s.drawn) (ch := [it]) (fun b hb => ?_) (fun b o _ _ hc e _ => k b o (fun z => hc (by simp [z])) e) (fun b o _ _ hc e _ => ⟨o.slots, k b o (fun z => hc (by simp [z])) e⟩) (fun _ _ _ _ n => n)
  (fun b o hc e => ⟨o, k b o (fun z => hc (by simp [z])) e⟩) (fun _ _ e => e) (fun _ _ _ e => e) (fun b ps e => ⟨#[], by rw [e]; simp⟩) (fun m hm => ?_) (fun b u e => ?_) I.bare
 ·have e : b = it := by simpa using hb
  subst e
  exact ⟨h1, hL, h2, h3⟩
 ·obtain ⟨o, es, ep, ho, r⟩ := hm
  exact ⟨o, es, ep, k _ o (Ne.symm hL) ho, r⟩
 ·refine (I.hok b u e).stay (fun c v hc q => k c v ?_ q) (fun _ q => q) fun _ _ q => q
  rcases hc with z | z
  ·rw [z]; exact nit b u e
  ·exact nit c _ z
theorem Inv.tok (I : Inv X pins σ H s) (t : Nat) : Inv X pins σ H { s with toks := t } := I.un (h' := s.heap) (t' := t) Un.refl I.hok
theorem Inv.kept {t' : Nat} (I : Inv X pins σ H s) (k : ∀ b u, s.heap.get? b = some u → h'.get? b = some u) : Inv X pins σ H { s with heap := h', toks := t' } := I.un (Un.kept k) (I.hok.kept k)
theorem Inv.laid {a : Addr} {o : HO} {t' : Nat} (I : Inv X pins σ H s) (k : ∀ b u, s.heap.get? b = some u → h'.get? b = some u) (hp : s.heap.objs.size ≤ a) (new : bT X.prog X.w (upd H a o) h' a o) :
  Inv X pins σ (upd H a o) { s with heap := h', toks := t' } := I.un (Un.laid k hp (I.hok.fresh hp)) (I.hok.laid k hp new)
theorem Inv.write {x e : Addr} {o : HO} {t' : Nat} (I : Inv X pins σ H s) (mu : Mut (H x)) (he : e = x ∨ H e = some (.own x)) (k : ∀ b u, b ≠ e → s.heap.get? b = some u → h'.get? b = some u) (heo : ∃ u, h'.get? e = some u)
  (new : bT X.prog X.w (upd H x o) h' x o) : Inv X pins σ (upd H x o) { s with heap := h', toks := t' } := I.un (Un.write mu he k heo) (I.hok.write mu he k heo new)
theorem Inv.iT {pins' : List (Addr × Obj)} (I : Inv X pins σ H s) (h : ∀ p ∈ pins', s.heap.get? p.1 = some p.2 ∧ H p.1 = none ∧ p.1 ≠ X.env.locals ∧ p.1 ∉ X.fs ∧ ∀ v, p.2.data ≠ .cell v) : Inv X pins' σ H s :=
 ⟨I.ok, I.os, I.bare, I.base, I.loc, I.cell, I.free, I.freeC, fun p hp => (List.mem_append.mp hp).elim (fun z => I.pin p (List.mem_append_left _ z)) (h p), I.hok, I.len⟩
theorem uo {N : List Str} (hN : N.Nodup) {i j : Nat} {x : Str} (a : N[i]? = some x) (b : N[j]? = some x) : i = j := by
 obtain ⟨h1, e1⟩ := List.getElem?_eq_some_iff.mp a
 obtain ⟨h2, e2⟩ := List.getElem?_eq_some_iff.mp b
 exact (List.getElem_inj hN).mp (e1.trans e2.symm)
theorem pQ {M : Model} {A : Around} {E : Value → Shared → Prop} {i : Nat} {x : Str} {v : V} {u : Value} {Q : Unit → Shared → Prop} (I : Inv X pins σ H s) (hN : X.N.Nodup) (hi : X.N[i]? = some x) (hx : Loc X.env.scope x) (r : RelV v u)
  (h : ∀ s', Inv X pins (σ.set i (some v)) H s' → (∃ a, Heap.SameBut a s.heap s'.heap ∧ (a = X.env.locals ∨ X.env.cells.lookup x = some a)) → Q () s') (hf : X.fn x = true ∨ X.env.scope.names.lookup x = some .local := by first | exact .inl rfl | exact .inr rfl | assumption) : wpAny M A (storeName X.env x u) Q E s := by
 obtain ⟨m, hn, hl⟩ := id I.loc
 have hcls : (X.env.scope.kind == .class || (X.env.scope.kind == .module && X.env.locals != X.env.globals)) = false := by rw [I.ok.kind]; rfl
 have hiσ : i < σ.length := by rw [I.len]; exact (List.getElem?_eq_some_iff.mp hi).1
 have cne := I.cne
 have tracked : ∀ {a : Addr} {h' : Heap}, (∃ o, s.heap.get? a = some o ∧ H a = none) → Heap.SameBut a s.heap h' → HOk X.prog X.w H h' := fun {a h'} ha hs b ob e => by
  obtain ⟨_, _, hfree⟩ := ha
  refine (I.hok b ob e).stay (fun c w' hc q => (hs.2 c ?_).trans q) (fun _ q => q) fun _ _ q => q
  rintro rfl
  rcases hc with rfl | hc
  ·rw [hfree] at e; cases e
  ·rw [hfree] at hc; cases hc
 rcases hx with hk | hk
 ·refine wpAny_storeName_local hk hn (fun h' hn' hs => ?_) hcls
  obtain ⟨oL, _, _, hoL, _⟩ := id hn
  refine h _ ⟨I.ok, I.os, I.bare, ⟨fun b o e n hb hx => ?_, fun b o e n hb hx => ?_, I.base.free, fun b o e hx => ?_, I.base.tups, I.base.frzs, I.base.tbls⟩, ⟨_, hn', fun j y v' e1 e2 e3 => ?_⟩, fun y c e => ?_, I.free, I.freeC, fun p hp => ?_, tracked ⟨oL, hoL, I.free⟩ hs, by simpa using I.len⟩ ⟨_, hs, .inl rfl⟩
  ·exact (hs.2 b (Nat.ne_of_lt (Nat.lt_of_lt_of_le (Heap.lt_size e) I.ok.above))).trans (I.base.keep b o e n hb hx)
  ·obtain ⟨sl, e1⟩ := I.base.slot b o e n hb hx
   exact ⟨sl, (hs.2 b (Nat.ne_of_lt (Nat.lt_of_lt_of_le (Heap.lt_size e) I.ok.above))).trans e1⟩
  ·obtain ⟨o', e1⟩ := I.base.there b o e hx
   exact ⟨o', (hs.2 b (Nat.ne_of_lt (Nat.lt_of_lt_of_le (Heap.lt_size e) I.ok.above))).trans e1⟩
  ·by_cases hj : j = i
   ·subst hj
    rw [hi] at e1; cases e1
    rw [List.getElem?_set_self hiσ] at e2
    cases e2
    exact ⟨u, r, .inl ⟨hk, by simp⟩⟩
   ·rw [List.getElem?_set_ne (Ne.symm hj)] at e2
    obtain ⟨u', r', q⟩ := hl j y v' e1 e2 e3
    refine ⟨u', r', ?_⟩
    rcases q with ⟨k, e⟩ | ⟨k, c, e, z⟩
    ·refine .inl ⟨k, ?_⟩
     have : y ≠ x := fun e => hj (uo hN e1 (e ▸ hi))
     simp [this, e]
    ·exact .inr ⟨k, c, e, z.sameBut hs (cne y c e)⟩
  ·obtain ⟨w', z⟩ := I.cell y c e
   exact ⟨w', z.sameBut hs (cne y c e)⟩
  ·obtain ⟨e, n, ne, nf, d⟩ := I.pin p hp
   exact ⟨(hs.2 p.1 ne).trans e, n, ne, nf, d⟩
 ·have hfn : X.fn x = true := by
   rcases hf with z | z
   ·exact z
   ·rw [z] at hk; cases hk
  obtain ⟨c, hc⟩ := I.ok.has x (.inl hk)
  obtain ⟨w', z⟩ := I.cell x c hc
  refine wpAny_storeName_cell I.ok.kind hk hc z (fun h' hc' hs => ?_)
  obtain ⟨oc, hoc, hocd⟩ := id z
  refine h { s with heap := h' } ⟨I.ok, I.os, I.bare, ⟨fun b o e n hb hx => ?_, fun b o e n hb hx => ?_, I.base.free, fun b o e hx => ?_, I.base.tups, I.base.frzs, I.base.tbls⟩, ⟨m, hn.sameBut hs (Ne.symm (cne x c hc)), fun j y v' e1 e2 e3 => ?_⟩, fun y c' e => ?_, I.free, I.freeC, fun p hp => ?_, tracked ⟨oc, hoc, I.freeC x c hc⟩ hs, by simpa using I.len⟩ ⟨c, hs, .inr hc⟩
  ·exact (hs.2 b (Nat.ne_of_lt (Nat.lt_of_lt_of_le (Heap.lt_size e) (I.ok.cab x c hfn hc)))).trans (I.base.keep b o e n hb hx)
  ·obtain ⟨sl, e1⟩ := I.base.slot b o e n hb hx
   exact ⟨sl, (hs.2 b (Nat.ne_of_lt (Nat.lt_of_lt_of_le (Heap.lt_size e) (I.ok.cab x c hfn hc)))).trans e1⟩
  ·obtain ⟨o', e1⟩ := I.base.there b o e hx
   exact ⟨o', (hs.2 b (Nat.ne_of_lt (Nat.lt_of_lt_of_le (Heap.lt_size e) (I.ok.cab x c hfn hc)))).trans e1⟩
  ·by_cases hj : j = i
   ·subst hj
    rw [hi] at e1; cases e1
    rw [List.getElem?_set_self hiσ] at e2
    cases e2
    exact ⟨u, r, .inr ⟨.inl hk, c, hc, hc'⟩⟩
   ·rw [List.getElem?_set_ne (Ne.symm hj)] at e2
    obtain ⟨u', r', q⟩ := hl j y v' e1 e2 e3
    refine ⟨u', r', ?_⟩
    rcases q with q | ⟨k, c', e, z'⟩
    ·exact .inl q
    ·refine .inr ⟨k, c', e, z'.sameBut hs ?_⟩
     rintro rfl
     exact hj (uo hN e1 (I.ok.inj _ _ _ e hc ▸ hi))
  ·by_cases hcc : c' = c
   ·subst hcc; exact ⟨_, hc'⟩
   ·obtain ⟨w2, z2⟩ := I.cell y c' e
    exact ⟨w2, z2.sameBut hs hcc⟩
  ·obtain ⟨e, n, ne, nf, d⟩ := I.pin p hp
   refine ⟨(hs.2 p.1 ?_).trans e, n, ne, nf, d⟩
   intro q
   rw [q, hoc] at e
   have q' : oc = p.2 := Option.some.inj e
   exact d w' (by rw [← q']; exact hocd)
theorem jA {M : Model} {A : Around} {E : Value → Shared → Prop} {i : Nat} {x : Str} {v : V} {u : Value} {Q : Unit → Shared → Prop} (I : Inv X pins σ H s) (hN : X.N.Nodup) (hi : X.N[i]? = some x) (hx : Loc X.env.scope x) (r : RelV v u)
  (h : ∀ s', Inv X pins (σ.set i (some v)) H s' → Q () s') (hf : X.fn x = true ∨ X.env.scope.names.lookup x = some .local := by first | exact .inl rfl | exact .inr rfl | assumption) : wpAny M A (storeName X.env x u) Q E s :=
 pQ I hN hi hx r (fun s' I' _ => h s' I') hf
theorem Inv.call' {s' : Shared} {ch : List Addr} (I : Inv X pins σ H s) (ho : s'.os = s.os) (u : Un (frs X.stack) ch H H' s.heap s'.heap) (hok : HOk X.prog X.w H' s'.heap) (hg : AllBare s'.gens)
  (hch : ∀ b ∈ ch, (b ∈ X.ex ∨ X.s₀.heap.objs.size ≤ b) ∧ b ≠ X.env.locals ∧ (∀ x c, X.env.cells.lookup x = some c → c ≠ b) ∧ ∀ p ∈ X.pn ++ pins, p.1 ≠ b) : Inv X pins σ H' s' := by
 obtain ⟨h', g', d', t', o'⟩ := s'
 have e : o' = s.os := ho
 subst e
 exact I.call (g' := g') (t' := t') (d' := d') u hok hg hch
end
abbrev XK := Value → Option Addr → Hp → Prop
abbrev St := List (Option V)
abbrev VK := V → Hp → Prop
abbrev TE := St → Hp → VK → Prop
abbrev TT := St → Hp → (Bool → Hp → Prop) → Prop
abbrev TA := St → Hp → (List V → Hp → Prop) → Prop
structure Ends where
 nx : St → Hp → Prop
 rt : VK
 bk : St → Hp → Prop := fun _ _ => False
 ct : St → Hp → Prop := fun _ _ => False
abbrev TS := Ends → St → Hp → Prop
def EP (X : Cx) (pins : List (Addr × Obj)) (σ : St) (Q : VK) (u : Value) (s' : Shared) : Prop := ∃ v H', Inv X pins σ H' s' ∧ RelV v u ∧ Q v H'
def TP (X : Cx) (pins : List (Addr × Obj)) (σ : St) (Q : Bool → Hp → Prop) (b : Bool) (s' : Shared) : Prop := ∃ H', Inv X pins σ H' s' ∧ Q b H'
def AP (X : Cx) (pins : List (Addr × Obj)) (σ : St) (Q : List V → Hp → Prop) (us : List Value) (s' : Shared) : Prop := ∃ vs H', Inv X pins σ H' s' ∧ Vals vs us ∧ Q vs H'
def SP (X : Cx) (pins : List (Addr × Obj)) (D : Ends) (f : Flow) (s' : Shared) : Prop :=
 match f with
 | .next => ∃ σ' H', Inv X pins σ' H' s' ∧ D.nx σ' H'
 | .brk => ∃ σ' H', Inv X pins σ' H' s' ∧ D.bk σ' H'
 | .cont => ∃ σ' H', Inv X pins σ' H' s' ∧ D.ct σ' H'
 | .ret u => ∃ v σ' H', Inv X pins σ' H' s' ∧ RelV v u ∧ D.rt v H'
def PE (X : Cx) (e : Expr) (t : TE) : Prop :=
 ∀ (pins : List (Addr × Obj)) (s : Shared) (σ : St) (H : Hp) (Q : VK), Inv X pins σ H s → t σ H Q → wpAny (model X.prog X.w) X.A (eval e X.env) (EP X pins σ Q) X.xe s
def PT (X : Cx) (e : Expr) (t : TT) : Prop :=
 ∀ (pins : List (Addr × Obj)) (s : Shared) (σ : St) (H : Hp) (Q : Bool → Hp → Prop), Inv X pins σ H s → t σ H Q → wpAny (model X.prog X.w) X.A (isTrue e X.env (eval e X.env)) (TP X pins σ Q) X.xe s
def PW (X : Cx) (e : Expr) (t : TT) : Prop :=
 ∀ (whole : Sem Value) (pins : List (Addr × Obj)) (s : Shared) (σ : St) (H : Hp) (Q : Bool → Hp → Prop), Inv X pins σ H s → t σ H Q → wpAny (model X.prog X.w) X.A (isTrue e X.env whole) (TP X pins σ Q) X.xe s
theorem PW.pt {X : Cx} {e : Expr} {t : TT} (h : PW X e t) : PT X e t := h _
def PA (X : Cx) (es : List Expr) (t : TA) : Prop :=
 ∀ (pos : Pos) (pins : List (Addr × Obj)) (s : Shared) (σ : St) (H : Hp) (Q : List V → Hp → Prop), Inv X pins σ H s → t σ H Q → wpAny (model X.prog X.w) X.A (spliced (backTo pos (starEach es X.env))) (AP X pins σ Q) X.xe s
def PS (X : Cx) (st : Stmt) (t : TS) : Prop :=
 ∀ (pins : List (Addr × Obj)) (s : Shared) (σ : St) (H : Hp) (D : Ends), Inv X pins σ H s → t D σ H → wpAny (model X.prog X.w) X.A (exec st X.env) (SP X pins D) X.xe s
def PSs (X : Cx) (st : List Stmt) (t : TS) : Prop :=
 ∀ (pins : List (Addr × Obj)) (s : Shared) (σ : St) (H : Hp) (D : Ends), Inv X pins σ H s → t D σ H → wpAny (model X.prog X.w) X.A (execs st X.env) (SP X pins D) X.xe s
theorem thn {α : Type} {t : Sem α} {Q Q' : α → Shared → Prop} {M : Model} {A : Around} {E : Value → Shared → Prop} {s : Shared} (h : wpAny M A t Q E s) (hQ : ∀ a s, Q a s → Q' a s) : wpAny M A t Q' E s := wpAny_mono h hQ fun _ _ x => x
theorem thE {t : Sem Value} {X : Cx} {pins : List (Addr × Obj)} {σ : St} {Q : VK} {Q' : Value → Shared → Prop} {M : Model} {A : Around} {E : Value → Shared → Prop} {s : Shared} (h : wpAny M A t (EP X pins σ Q) E s) (hQ : ∀ u s x H, Inv X pins σ H s → RelV x u → Q x H → Q' u s) : wpAny M A t Q' E s := thn h fun u s z => by
 obtain ⟨x, H, I, r, q⟩ := z
 exact hQ u s x H I r q
theorem thA {t : Sem (List Value)} {X : Cx} {pins : List (Addr × Obj)} {σ : St} {Q : List V → Hp → Prop} {Q' : List Value → Shared → Prop} {M : Model} {A : Around} {E : Value → Shared → Prop} {s : Shared} (h : wpAny M A t (AP X pins σ Q) E s) (hQ : ∀ u s x H, Inv X pins σ H s → Vals x u → Q x H → Q' u s) : wpAny M A t Q' E s := thn h fun u s z => by
 obtain ⟨x, H, I, r, q⟩ := z
 exact hQ u s x H I r q
theorem thT {t : Sem Bool} {X : Cx} {pins : List (Addr × Obj)} {σ : St} {Q : Bool → Hp → Prop} {Q' : Bool → Shared → Prop} {M : Model} {A : Around} {E : Value → Shared → Prop} {s : Shared} (h : wpAny M A t (TP X pins σ Q) E s) (hQ : ∀ u s H, Inv X pins σ H s → Q u H → Q' u s) : wpAny M A t Q' E s := thn h fun u s z => by
 obtain ⟨H, I, q⟩ := z
 exact hQ u s H I q
section
variable {X : Cx}
def Ad (i : Nat) : TE := fun σ H Q => ∃ v, σ[i]? = some (some v) ∧ Q v H
def tC (v : V) : TE := fun _ H Q => Q v H
theorem Cq {i : Nat} {x : Str} {pos : Pos} (hN : X.N[i]? = some x) (hv : Vis X.env.scope x) (hd : (x == ("__debug__" : Str)) = false := by decide) (hcd : (x == ("__classdict__" : Str)) = false := by decide) : PE X (.Name x pos) (Ad i) := by
 intro pins s σ H Q I h
 obtain ⟨v, e, h⟩ := h
 obtain ⟨m, hn, hl⟩ := I.loc
 obtain ⟨u, r, l⟩ := hl i x v hN e hv
 have fin : EP X pins σ Q u s := ⟨v, H, I, r, h⟩
 rcases l with ⟨hk, hm⟩ | ⟨hk, c, hc, hcell⟩
 ·exact wpAny_Name (wpAny_loadName_local I.ok.kind hk hn hm fin) hd
 ·rcases hk with hk | hk
  ·exact wpAny_Name (wpAny_loadName_cell I.ok.kind hk hc hcell fin) hd
  ·exact wpAny_Name (wpAny_loadName_free I.ok.kind hk hc hcell fin hcd) hd
theorem KH {i j pos} : PE X (.Constant (.int i) j pos) (tC (.int i)) := fun _ _ _ H _ I h => wpAny_Constant_int ⟨.int i, H, I.tok _, ⟨_, rfl⟩, h⟩
theorem Nq {b j pos} : PE X (.Constant (.bool b) j pos) (tC (.bl b)) := fun _ _ _ H _ I h => Constant_bool ⟨.bl b, H, I, rfl, h⟩
theorem KC {j pos} : PE X (.Constant .none j pos) (tC .non) := fun _ _ _ H _ I h => Constant_none ⟨.non, H, I, rfl, h⟩
theorem Kw {x j pos} : PE X (.Constant (.str x) j pos) (tC (.str x)) := fun _ _ _ H _ I h => Calls.Constant_str ⟨.str x, H, I.tok _, ⟨_, rfl⟩, h⟩
def Gl (X : Cx) (x : Str) : Prop := X.env.kindOf x = some .globalImplicit
theorem xg {E : Value → Shared → Prop} {pins : List (Addr × Obj)} {s : Shared} {σ : St} {H : Hp} {x : Str} {u : Value} {pos : Pos} {Q : Value → Shared → Prop} (I : Inv X pins σ H s) (hg : Gl X x) (hm : X.mg x = some u) (h : Q u s)
  (hd : (x == ("__debug__" : Str)) = false := by decide) : wpAny (model X.prog X.w) X.A (eval (.Name x pos) X.env) Q E s :=
 Calls.Name_function_global I.ok.kind hg (Calls.loadGlobal_global (by rw [I.ok.glob]; exact I.mod.glob.keeps I.bk) hm h) hd
theorem lA {E : Value → Shared → Prop} {pins : List (Addr × Obj)} {s : Shared} {σ : St} {H : Hp} {x : Str} {u : Value} {pos : Pos} {Q : Value → Shared → Prop} (I : Inv X pins σ H s) (hg : Gl X x) (hm : X.mg x = none) (hv : bootBuiltins x = some u) (h : Q u s)
  (hn : x ≠ "__name__" := by decide) (hd : (x == ("__debug__" : Str)) = false := by decide) : wpAny (model X.prog X.w) X.A (eval (.Name x pos) X.env) Q E s := by
 obtain ⟨mb, h1, h2⟩ := I.mod.blt
 exact Calls.Name_function_global I.ok.kind hg (Calls.loadGlobal_builtin (by rw [I.ok.glob]; exact I.mod.glob.keeps I.bk) hm (by rw [I.ok.blt]; exact h1.keeps I.bk) ((h2 x hn).trans hv) h) hd
theorem GP {x : Str} {v : V} {u : Value} {pos : Pos} (hg : Gl X x) (hm : X.mg x = some u) (r : RelV v u) (hd : (x == ("__debug__" : Str)) = false := by decide) : PE X (.Name x pos) (tC v) :=
 fun _ _ _ H _ I h => xg I hg hm ⟨v, H, I, r, h⟩ hd
theorem GZ {x : Str} {v : V} {u : Value} {pos : Pos} (hg : Gl X x) (hm : X.mg x = none) (hv : bootBuiltins x = some u) (r : RelV v u) (hn : x ≠ "__name__" := by decide) (hd : (x == ("__debug__" : Str)) = false := by decide) : PE X (.Name x pos) (tC v) :=
 fun _ _ _ H _ I h => lA I hg hm hv ⟨v, H, I, r, h⟩ hn hd
variable {a b : Expr} {ta tb : TE} {pos : Pos}
def tB (t : TE) : TT := fun σ H Q => t σ H fun x H1 => ∃ c, x = .bl c ∧ Q c H1
theorem Ke {e : Expr} {t : TE} (h : PE X e t) (he : ∀ whole, isTrue e X.env whole = (do let v ← whole; standAt e.pos; holding [v] (truthy v)) := by intro _; rfl) : PT X e (tB t) := by
 intro pins s σ H Q I hw
 refine isTrue_plain (thE (h pins s σ H _ I hw) fun v s1 x H1 I1 r1 q1 => ?_) (he _)
 obtain ⟨d, rfl, q⟩ := q1
 cases r1
 exact wpAny_truthy_bool ⟨H1, I1, q⟩
variable {tA tB' : TT} {rest : List Expr}
def JL (t u : TT) : TT := fun σ H Q => t σ H fun c H1 => if c = true then u σ H1 Q else Q false H1
def tOr (t u : TT) : TT := fun σ H Q => t σ H fun c H1 => if c = true then Q true H1 else u σ H1 Q
def JB (t : TT) : TT := fun σ H Q => t σ H fun c H1 => Q (!c) H1
theorem Gp (ha : PT X a tA) : PW X (.BoolOp .And [a] pos) tA := by
 intro wh pins s σ H Q I h
 refine isTrue_and (thn (ha pins s σ H Q I h) fun c s1 e => ?_)
 cases c with
 | true => exact isTrue_and_nil e
 | false => exact e
theorem Kc (ha : PT X a tA) : PW X (.BoolOp .Or [a] pos) tA := by
 intro wh pins s σ H Q I h
 refine isTrue_or (thn (ha pins s σ H Q I h) fun c s1 e => ?_)
 cases c with
 | false => exact isTrue_or_nil e
 | true => exact e
theorem Kd (ha : PT X a tA) (hb : PW X (.BoolOp .And (b :: rest) pos) tB') : PW X (.BoolOp .And (a :: b :: rest) pos) (JL tA tB') := by
 intro wh pins s σ H Q I h
 refine isTrue_and (thT (ha pins s σ H _ I h) fun c s1 H1 I1 q1 => ?_)
 cases c with
 | true => exact hb wh pins s1 σ H1 Q I1 q1
 | false => exact ⟨H1, I1, q1⟩
theorem M5 (ha : PT X a tA) (hb : PW X (.BoolOp .Or (b :: rest) pos) tB') : PW X (.BoolOp .Or (a :: b :: rest) pos) (tOr tA tB') := by
 intro wh pins s σ H Q I h
 refine isTrue_or (thT (ha pins s σ H _ I h) fun c s1 H1 I1 q1 => ?_)
 cases c with
 | true => exact ⟨H1, I1, q1⟩
 | false => exact hb wh pins s1 σ H1 Q I1 q1
theorem Kg (ha : PT X a tA) : PT X (.UnaryOp .Not a pos) (JB tA) := by
 intro pins s σ H Q I h
 exact isTrue_not (ha pins s σ H (fun c H1 => Q (!c) H1) I h)
def Am (ta tb : TE) : TE := fun σ H Q => ta σ H fun x H1 => ∃ c, x = .bl c ∧ if c = true then tb σ H1 Q else Q (.bl false) H1
def Ob (ta tb : TE) : TE := fun σ H Q => ta σ H fun x H1 => ∃ c, x = .bl c ∧ if c = true then Q (.bl true) H1 else tb σ H1 Q
def Ag (ta : TE) : TE := fun σ H Q => ta σ H fun x H1 => ∃ c, x = .bl c ∧ Q (.bl (!c)) H1
theorem Ky {op} {t : TE} (h : PE X a t) : PE X (.BoolOp op [a] pos) t := fun pins s σ H Q I hw => BoolOp_one (h pins s σ H Q I hw)
theorem KN (ha : PE X a ta) (hb : PE X (.BoolOp .And (b :: rest) pos) tb) : PE X (.BoolOp .And (a :: b :: rest) pos) (Am ta tb) := by
 intro pins s σ H Q I h
 refine BoolOp_and (thE (ha pins s σ H _ I h) fun v s1 x H1 I1 r1 q1 => ?_)
 obtain ⟨c, rfl, q1⟩ := q1
 cases r1
 refine wpAny_truthy_bool ?_
 cases c with
 | true => exact hb pins s1 σ H1 Q I1 q1
 | false => exact ⟨.bl false, H1, I1, rfl, q1⟩
theorem Kz (ha : PE X a ta) : PE X (.UnaryOp .Not a pos) (Ag ta) := by
 intro pins s σ H Q I h
 refine UnaryOp_ (thE (ha pins s σ H _ I h) fun v s1 x H1 I1 r1 q1 => ?_)
 obtain ⟨c, rfl, q1⟩ := q1
 cases r1
 exact not_of (wpAny_truthy_bool ⟨.bl (!c), H1, I1, rfl, q1⟩)
def tIf (t : TT) (ta tb : TE) : TE := fun σ H Q => t σ H fun c H1 => if c = true then ta σ H1 Q else tb σ H1 Q
theorem Cu {c : Expr} (hc : PT X c tA) (ha : PE X a ta) (hb : PE X b tb) : PE X (.IfExp c a b pos) (tIf tA ta tb) := by
 intro pins s σ H Q I h
 refine wpAny_IfExp (thT (hc pins s σ H _ I h) fun d s1 H1 I1 q1 => ?_)
 cases d with
 | true => exact ha pins s1 σ H1 Q I1 q1
 | false => exact hb pins s1 σ H1 Q I1 q1
end
def SqL (K : PySem.W.Frag) (H : Hp) (a : Addr) (xs : List V) : Prop :=
 Rd H a (.lst xs) ∨
  ∃ (o : Obj) (its : Array Value) (n : Nat), K.lookup a = some o ∧ o.cls = .type "list" ∧ o.dict = none ∧ o.data = .seq its n ∧ its.size ≤ sizeLine ∧ Vals xs its.toList
def SqT (K : PySem.W.Frag) (H : Hp) (a : Addr) (xs : List V) : Prop :=
 Rd H a (.tup xs) ∨
  ∃ (o : Obj) (its : Array Value) (n : Nat), K.lookup a = some o ∧ o.cls = .type "tuple" ∧ o.data = .seq its n ∧ its.size ≤ sizeLine ∧ Vals xs its.toList
def O1 : Value → Option V
 | .none => some .non
 | .bool b => some (.bl b)
 | .int i _ => some (.int i)
 | .str x _ => some (.str x)
 | .bytes b _ => some (.byt b)
 | .float b _ => some (.flt b)
 | .ref a => some (.ref a)
 | .type n => some (.ty n)
 | _ => none
theorem RelV.abs {x : V} {u : Value} (r : RelV x u) : O1 u = some x := by
 cases x with
 | non => cases r; rfl
 | bl _ => cases r; rfl
 | int _ => obtain ⟨t, rfl⟩ := r; rfl
 | str _ => obtain ⟨t, rfl⟩ := r; rfl
 | byt _ => obtain ⟨t, rfl⟩ := r; rfl
 | flt _ => obtain ⟨t, rfl⟩ := r; rfl
 | ref _ => cases r; rfl
 | ty _ => cases r; rfl
theorem RelV.inj {x y : V} {u : Value} (r : RelV x u) (q : RelV y u) : x = y := Option.some.inj (r.abs.symm.trans q.abs)
theorem Vals.inj : ∀ {xs ys : List V} {us : List Value}, Vals xs us → Vals ys us → xs = ys
 | _, _, _, .nil, .nil => rfl
 | _, _, _, .cons r t, .cons r' t' => by rw [r.inj r', Vals.inj t t']
section
variable {X : Cx} {pins : List (Addr × Obj)} {σ : St} {H : Hp} {s : Shared} {a : Addr} {xs ys : List V}
theorem SqL.of {K : PySem.W.Frag} (h : H a = some (.lst xs)) : SqL K H a xs := .inl (.inl h)
theorem SqT.of {K : PySem.W.Frag} (h : H a = some (.tup xs)) : SqT K H a xs := .inl (.inl h)
theorem Inv.list (I : Inv X pins σ H s) (h : SqL X.K H a xs) : ∃ its : List Value, Vals xs its ∧ PlainL s.heap a its.toArray ∧ xs.length ≤ sizeLine := by
 rcases h with h | ⟨o, its, n, hk, hc, hd, hs, hz, r⟩
 ·obtain ⟨z, its, n, r, e⟩ := h.ok I.hok
  exact ⟨its, r, ⟨_, n, e, rfl, rfl, rfl⟩, z⟩
 ·refine ⟨its.toList, r, ⟨o, n, I.kIn a o hk, hc, hd, by simpa using hs⟩, ?_⟩
  have e := r.length
  simp only [Array.length_toList] at e
  omega
theorem Inv.tuple (I : Inv X pins σ H s) (h : SqT X.K H a xs) : ∃ its : List Value, Vals xs its ∧ IsTup s.heap a its.toArray ∧ xs.length ≤ sizeLine := by
 rcases h with h | ⟨o, its, n, hk, hc, hs, hz, r⟩
 ·obtain ⟨z, its, r, p⟩ := h.ok I.hok
  exact ⟨its, r, p, z⟩
 ·refine ⟨its.toList, r, ⟨o, I.kIn a o hk, hc, n, by simpa using hs⟩, ?_⟩
  have e := r.length
  simp only [Array.length_toList] at e
  omega
theorem Inv.jT (I : Inv X pins σ H s) (h : SqL X.K H a xs) (h' : SqL X.K H a ys) : xs = ys := by
 obtain ⟨its, r, ⟨o, n, e, _, _, d⟩, _⟩ := I.list h
 obtain ⟨its', r', ⟨o', n', e', _, _, d'⟩, _⟩ := I.list h'
 rw [e] at e'; cases e'
 rw [d] at d'
 injection d' with d1 _
 have : its = its' := by simpa using congrArg Array.toList d1
 subst this
 exact r.inj r'
theorem Inv.iK (I : Inv X pins σ H s) (h : SqT X.K H a xs) (h' : SqT X.K H a ys) : xs = ys := by
 obtain ⟨its, r, ⟨o, e, _, n, d⟩, _⟩ := I.tuple h
 obtain ⟨its', r', ⟨o', e', _, n', d'⟩, _⟩ := I.tuple h'
 rw [e] at e'; cases e'
 rw [d] at d'
 injection d' with d1 _
 have : its = its' := by simpa using congrArg Array.toList d1
 subst this
 exact r.inj r'
end
abbrev Cx.wish (X : Cx) (E : Value → Shared → Prop) : Cx := { X with xe := E }
abbrev Cx.nox (X : Cx) : Cx := X.wish fun _ _ => False
theorem Cx.Ok.wish {X : Cx} (ok : X.Ok) (E : Value → Shared → Prop) : (X.wish E).Ok :=
 ⟨ok.mod, ok.kind, ok.glob, ok.blt, ok.above, ok.inj, ok.has, ok.cab, ok.hd, ok.frames, ok.stk, ok.exf, ok.bs, ok.bsz, ok.noex, ok.exfs, ok.lZ, ok.frf⟩
theorem Cx.Ok.gR {X : Cx} {E : Value → Shared → Prop} (ok : (X.wish E).Ok) : X.Ok :=
 ⟨ok.mod, ok.kind, ok.glob, ok.blt, ok.above, ok.inj, ok.has, ok.cab, ok.hd, ok.frames, ok.stk, ok.exf, ok.bs, ok.bsz, ok.noex, ok.exfs, ok.lZ, ok.frf⟩
section
variable {X : Cx} {pins : List (Addr × Obj)} {σ : St} {H : Hp} {s : Shared} {E : Value → Shared → Prop}
theorem Inv.wish (I : Inv X pins σ H s) (E : Value → Shared → Prop) : Inv (X.wish E) pins σ H s := ⟨I.ok.wish E, I.os, I.bare, I.base, I.loc, I.cell, I.free, I.freeC, I.pin, I.hok, I.len⟩
theorem Inv.gR (I : Inv (X.wish E) pins σ H s) : Inv X pins σ H s := ⟨I.ok.gR, I.os, I.bare, I.base, I.loc, I.cell, I.free, I.freeC, I.pin, I.hok, I.len⟩
theorem SP.gR {D : Ends} {f : Flow} {s' : Shared} (h : SP (X.wish E) pins D f s') : SP X pins D f s' := by
 cases f with
 | next => obtain ⟨σ', H', I, q⟩ := h; exact ⟨σ', H', I.gR, q⟩
 | brk => obtain ⟨σ', H', I, q⟩ := h; exact ⟨σ', H', I.gR, q⟩
 | cont => obtain ⟨σ', H', I, q⟩ := h; exact ⟨σ', H', I.gR, q⟩
 | ret u => obtain ⟨v, σ', H', I, r, q⟩ := h; exact ⟨v, σ', H', I.gR, r, q⟩
theorem PSs.nox {st : List Stmt} {t : TS} (h : PSs X.nox st t) : PSs X st t := fun pins s σ H D I hw =>
 wpAny_mono (h pins s σ H D (I.wish _) hw) (fun _ _ q => q.gR) fun _ _ z => False.elim z
end
section
variable {X : Cx} {st : Stmt} {rest : List Stmt} {t u : TS} {e : Expr} {te : TE} {pos : Pos}
def Ah : TS := fun D σ H => D.nx σ H
def Es (t u : TS) : TS := fun D σ H => t { D with nx := u D } σ H
theorem Gu : PSs X [] Ah := fun _ _ σ H _ I h => wpAny_execs_nil ⟨σ, H, I, h⟩
theorem Ci (h1 : PS X st t) (h2 : PSs X rest u) : PSs X (st :: rest) (Es t u) := by
 intro pins s σ H D I h
 refine wpAny_execs_cons (thn (h1 pins s σ H { D with nx := u D } I h) fun f s1 q => ?_)
 cases f with
 | next =>
  obtain ⟨σ', H', I', q⟩ := q
  exact h2 pins s1 σ' H' D I' q
 | ret v => exact q
 | brk => exact q
 | cont => exact q
theorem Gs (h1 : PS X st t) : PSs X [st] t := by
 intro pins s σ H D I h
 refine wpAny_execs_cons (thn (h1 pins s σ H D I h) fun f s1 q => ?_)
 cases f with
 | next => exact wpAny_execs_nil q
 | ret v => exact q
 | brk => exact q
 | cont => exact q
theorem Inv.quiet {pins : List (Addr × Obj)} {σ : St} {H : Hp} {s : Shared} (I : Inv X pins σ H s) : interactive X.env = false := by simp [interactive, I.ok.kind]
def Ai (te : TE) : TS := fun D σ H => te σ H fun _ H1 => D.nx σ H1
theorem Gw (he : PE X e te) (hs : swapsWith e none pos.line X.env = pure false := by rfl) : PS X (.Expr e pos) (Ai te) := by
 intro pins s σ H D I h
 exact wpAny_Expr_any (thE (he pins s σ H _ I h) fun v s1 x H1 I1 r1 q1 => ⟨σ, H1, I1, q1⟩) I.quiet hs
def Jy (te : TE) : TS := fun D σ H => te σ H D.rt
theorem Kl (he : PE X e te) : PS X (.Return (some e) pos) (Jy te) := by
 intro pins s σ H D I h
 exact wpAny_Return_some (thE (he pins s σ H _ I h) fun v s1 x H1 I1 r1 q1 => ⟨x, σ, H1, I1, r1, q1⟩)
def Mv : TS := fun D _ H => D.rt .non H
def JG (c : TT) (t u : TS) : TS := fun D σ H => c σ H fun b H1 => if b = true then t D σ H1 else u D σ H1
theorem M7 {c : Expr} {a b : List Stmt} {tc : TT} (hc : PT X c tc) (ha : PSs X a t) (hb : PSs X b u) : PS X (.If c a b pos) (JG tc t u) := by
 intro pins s σ H D I h
 refine wpAny_If (thT (hc pins s σ H _ I h) fun d s1 H1 I1 q1 => ?_)
 cases d with
 | true => exact ha pins s1 σ H1 D I1 q1
 | false => exact hb pins s1 σ H1 D I1 q1
end
abbrev TG := V → St → Hp → (St → Hp → Prop) → Prop
abbrev TGs := List V → St → Hp → (St → Hp → Prop) → Prop
def PG (X : Cx) (target : Expr) (t : TG) : Prop :=
 ∀ (pins : List (Addr × Obj)) (s : Shared) (σ : St) (H : Hp) (v : V) (u : Value) (Q : St → Hp → Prop), Inv X pins σ H s → RelV v u → t v σ H Q →
  wpAny (model X.prog X.w) X.A (assign target X.env u) (fun _ s' => ∃ σ' H', Inv X pins σ' H' s' ∧ Q σ' H') X.xe s
def PGs (X : Cx) (ts : List Expr) (t : TGs) : Prop :=
 ∀ (pins : List (Addr × Obj)) (s : Shared) (σ : St) (H : Hp) (vs : List V) (us : List Value) (Q : St → Hp → Prop), Inv X pins σ H s → Vals vs us → t vs σ H Q →
  wpAny (model X.prog X.w) X.A (assignInOrder ((assignEach ts X.env).map (·.2)) us) (fun _ s' => ∃ σ' H', Inv X pins σ' H' s' ∧ Q σ' H') X.xe s
abbrev Ja := V → V → V → Hp → (Hp → Prop) → Prop
def Jb (X : Cx) (t : Ja) : Prop :=
 ∀ (pins : List (Addr × Obj)) (s : Shared) (σ : St) (H : Hp) (o i v : V) (ov iv u : Value) (Q : Hp → Prop), Inv X pins σ H s → RelV o ov → RelV i iv → RelV v u → t o i v H Q →
  wpAny (model X.prog X.w) X.A (setItem ov iv u) (fun _ s' => ∃ H', Inv X pins σ H' s' ∧ Q H') X.xe s
abbrev TIp := V → V → Hp → VK → Prop
section
variable {X : Cx} {pos : Pos}
def jj (i : Nat) : TG := fun v σ H Q => Q (σ.set i (some v)) H
theorem wV {i : Nat} {x : Str} (hN : X.N.Nodup) (hi : X.N[i]? = some x) (hx : Loc X.env.scope x) (hf : X.fn x = true ∨ X.env.scope.names.lookup x = some .local := by first | exact .inl rfl | exact .inr rfl | assumption) : PG X (.Name x pos) (jj i) := by
 intro pins s σ H v u Q I r h
 exact wpAny_assign_Name (jA I hN hi hx r (fun s' I' => ⟨_, H, I', h⟩) hf)
def LK : TGs := fun vs σ H Q => vs = [] ∧ Q σ H
def Dy (t : TG) (u : TGs) : TGs := fun vs σ H Q => ∃ v r, vs = v :: r ∧ t v σ H fun σ' H' => u r σ' H' Q
theorem GJ : PGs X [] LK := by
 intro pins s σ H vs us Q I r h
 obtain ⟨e, h⟩ := h
 subst e
 cases r
 exact assignInOrder_nil ⟨σ, H, I, h⟩
theorem Cp {e : Expr} {es : List Expr} {t : TG} {u : TGs} (h1 : PG X e t) (h2 : PGs X es u)
  (hs : (assignEach (e :: es) X.env).map (·.2) = assign e X.env :: (assignEach es X.env).map (·.2) := by rfl) : PGs X (e :: es) (Dy t u) := by
 intro pins s σ H vs us Q I r h
 obtain ⟨v, vr, e1, h⟩ := h
 subst e1
 cases r with
 | cons r rr =>
  rw [hs]
  refine assignInOrder_cons (thn (h1 pins s σ H _ _ _ I r h) fun _ s1 ⟨σ1, H1, I1, q1⟩ => ?_)
  exact h2 pins s1 σ1 H1 _ _ Q I1 rr q1
def Ox (K : PySem.W.Frag) (n : Nat) (t : TGs) : TG := fun v σ H Q => ∃ a xs, v = .ref a ∧ SqT K H a xs ∧ xs.length = n ∧ t xs σ H Q
theorem Ks {es : List Expr} {k : Nat} {t : TGs} {n : Nat} (hc : X.calm = true) (h : PGs X es t)
  (hn : (assignEach es X.env).length = n := by rfl) (hst : (assignEach es X.env).findIdx? (·.1) = none := by rfl) : PG X (.Tuple es k pos) (Ox X.K n t) := by
 intro pins s σ H v u Q I r hw
 obtain ⟨a, xs, e1, hq, hl, hw⟩ := hw
 subst e1
 cases r
 obtain ⟨its, rv, ht, hz⟩ := I.tuple hq
 refine assign_Tuple_tuple (I.ok.hd hc) ht (by simp [hn, ← hl, rv.length]) hst fun h' hx => ?_
 have I1 : Inv X pins σ H { s with heap := h' } := I.kept (t' := s.toks) fun b o e => hx b o (Nat.ne_of_lt (Heap.lt_size e)) e
 exact h pins _ σ H xs _ Q I1 (by simpa using rv) hw
def Lz (to ti : TE) (t : Ja) : TG := fun v σ H Q => to σ H fun o H1 => ti σ H1 fun i H2 => t o i v H2 fun H3 => Q σ H3
theorem Ku {o i : Expr} {to ti : TE} {t : Ja} (ho : PE X o to) (hi : PE X i ti) (hs : Jb X t)
  (ha : ∀ v, assign (.Subscript o i pos) X.env v = (do
   let ov ← holding [v] (eval o X.env)
   let iv ← holding [v, ov] (eval i X.env)
   standAt pos
   holding [v, ov, iv] (setItem ov iv v)
   release [v, ov, iv] []) := by intro _; rfl) : PG X (.Subscript o i pos) (Lz to ti t) := by
 intro pins s σ H v u Q I r h
 rw [ha]
 refine wpAny_bind (wpAny_holding (thE (ho pins s σ H _ I h) fun ov s1 x H1 I1 r1 q1 => ?_))
 refine wpAny_bind (wpAny_holding (thE (hi pins s1 σ H1 _ I1 q1) fun iv s2 y H2 I2 r2 q2 => ?_))
 refine wpAny_bind (wpAny_standAt (wpAny_bind (wpAny_holding (thn (hs pins s2 σ H2 x y v ov iv u _ I2 r1 r2 r q2) fun _ s3 ⟨H3, I3, q3⟩ => ?_))))
 exact wpAny_release ⟨σ, H3, I3, q3⟩
def tL (te : TE) (g : TG) : TS := fun D σ H => te σ H fun x H1 => g x σ H1 D.nx
theorem Kp {tg e : Expr} {te : TE} {g : TG} (he : PE X e te) (hg : PG X tg g) (hs : swapsWithSole [tg] e pos.line X.env = pure false := by rfl) (hw : swappedStores [tg] e X.env = pure none := by rfl)
  (h1 : (assignEach [tg] X.env).map (·.2) = [assign tg X.env] := by rfl) : PS X (.Assign [tg] e pos) (tL te g) := by
 intro pins s σ H D I h
 refine wpAny_Assign_stores (thE (he pins s σ H _ I h) fun v s1 x H1 I1 r1 q1 => ?_) hs hw
 rw [h1]
 exact thn (hg pins s1 σ H1 x v _ I1 r1 q1) fun _ s2 q => q
theorem Kh {i : Nat} {x : Str} {e : Expr} {te : TE} {pos' : Pos} (hN : X.N.Nodup) (hi : X.N[i]? = some x) (hx : Loc X.env.scope x) (he : PE X e te) (hs : swapsWith e (some (.Name x pos')) pos.line X.env = pure false := by rfl) (hf : X.fn x = true ∨ X.env.scope.names.lookup x = some .local := by first | exact .inl rfl | exact .inr rfl | assumption) :
  PS X (.Assign [.Name x pos'] e pos) (tL te (jj i)) := by
 intro pins s σ H D I h
 refine wpAny_Assign_Name (thE (he pins s σ H _ I h) fun v s1 y H1 I1 r1 q1 => ?_) hs
 exact jA I1 hN hi hx r1 (fun s2 I2 => ⟨_, H1, I2, q1⟩) hf
def Jz (i j : Nat) (ta : TA) : TS := fun D σ H => ta σ H fun vs H1 => ∃ v w, vs = [v, w] ∧ D.nx ((σ.set i (some v)).set j (some w)) H1
theorem Km {i j : Nat} {x y : Str} {a b : Expr} {ta : TA} {px py pt : Pos} {kt k2 pt2} (hc : X.calm = true) (hN : X.N.Nodup) (hi : X.N[i]? = some x) (hj : X.N[j]? = some y) (hij : i ≠ j)
  (hx : X.env.scope.names.lookup x = some .local) (hy : X.env.scope.names.lookup y = some .local) (ha : PA X [a, b] ta)
  (hw : swappedStores [.Tuple [.Name x px, .Name y py] kt pt] (.Tuple [a, b] k2 pt2) X.env = pure (some [x, y]))
  (hs : swapsWithSole [.Tuple [.Name x px, .Name y py] kt pt] (.Tuple [a, b] k2 pt2) pos.line X.env = pure false := by rfl) :
  PS X (.Assign [.Tuple [.Name x px, .Name y py] kt pt] (.Tuple [a, b] k2 pt2) pos) (Jz i j ta) := by
 intro pins s σ H D I h
 rw [exec_Assign_arm]
 refine wpAny_bind (wpAny_standAt ?_)
 rw [hs]
 refine wpAny_bind (wpAny_pure ?_)
 rw [if_neg (by decide)]
 refine wpAny_bind (Tuple_ (thA (ha _ pins s σ H _ I h) fun us s1 vs H1 I1 r1 q1 => ?_))
 obtain ⟨v, w, e1, q1⟩ := q1
 subst e1
 obtain ⟨u1, u2, rfl, rv, rw'⟩ : ∃ u1 u2, us = [u1, u2] ∧ RelV v u1 ∧ RelV w u2 := by
  cases r1 with
  | cons p q =>
   cases q with
   | cons p' q' =>
    cases q'
    exact ⟨_, _, rfl, p, p'⟩
 refine wpAny_newObj_type ?_ (by show 2 ≤ sizeLine; decide)
 have I2 : Inv X pins σ H1 { s1 with heap := s1.heap.push { cls := .type "tuple", data := .seq [u1, u2].toArray } } := I1.kept (t' := s1.toks) fun b o e => Heap.get?_push_of_some _ e
 rw [hw]
 refine wpAny_bind (wpAny_pure ?_)
 show wpAny (model X.prog X.w) X.A (do rule "assign.swapped-stores"; let items ← unpackItems (.ref s1.heap.objs.size) 2 none; assignInOrder [fun v => bindName X.env y v, fun v => bindName X.env x v] items.reverse; pure Flow.next) _ _ _
 refine wpAny_bind (wpAny_rule (wpAny_bind (unpackItems_tuple (items := #[u1, u2]) (I.ok.hd hc) (IsTup.new s1.heap _) fun h' hx' => ?_)))
 have I3 := I2.kept (h' := h') (t' := s1.toks) fun b o e => hx' b o (Nat.ne_of_lt (Heap.lt_size e)) e
 show wpAny _ _ (assignInOrder [fun v => bindName X.env y v, fun v => bindName X.env x v] [u2, u1] >>= fun _ => pure Flow.next) _ _ _
 refine wpAny_bind (assignInOrder_cons (wpAny_bindName (jA I3 hN hj (.inl hy) rw' (fun s2 I4 => ?_) (.inr hy))))
 refine assignInOrder_cons (wpAny_bindName (jA I4 hN hi (.inl hx) rv (fun s3 I5 => assignInOrder_nil (wpAny_pure ?_)) (.inr hx)))
 rw [List.set_comm _ _ (Ne.symm hij)] at I5
 exact ⟨_, H1, I5, q1⟩
def Oc (i : Nat) (te : TE) (ti : TIp) : TS := fun D σ H => ∃ x, σ[i]? = some (some x) ∧ te σ H fun y H1 => ti x y H1 fun z H2 => D.nx (σ.set i (some z)) H2
def ipI (f : Int → Int → Int) : TIp := fun x y H Q => ∃ i j, x = .int i ∧ y = .int j ∧ Q (.int (f i j)) H
end
structure It where
 go : Nat → Hp → Prop
 yld : Nat → Hp → V → Hp → Prop
 stop : Nat → Hp → Prop
def kh (X : Cx) (pins : List (Addr × Obj)) (H : Hp) (b : Addr) : Prop :=
 H b = none ∧ b ≠ X.env.locals ∧ b ∉ X.fs ∧ (b ∈ X.ex ∨ X.s₀.heap.objs.size ≤ b) ∧ (∀ x c, X.env.cells.lookup x = some c → c ≠ b) ∧ ∀ p ∈ X.pn ++ pins, p.1 ≠ b
theorem Inv.vU {X : Cx} {pins : List (Addr × Obj)} {σ : St} {H H' : Hp} {s : Shared} {b : Addr} (I : Inv X pins σ H s) (hb : s.heap.objs.size ≤ b) (hn : H' b = none) : kh X pins H' b := by
 refine ⟨hn, Nat.ne_of_gt (Nat.lt_of_lt_of_le I.lt hb), I.K8 hb, .inr (Nat.le_trans I.sz hb), fun x c e z => ?_, fun p hp z => ?_⟩
 ·obtain ⟨v, q⟩ := I.cell x c e
  exact absurd (Nat.lt_of_lt_of_le q.lt (by rw [z]; exact hb)) (Nat.lt_irrefl _)
 ·exact absurd (Nat.lt_of_lt_of_le (Heap.lt_size (I.pin p hp).1) (by rw [z]; exact hb)) (Nat.lt_irrefl _)
structure Turn (P : Program) (w : World) (K : PySem.W.Frag) (tg : Expr) (J : It) (fp : List Addr) (it : Addr) (tn : Nat → Heap → Prop) : Prop where
 mem : it ∈ fp
 obj : ∀ i h, tn i h → ∀ b ∈ fp, ∃ o, h.get? b = some o ∧ ∀ v, o.data ≠ .cell v
 keep : ∀ i h h', tn i h → (∀ b ∈ fp, ∀ o, h.get? b = some o → h'.get? b = some o) → tn i h'
 item : ∀ (X : Cx), X.prog = P → X.w = w → X.K = K → X.calm = true → ∀ (i : Nat) (pins : List (Addr × Obj)) (s : Shared) (σ : St) (H : Hp) (E : Value → Shared → Prop), Inv X pins σ H s → (∀ b ∈ fp, kh X pins H b) → tn i s.heap → J.go i H →
  wpAny (model P w) X.A (pyNext (.ref it)) (fun r s1 => ∃ u, r = some u ∧
   wpAny (model P w) X.A (letOwnedTupleGo tg (.ref it) u) (fun _ s2 => ∃ x H', Inv X pins σ H' s2 ∧ RelV x u ∧ J.yld i H x H' ∧ tn (i + 1) s2.heap ∧ ∀ b ∈ fp, H' b = none) E s1) E s
 done : ∀ (X : Cx), X.prog = P → X.w = w → X.K = K → X.calm = true → ∀ (i : Nat) (pins : List (Addr × Obj)) (s : Shared) (σ : St) (H : Hp) (E : Value → Shared → Prop), Inv X pins σ H s → (∀ b ∈ fp, kh X pins H b) → tn i s.heap → J.stop i H →
  wpAny (model P w) X.A (pyNext (.ref it)) (fun r s1 => r = none ∧ Inv X pins σ H s1) E s
 self : ∀ (A : Around) (i : Nat) (s : Shared) (Q : Value → Shared → Prop) (E : Value → Shared → Prop), tn i s.heap → Q (.ref it) s → wpAny (model P w) A (pyIter (.ref it)) Q E s
abbrev TI := St → Hp → (It → Hp → Prop) → Prop
def PIE (X : Cx) (pins : List (Addr × Obj)) (σ : St) (tg : Expr) (R : It → Hp → Prop) (itv : Value) (s2 : Shared) : Prop :=
 ∃ (it : Addr) (fp : List Addr) (tn : Nat → Heap → Prop) (J : It) (H' : Hp), itv = .ref it ∧ Inv X pins σ H' s2 ∧ Turn X.prog X.w X.K tg J fp it tn ∧ tn 0 s2.heap ∧ (∀ b ∈ fp, kh X pins H' b) ∧ R J H'
def PI (X : Cx) (tg iter : Expr) (wi : TI) : Prop :=
 ∀ (pins : List (Addr × Obj)) (s : Shared) (σ : St) (H : Hp) (R : It → Hp → Prop), Inv X pins σ H s → wi σ H R →
  wpAny (model X.prog X.w) X.A (eval iter X.env) (fun v s1 => wpAny (model X.prog X.w) X.A (pyIter v) (PIE X pins σ tg R) X.xe s1) X.xe s
theorem xH {M : Model} {A : Around} {E : Value → Shared → Prop} {s : Shared} {tg : Expr} {it : Addr} {u : Value} {o : Obj} {n : String} {vs : Array Value} {Q : Unit → Shared → Prop} (ho : s.heap.get? it = some o) (hc : o.cls = .type n) (hd : o.data = .fields vs)
  (hn : ["enumerate", "zip", "dict_itemiterator", "dict_reverseitemiterator", "odict_iterator", "itertools.zip_longest", "itertools.pairwise"].contains n = false) (hQ : Q () s) : wpAny M A (letOwnedTupleGo tg (.ref it) u) Q E s := by
 unfold letOwnedTupleGo
 cases tg <;> first
  | exact wpAny_pure hQ
  | (cases u <;> first
    | exact wpAny_pure hQ
    | (refine wpAny_bind (wpAny_load ho ?_)
       rw [hc, hd]
       show wpAny M A (if (["enumerate", "zip", "dict_itemiterator", "dict_reverseitemiterator", "odict_iterator", "itertools.zip_longest", "itertools.pairwise"].contains n && vs[0]? == some (rawInt _)) = true then _ else _) Q E s
       rw [if_neg (by intro h; rw [hn, Bool.false_and] at h; cases h)]
       exact wpAny_pure hQ))
def Itl (K : PySem.W.Frag) (a : Addr) : It :=
 ⟨fun i H => ∃ xs x, SqL K H a xs ∧ xs[i]? = some x, fun i H x H' => H' = H ∧ ∀ xs, SqL K H a xs → xs[i]? = some x, fun i H => ∃ xs, SqL K H a xs ∧ xs.length ≤ i⟩
def Itt (K : PySem.W.Frag) (a : Addr) : It :=
 ⟨fun i H => ∃ xs x, SqT K H a xs ∧ xs[i]? = some x, fun i H x H' => H' = H ∧ ∀ xs, SqT K H a xs → xs[i]? = some x, fun i H => ∃ xs, SqT K H a xs ∧ xs.length ≤ i⟩
def Itr (lo : Int) (n : Nat) : It := ⟨fun i _ => i < n, fun i H x H' => H' = H ∧ x = .int (lo + i), fun i _ => n ≤ i⟩
theorem yd {P : Program} {w : World} {K : PySem.W.Frag} {tg : Expr} (a it : Addr) : Turn P w K tg (Itl K a) [it] it (fun i h => h.IsListIter it a i) where
 mem := by simp
 obj := fun i h st b hb => by
  have e : b = it := by simpa using hb
  subst e
  obtain ⟨o, e, c, d⟩ := st
  exact ⟨o, e, fun v z => by rw [d] at z; cases z⟩
 keep := fun i h h' st k => st.at fun o e => k it (by simp) o e
 item := by
  intro X hP hw hK hc i pins s σ H E I hf st hg
  subst hP hw hK
  obtain ⟨xs, x, hq, hx⟩ := hg
  obtain ⟨its, rv, p, hz⟩ := I.list hq
  obtain ⟨u, hu, ru⟩ := rv.get hx
  obtain ⟨f0, f1, f2, f3, f4, f5⟩ := hf it (by simp)
  refine wpAny_pyNext_list_item st p.isList (x := u) (by simpa using hu) fun h' st' sb => ?_
  have I1 : Inv X pins σ H { s with heap := h' } := I.turned (t' := s.toks) (fun b o hb e => (sb.2 b hb).trans e) f0 f1 f3 f4 f5
  obtain ⟨o, e, c, d⟩ := id st'
  exact ⟨u, rfl, xH (s := { s with heap := h' }) e c d (by decide) ⟨x, H, I1, ru, ⟨rfl, fun ys hy => by rw [I.jT hy hq]; exact hx⟩, st', fun b hb => (hf b hb).1⟩⟩
 done := by
  intro X hP hw hK hc i pins s σ H E I hf st hg
  subst hP hw hK
  obtain ⟨xs, hq, hx⟩ := hg
  obtain ⟨its, rv, p, hz⟩ := I.list hq
  obtain ⟨f0, f1, f2, f3, f4, f5⟩ := hf it (by simp)
  have hl := rv.length
  exact wpAny_pyNext_list_end (I.ok.hd hc) st p.isList (by simp; omega) fun h' eb => ⟨rfl, I.turned (t' := s.toks) (fun b o hb e => eb b o hb e) f0 f1 f3 f4 f5⟩
 self := fun _ _ _ _ _ st h => wpAny_pyIter_listiter st h
theorem uP {P : Program} {w : World} {K : PySem.W.Frag} {tg : Expr} (a it : Addr) : Turn P w K tg (Itt K a) [it] it (fun i h => h.IsTupleIter it a i) where
 mem := by simp
 obj := fun i h st b hb => by
  have e : b = it := by simpa using hb
  subst e
  obtain ⟨o, e, c, d⟩ := st
  exact ⟨o, e, fun v z => by rw [d] at z; cases z⟩
 keep := fun i h h' st k => st.at fun o e => k it (by simp) o e
 item := by
  intro X hP hw hK hc i pins s σ H E I hf st hg
  subst hP hw hK
  obtain ⟨xs, x, hq, hx⟩ := hg
  obtain ⟨its, rv, p, hz⟩ := I.tuple hq
  obtain ⟨u, hu, ru⟩ := rv.get hx
  obtain ⟨f0, f1, f2, f3, f4, f5⟩ := hf it (by simp)
  refine wpAny_pyNext_tuple_item st (show s.heap.IsTuple a its.toArray from p) (x := u) (by simpa using hu) fun h' st' sb => ?_
  have I1 : Inv X pins σ H { s with heap := h' } := I.turned (t' := s.toks) (fun b o hb e => (sb.2 b hb).trans e) f0 f1 f3 f4 f5
  obtain ⟨o, e, c, d⟩ := id st'
  exact ⟨u, rfl, xH (s := { s with heap := h' }) e c d (by decide) ⟨x, H, I1, ru, ⟨rfl, fun ys hy => by rw [I.iK hy hq]; exact hx⟩, st', fun b hb => (hf b hb).1⟩⟩
 done := by
  intro X hP hw hK hc i pins s σ H E I hf st hg
  subst hP hw hK
  obtain ⟨xs, hq, hx⟩ := hg
  obtain ⟨its, rv, p, hz⟩ := I.tuple hq
  obtain ⟨f0, f1, f2, f3, f4, f5⟩ := hf it (by simp)
  have hl := rv.length
  exact wpAny_pyNext_tuple_end (I.ok.hd hc) st (show s.heap.IsTuple a its.toArray from p) (by simp; omega) fun h' eb => ⟨rfl, I.turned (t' := s.toks) (fun b o hb e => eb b o hb e) f0 f1 f3 f4 f5⟩
 self := fun _ _ _ _ _ st h => wpAny_pyIter_tupleiter st h
theorem uQ {P : Program} {w : World} {K : PySem.W.Frag} {tg : Expr} (it : Addr) (lo : Int) (n : Nat) : Turn P w K tg (Itr lo n) [it] it (fun i h => IsRangeIter h it (lo + (i : Nat) * 1) ((n : Int) - (i : Nat)) 1) where
 mem := by simp
 obj := fun i h st b hb => by
  have e : b = it := by simpa using hb
  subst e
  exact ⟨_, st, fun v z => by
   have z' : Data.fields _ = Data.cell v := z
   cases z'⟩
 keep := fun i h h' st k => k it (by simp) _ st
 item := by
  intro X hP hw hK hc i pins s σ H E I hf st hg
  subst hP hw hK
  obtain ⟨f0, f1, f2, f3, f4, f5⟩ := hf it (by simp)
  have W := Walks.range (prog := X.prog) (w := X.w) (I.ok.hd hc) it lo 1 n
  refine W.item i s _ _ hg st fun v h' tk hv st' kk => ?_
  obtain ⟨t, rfl⟩ := hv
  have I1 : Inv X pins σ H { s with heap := h', toks := tk } := I.turned (fun b o hb e => kk b o (by simpa using hb) e) f0 f1 f3 f4 f5
  refine ⟨_, rfl, xH (s := { s with heap := h', toks := tk }) (n := "range_iterator") st' rfl rfl (by decide) ⟨.int (lo + i), H, I1, ⟨t, ?_⟩, ⟨rfl, rfl⟩, st', fun b hb => (hf b hb).1⟩⟩
  rw [Int.mul_one]
 done := by
  intro X hP hw hK hc i pins s σ H E I hf st hg
  subst hP hw hK
  obtain ⟨f0, f1, f2, f3, f4, f5⟩ := hf it (by simp)
  exact wpAny_pyNext_range_end (I.ok.hd hc) st (by have : n ≤ i := hg; omega) fun h' eb => ⟨rfl, I.turned (t' := s.toks) (fun b o hb e => eb b o hb e) f0 f1 f3 f4 f5⟩
 self := fun _ _ _ _ _ st h => wpAny_pyIter_rangeiter st h
section
variable {X : Cx} {tg : Expr}
theorem Bl {pins : List (Addr × Obj)} {σ : St} {H : Hp} {s : Shared} {R : It → Hp → Prop} {E : Value → Shared → Prop} {lo hi : Int} {t u v : Tok} {tk : Nat} (I : Inv X pins σ H s) (h1 : -(2 ^ 62) ≤ lo) (h2 : lo < 2 ^ 62) (h3 : -(2 ^ 62) ≤ hi) (h4 : hi < 2 ^ 62)
  (q : R (Itr lo (hi - lo).toNat) H) : wpAny (model X.prog X.w) X.A (pyIter (.ref s.heap.objs.size)) (PIE X pins σ tg R) E { s with heap := s.heap.push { cls := .type "range", data := .fields #[.int lo t, .int hi u, .int 1 v] }, toks := tk } := by
 refine wpAny_pyIter_range (IsRange.new ..) (small_one h1 h2 h3 h4) ?_
 have I1 : Inv X pins σ H { s with heap := s.heap.push { cls := .type "range", data := .fields #[.int lo t, .int hi u, .int 1 v] }, toks := tk } := I.kept fun b o e => Heap.get?_push_of_some _ e
 refine ⟨(s.heap.push { cls := .type "range", data := .fields #[.int lo t, .int hi u, .int 1 v] }).objs.size, [(s.heap.push { cls := .type "range", data := .fields #[.int lo t, .int hi u, .int 1 v] }).objs.size], _, _, H, rfl,
  I1.kept (t' := tk) fun b o e => Heap.get?_push_of_some _ e, uQ _ lo (hi - lo).toNat, ?_, fun b hb => ?_, q⟩
 ·have e1 : lo + ((0 : Nat) : Int) * 1 = lo := by simp
  have e2 : (((hi - lo).toNat : Nat) : Int) - ((0 : Nat) : Int) = Builtin.Range.rangeSize lo hi 1 := by rw [rangeSize_one]; split <;> omega
  show IsRangeIter _ _ (lo + ((0 : Nat) : Int) * 1) ((((hi - lo).toNat : Nat) : Int) - ((0 : Nat) : Int)) 1
  rw [e1, e2]
  exact Heap.get?_push_size _ rfl
 ·have e : b = (s.heap.push { cls := .type "range", data := .fields #[.int lo t, .int hi u, .int 1 v] }).objs.size := by simpa using hb
  subst e
  exact I1.vU (Nat.le_refl _) (I1.hok.fresh (Nat.le_refl _))
def ql (ta : TA) : TI := fun σ H R => ta σ H fun vs H1 => ∃ j : Int, vs = [.int j] ∧ -(2 ^ 62) ≤ j ∧ j < 2 ^ 62 ∧ R (Itr 0 j.toNat) H1
theorem yL {a : Expr} {ta : TA} {p pos : Pos} (hg : Gl X "range") (hm : X.mg "range" = none) (ha : PA X [a] ta) (hs : starEach [a] X.env = [(false, eval a X.env)] := by rfl) : PI X tg (.Call (.Name "range" p) [a] [] pos) (ql ta) := by
 intro pins s σ H R I h
 refine Call_ (lA I hg hm boot_range (PyProof.Rows.callWith_type1 (thA (ha pos pins s σ H _ I h) fun us s1 vs H1 I1 r1 q1 => ?_) hs rfl))
 obtain ⟨j, e, q1, q2, q⟩ := q1
 subst e
 cases r1 with
 | cons r rr =>
  cases rr
  obtain ⟨t, rfl⟩ := r
  exact call_range_1 (Bl I1 (by omega) (by omega) q1 q2 (by simpa using q))
def JH (wi : TI) (g : TG) (tb : TS) : TS := fun D σ H => wi σ H fun J H1 => ∃ W : Nat → Nat → St → Hp → Prop, (∃ m, W 0 m σ H1) ∧ ∀ i m σ H, W i m σ H →
 (J.stop i H ∧ D.nx σ H) ∨ (J.go i H ∧ ∃ N : St → Hp → Prop, (∀ σ' H', N σ' H' → ∃ m', m' < m ∧ W (i + 1) m' σ' H') ∧ ∀ x H', J.yld i H x H' → g x σ H' fun σ2 H2 => tb { D with nx := N, ct := N, bk := D.nx } σ2 H2)
def gb (fp : List Addr) (h : Heap) : List (Addr × Obj) := fp.filterMap fun b => (h.get? b).map fun o => (b, o)
theorem gJ {fp : List Addr} {h : Heap} {b : Addr} {o : Obj} (hb : b ∈ fp) (e : h.get? b = some o) : (b, o) ∈ gb fp h := List.mem_filterMap.mpr ⟨b, hb, by rw [e]; rfl⟩
theorem lu {fp : List Addr} {h : Heap} {p : Addr × Obj} (hp : p ∈ gb fp h) : p.1 ∈ fp ∧ h.get? p.1 = some p.2 := by
 obtain ⟨b, hb, e⟩ := List.mem_filterMap.mp hp
 cases q : h.get? b with
 | none => rw [q] at e; cases e
 | some o =>
  rw [q] at e
  have e' : (b, o) = p := Option.some.inj e
  subst e'
  exact ⟨hb, q⟩
theorem Inv.pinned {pins : List (Addr × Obj)} {σ : St} {H : Hp} {s : Shared} {fp : List Addr} (I : Inv X pins σ H s) (hf : ∀ b ∈ fp, kh X pins H b) (ho : ∀ b ∈ fp, ∃ o, s.heap.get? b = some o ∧ ∀ v, o.data ≠ .cell v) : Inv X (pins ++ gb fp s.heap) σ H s :=
 I.iT fun p hp => (List.mem_append.mp hp).elim (fun z => I.pin p (List.mem_append_right _ z)) fun z => by
  obtain ⟨hb, e⟩ := lu z
  obtain ⟨f0, f1, f2, _⟩ := hf p.1 hb
  obtain ⟨o, e', d⟩ := ho p.1 hb
  rw [e] at e'; cases e'
  exact ⟨e, f0, f1, f2, d⟩
theorem Inv.gU {pins pl : List (Addr × Obj)} {σ : St} {H : Hp} {s : Shared} (I : Inv X (pins ++ pl) σ H s) : Inv X pins σ H s := I.iT fun p hp => I.pin p (List.mem_append_right _ (List.mem_append_left _ hp))
theorem Ko {iter : Expr} {body : List Stmt} {wi : TI} {g : TG} {tb : TS} {pos : Pos} (hp : PassesOwn (model X.prog X.w) X.A X.env X.xe) (hc : X.calm = true) (hi : PI X tg iter wi) (hg : PG X tg g) (hb : PSs X body tb)
  (hs : ∀ x, foldedSetIterable iter X.env x = pure x := by intro _; rfl) : PS X (.For tg iter body [] pos) (JH wi g tb) := by
 intro pins s σ H D I h
 refine wpAny_For (thn (hi pins s σ H _ I h) fun v s1 h1 => thn h1 fun itv s2 h2 => ?_) hs
 obtain ⟨it, fp, tn, J, H2, e, I2, T, st2, f2, W, ⟨m0, w0⟩, turn⟩ := h2
 subst e
 -- what stays true of the iterator's objects through the loop
 have stat : ∀ {H' : Hp}, (∀ b ∈ fp, H' b = none) → ∀ b ∈ fp, kh X pins H' b := fun hn b hb => ⟨hn b hb, (f2 b hb).2⟩
 refine codeAny_forLoop_any (fun n s' => ∃ i σ' H', Inv X pins σ' H' s' ∧ tn i s'.heap ∧ (∀ b ∈ fp, H' b = none) ∧ W i n σ' H') ?_ m0 ⟨0, σ, H2, I2, st2, fun b hb => (f2 b hb).1, w0⟩
 rintro n s3 ⟨i, σ3, H3, I3, st3, fr3, w3⟩
 rcases turn i n σ3 H3 w3 with ⟨stop, qn⟩ | ⟨go, N, hN, step⟩
 ·refine wpAny_passesOwn hp (thn (T.done X rfl rfl rfl hc i pins s3 σ3 H3 X.xe I3 (stat fr3) st3 stop) fun r s4 ⟨hr, I4⟩ => ?_)
  subst hr
  exact wpAny_execs_nil ⟨σ3, H3, I4, qn⟩
 ·refine wpAny_passesOwn hp (thn (T.item X rfl rfl rfl hc i pins s3 σ3 H3 X.xe I3 (stat fr3) st3 go) fun r s4 ⟨u, hr, h4⟩ => ?_)
  subst hr
  refine wpAny_passesOwn hp (thn h4 fun _ s5 ⟨x, H5, I5, r5, y5, st5, fr5⟩ => ?_)
  have I5' := I5.pinned (stat fr5) (T.obj _ _ st5)
  refine wpAny_passesOwn hp (thn (hg _ s5 σ3 H5 x u _ I5' r5 (step x H5 y5)) fun _ s6 ⟨σ6, H6, I6, q6⟩ => ?_)
  refine wpAny_passesOwn hp (thn (hb _ s6 σ6 H6 _ I6 q6) fun f s7 q7 => ?_)
  have again : ∀ {σ7 : St} {H7 : Hp}, Inv X (pins ++ gb fp s5.heap) σ7 H7 s7 → N σ7 H7 → ∃ m, m < n ∧ ∃ i σ' H', Inv X pins σ' H' s7 ∧ tn i s7.heap ∧ (∀ b ∈ fp, H' b = none) ∧ W i m σ' H' := fun {σ7 H7} I7 n7 => by
   obtain ⟨m', hm, w7⟩ := hN σ7 H7 n7
   refine ⟨m', hm, i + 1, σ7, H7, I7.gU, T.keep _ _ _ st5 fun b hb o e => (I7.pin (b, o) (List.mem_append_right _ (List.mem_append_right _ (gJ hb e)))).1, fun b hb => ?_, w7⟩
   obtain ⟨o, e, d⟩ := T.obj _ _ st5 b hb
   exact (I7.pin (b, o) (List.mem_append_right _ (List.mem_append_right _ (gJ hb e)))).2.1
  cases f with
  | next => obtain ⟨σ7, H7, I7, n7⟩ := q7; exact again I7 n7
  | cont => obtain ⟨σ7, H7, I7, n7⟩ := q7; exact again I7 n7
  | brk => obtain ⟨σ7, H7, I7, q7⟩ := q7; exact ⟨σ7, H7, I7.gU, q7⟩
  | ret v => obtain ⟨x7, σ7, H7, I7, r7, q7⟩ := q7; exact ⟨x7, σ7, H7, I7.gU, r7, q7⟩
end
theorem zx {lo : Int} {n : Nat} {g : TG} {tb : TS} {D : Ends} {σ : St} {H : Hp} (Pv : Nat → St → Hp → Prop) (h0 : Pv 0 σ H)
  (hs : ∀ i σ H, i < n → Pv i σ H → g (.int (lo + i)) σ H fun σ2 H2 => tb { D with nx := Pv (i + 1), ct := Pv (i + 1), bk := D.nx } σ2 H2) (hd : ∀ σ H, Pv n σ H → D.nx σ H) :
  ∃ W : Nat → Nat → St → Hp → Prop, (∃ m, W 0 m σ H) ∧ ∀ i m σ H, W i m σ H →
   ((Itr lo n).stop i H ∧ D.nx σ H) ∨ ((Itr lo n).go i H ∧ ∃ N : St → Hp → Prop, (∀ σ' H', N σ' H' → ∃ m', m' < m ∧ W (i + 1) m' σ' H') ∧ ∀ x H', (Itr lo n).yld i H x H' → g x σ H' fun σ2 H2 => tb { D with nx := N, ct := N, bk := D.nx } σ2 H2) := by
 refine ⟨fun i m σ H => m = n - i ∧ i ≤ n ∧ Pv i σ H, ⟨n, by simp, Nat.zero_le _, h0⟩, ?_⟩
 rintro i m σ H ⟨rfl, hi, p⟩
 by_cases hlt : i < n
 ·refine .inr ⟨hlt, Pv (i + 1), fun σ' H' p' => ⟨n - (i + 1), by omega, rfl, hlt, p'⟩, fun x H' y => ?_⟩
  obtain ⟨e, y⟩ := y
  subst e y
  exact hs i σ _ hlt p
 ·have e : i = n := by omega
  subst e
  exact .inl ⟨Nat.le_refl _, hd σ H p⟩
abbrev R2 := V → V → Hp → VK → Prop
def OpR (X : Cx) (f : Value → Value → Sem Value) (r : R2) : Prop :=
 ∀ (pins : List (Addr × Obj)) (s : Shared) (σ : St) (H : Hp) (x y : V) (v u : Value) (Q : VK), Inv X pins σ H s → RelV x v → RelV y u → r x y H Q →
  wpAny (model X.prog X.w) X.A (f v u) (EP X pins σ Q) X.xe s
def UnR (X : Cx) (f : Value → Sem Value) (r : V → Hp → VK → Prop) : Prop :=
 ∀ (pins : List (Addr × Obj)) (s : Shared) (σ : St) (H : Hp) (x : V) (v : Value) (Q : VK), Inv X pins σ H s → RelV x v → r x H Q →
  wpAny (model X.prog X.w) X.A (f v) (EP X pins σ Q) X.xe s
def cg (X : Cx) (f : Value) (r : List V → Hp → VK → Prop) : Prop :=
 ∀ (pins : List (Addr × Obj)) (s : Shared) (σ : St) (H : Hp) (xs : List V) (us : List Value) (Q : VK), Inv X pins σ H s → Vals xs us → r xs H Q →
  wpAny (model X.prog X.w) X.A (call f us) (EP X pins σ Q) X.xe s
def O3 (X : Cx) (r : V → Hp → (Bool → Hp → Prop) → Prop) : Prop :=
 ∀ (pins : List (Addr × Obj)) (s : Shared) (σ : St) (H : Hp) (x : V) (v : Value) (Q : Bool → Hp → Prop), Inv X pins σ H s → RelV x v → r x H Q →
  wpAny (model X.prog X.w) X.A (truthy v) (TP X pins σ Q) X.xe s
def tOp (r : R2) (ta tb : TE) : TE := fun σ H Q => ta σ H fun x H1 => tb σ H1 fun y H2 => r x y H2 Q
def tUn (r : V → Hp → VK → Prop) (ta : TE) : TE := fun σ H Q => ta σ H fun x H1 => r x H1 Q
def rI (C : Int → Int → Prop) (g : Int → Int → V) : R2 := fun x y H Q => ∃ i j, x = .int i ∧ y = .int j ∧ C i j ∧ Q (g i j) H
def rI0 (g : Int → Int → V) : R2 := fun x y H Q => ∃ i j, x = .int i ∧ y = .int j ∧ Q (g i j) H
def rU (g : Int → V) : V → Hp → VK → Prop := fun x H Q => ∃ i, x = .int i ∧ Q (g i) H
section
variable {X : Cx} {a b c : Expr} {ta tb tc : TE} {pos : Pos}
theorem Mj (ha : PE X a ta) (hb : PE X b tb) {pins : List (Addr × Obj)} {s : Shared} {σ : St} {H : Hp} {R : V → V → Hp → Prop} (I : Inv X pins σ H s)
  (h : ta σ H fun x H1 => tb σ H1 fun y H2 => R x y H2) {Q : Value → Shared → Prop} {f : Value → Value → Sem Value}
  (hf : ∀ v u s2 x y H2, Inv X pins σ H2 s2 → RelV x v → RelV y u → R x y H2 → wpAny (model X.prog X.w) X.A (f v u) Q X.xe s2) :
  wpAny (model X.prog X.w) X.A (eval a X.env) (fun v s₁ => wpAny (model X.prog X.w) X.A (eval b X.env) (fun u s₂ => wpAny (model X.prog X.w) X.A (f v u) Q X.xe s₂) X.xe s₁) X.xe s := by
 refine thE (ha pins s σ H _ I h) fun v s1 x H1 I1 r1 q1 => ?_
 refine thE (hb pins s1 σ H1 _ I1 q1) fun u s2 y H2 I2 r2 q2 => ?_
 exact hf v u s2 x y H2 I2 r1 r2 q2
theorem Nf {op : Operator} {r : R2} (ho : OpR X (binaryOp op) r) (ha : PE X a ta) (hb : PE X b tb) : PE X (.BinOp a op b pos) (tOp r ta tb) := by
 intro pins s σ H Q I h
 exact wpAny_BinOp (Mj ha hb I h fun v u s2 x y H2 I2 rx ry q => ho pins s2 σ H2 x y v u Q I2 rx ry q)
theorem M9 {op : UnaryOp} {r : V → Hp → VK → Prop} (ho : UnR X (unaryOp op) r) (ha : PE X a ta) : PE X (.UnaryOp op a pos) (tUn r ta) := by
 intro pins s σ H Q I h
 exact UnaryOp_ (thE (ha pins s σ H _ I h) fun v s1 x H1 I1 r1 q1 => ho pins s1 σ H1 x v Q I1 r1 q1)
theorem opI {f : Value → Value → Sem Value} {C : Int → Int → Prop} {g : Int → Int → Int}
  (rule : ∀ (i j : Int) (t u : Tok) (s : Shared) (Q : Value → Shared → Prop) (E : Value → Shared → Prop), C i j → Q (.int (g i j) s.toks) { s with toks := s.toks + 1 } → wpAny (model X.prog X.w) X.A (f (.int i t) (.int j u)) Q E s) :
  OpR X f (rI C fun i j => .int (g i j)) := by
 intro pins s σ H x y v u Q I rx ry h
 obtain ⟨i, j, rfl, rfl, hc, q⟩ := h
 obtain ⟨t, rfl⟩ := rx
 obtain ⟨t', rfl⟩ := ry
 exact rule i j t t' s _ _ hc ⟨.int (g i j), H, I.tok _, ⟨_, rfl⟩, q⟩
theorem Nx {f : Value → Value → Sem Value} {g : Int → Int → Int}
  (rule : ∀ (i j : Int) (t u : Tok) (s : Shared) (Q : Value → Shared → Prop) (E : Value → Shared → Prop), Q (.int (g i j) s.toks) { s with toks := s.toks + 1 } → wpAny (model X.prog X.w) X.A (f (.int i t) (.int j u)) Q E s) :
  OpR X f (rI0 fun i j => .int (g i j)) := by
 intro pins s σ H x y v u Q I rx ry h
 obtain ⟨i, j, rfl, rfl, q⟩ := h
 obtain ⟨t, rfl⟩ := rx
 obtain ⟨t', rfl⟩ := ry
 exact rule i j t t' s _ _ ⟨.int (g i j), H, I.tok _, ⟨_, rfl⟩, q⟩
theorem G7 {f : Value → Value → Sem Value} {g : Int → Int → Bool}
  (rule : ∀ (i j : Int) (t u : Tok) (s : Shared) (Q : Value → Shared → Prop) (E : Value → Shared → Prop), Q (.bool (g i j)) s → wpAny (model X.prog X.w) X.A (f (.int i t) (.int j u)) Q E s) :
  OpR X f (rI0 fun i j => .bl (g i j)) := by
 intro pins s σ H x y v u Q I rx ry h
 obtain ⟨i, j, rfl, rfl, q⟩ := h
 obtain ⟨t, rfl⟩ := rx
 obtain ⟨t', rfl⟩ := ry
 exact rule i j t t' s _ _ ⟨.bl (g i j), H, I, rfl, q⟩
def Ms (i j : Int) : Prop := 0 ≤ j ∧ j ≤ 1000000 ∧ i.natAbs < 2 ^ 64
def zT (i j : Int) : Prop := (-(2 ^ 64) < i ∧ i < 2 ^ 64) ∨ (-(2 ^ 64) < j ∧ j < 2 ^ 64)
theorem zT.ok {i j : Int} (h : zT i j) : IntMulOk i j := by
 rcases h with ⟨h1, h2⟩ | ⟨h1, h2⟩
 ·exact .of_left (intBits_le_64 h1 h2)
 ·exact .of_right (intBits_le_64 h1 h2)
theorem K5 : OpR X (binaryOp .Add) (rI0 fun i j => .int (i + j)) := Nx fun _ _ _ _ _ _ _ q => add_int q
theorem gZ : OpR X (binaryOp .Sub) (rI0 fun i j => .int (i - j)) := Nx fun _ _ _ _ _ _ _ q => sub_int q
theorem KY : OpR X (binaryOp .Mult) (rI zT fun i j => .int (i * j)) := opI fun _ _ _ _ _ _ _ hc q => mul_int q hc.ok
theorem fJ : OpR X (binaryOp .Mod) (rI (fun _ j => 0 < j) fun i j => .int (i % j)) := opI fun i j _ _ _ _ _ hc q => by
 have h1 : (0 : Int) < j := hc
 exact mod_int' (by omega) (by rw [Int.fmod_eq_emod_of_nonneg i (by omega)]; exact q)
theorem CG : OpR X (binaryOp .Pow) (rI Ms fun i j => .int (i ^ j.toNat)) := opI fun _ _ _ _ _ _ _ hc q => pow_int_small hc.1 hc.2.1 hc.2.2 q
theorem Cz : OpR X (binaryOp .LShift) (rI Ms fun i j => .int (i * 2 ^ j.toNat)) := opI fun _ _ _ _ _ _ _ hc q => lshift_int_small hc.1 hc.2.1 hc.2.2 q
theorem unI {f : Value → Sem Value} {g : Int → Int}
  (rule : ∀ (i : Int) (t : Tok) (s : Shared) (Q : Value → Shared → Prop) (E : Value → Shared → Prop), Q (.int (g i) s.toks) { s with toks := s.toks + 1 } → wpAny (model X.prog X.w) X.A (f (.int i t)) Q E s) :
  UnR X f (rU fun i => .int (g i)) := by
 intro pins s σ H x v Q I rx h
 obtain ⟨i, rfl, q⟩ := h
 obtain ⟨t, rfl⟩ := rx
 exact rule i t s _ _ ⟨.int (g i), H, I.tok _, ⟨_, rfl⟩, q⟩
theorem qH : UnR X (unaryOp .USub) (rU fun i => .int (-i)) := unI fun _ _ _ _ _ q => neg_int q
end
def lO : V → V → Bool
 | .non, .non => true | .non, .int _ => true | .int _, .non => true | .non, .bl _ => true | .bl _, .non => true | .non, .str _ => true | .str _, .non => true
 | .int _, .int _ => true | .bl _, .bl _ => true | .str _, .str _ => true | .byt _, .byt _ => true
 | .int _, .str _ => true | .str _, .int _ => true | .bl _, .str _ => true | .str _, .bl _ => true
 | _, _ => false
def rEq : R2 := fun x y H Q => lO x y = true ∧ Q (.bl (decide (x = y))) H
def rNe : R2 := fun x y H Q => lO x y = true ∧ Q (.bl (!decide (x = y))) H
theorem xT {i j : Int} : decide (V.int i = V.int j) = (i == j) := by
 rw [Bool.eq_iff_iff]
 simp
theorem DR {i j : Bool} : decide (V.bl i = V.bl j) = (i == j) := by
 rw [Bool.eq_iff_iff]
 simp
theorem xR {i j : Str} : decide (V.str i = V.str j) = (i == j) := by
 rw [Bool.eq_iff_iff]
 simp
theorem xU {i j : Array UInt8} : decide (V.byt i = V.byt j) = (i.toList == j.toList) := by
 rw [Bool.eq_iff_iff]
 cases i
 cases j
 simp
section
variable {X : Cx} {a b c : Expr} {ta tb tc : TE} {pos : Pos}
theorem aY {pins : List (Addr × Obj)} {σ : St} {H : Hp} {s : Shared} {Q : VK} {k k' : Bool} (I : Inv X pins σ H s) (q : Q (.bl k) H) (e : k = k') : EP X pins σ Q (.bool k') s := by
 subst e
 exact ⟨.bl k, H, I, rfl, q⟩
theorem Nv : OpR X (compareOp .Eq) rEq := by
 intro pins s σ H x y v u Q I rx ry h
 obtain ⟨hs, q⟩ := h
 cases x with
 | non =>
  cases rx
  cases y with
  | non => cases ry; exact PySem.EqNone.eq_none_none (aY I q (by simp))
  | bl j => cases ry; exact PySem.EqNone.eq_none_bool (aY I q (by simp))
  | int j => obtain ⟨t', rfl⟩ := ry; exact PySem.EqNone.eq_none_int (aY I q (by simp))
  | str j => obtain ⟨t', rfl⟩ := ry; exact PySem.EqNone.eq_none_str (aY I q (by simp))
  | _ => exact absurd (show false = true from hs) Bool.false_ne_true
 | bl i =>
  cases rx
  cases y with
  | non => cases ry; exact PySem.EqNone.eq_bool_none (aY I q (by simp))
  | bl j => cases ry; exact eq_bool (aY I q DR)
  | str j => obtain ⟨t', rfl⟩ := ry; exact PySem.EqMixed.eq_bool_str (aY I q (by simp))
  | _ => exact absurd (show false = true from hs) Bool.false_ne_true
 | int i =>
  obtain ⟨t, rfl⟩ := rx
  cases y with
  | non => cases ry; exact PySem.EqNone.eq_int_none (aY I q (by simp))
  | int j => obtain ⟨t', rfl⟩ := ry; exact eq_int (aY I q xT)
  | str j => obtain ⟨t', rfl⟩ := ry; exact PySem.EqMixed.eq_int_str (aY I q (by simp))
  | _ => exact absurd (show false = true from hs) Bool.false_ne_true
 | str i =>
  obtain ⟨t, rfl⟩ := rx
  cases y with
  | non => cases ry; exact PySem.EqNone.eq_str_none (aY I q (by simp))
  | bl j => cases ry; exact PySem.EqMixed.eq_str_bool (aY I q (by simp))
  | int j => obtain ⟨t', rfl⟩ := ry; exact PySem.EqMixed.eq_str_int (aY I q (by simp))
  | str j => obtain ⟨t', rfl⟩ := ry; exact eq_str (aY I q xR)
  | _ => exact absurd (show false = true from hs) Bool.false_ne_true
 | byt i =>
  obtain ⟨t, rfl⟩ := rx
  cases y with
  | byt j => obtain ⟨t', rfl⟩ := ry; exact PySem.W.eq_bytes (aY I q xU)
  | _ => exact absurd (show false = true from hs) Bool.false_ne_true
 | _ => cases y <;> exact absurd (show false = true from hs) Bool.false_ne_true
theorem Nt : OpR X (compareOp .NotEq) rNe := by
 intro pins s σ H x y v u Q I rx ry h
 obtain ⟨hs, q⟩ := h
 cases x with
 | non =>
  cases rx
  cases y with
  | non => cases ry; exact PySem.EqNone.ne_none_none (aY I q (by simp))
  | bl j => cases ry; exact PySem.EqNone.ne_none_bool (aY I q (by simp))
  | int j => obtain ⟨t', rfl⟩ := ry; exact PySem.EqNone.ne_none_int (aY I q (by simp))
  | str j => obtain ⟨t', rfl⟩ := ry; exact PySem.EqNone.ne_none_str (aY I q (by simp))
  | _ => exact absurd (show false = true from hs) Bool.false_ne_true
 | bl i =>
  cases rx
  cases y with
  | non => cases ry; exact PySem.EqNone.ne_bool_none (aY I q (by simp))
  | bl j => cases ry; exact ne_bool (aY I q (congrArg not DR))
  | str j => obtain ⟨t', rfl⟩ := ry; exact PySem.EqMixed.ne_bool_str (aY I q (by simp))
  | _ => exact absurd (show false = true from hs) Bool.false_ne_true
 | int i =>
  obtain ⟨t, rfl⟩ := rx
  cases y with
  | non => cases ry; exact PySem.EqNone.ne_int_none (aY I q (by simp))
  | int j => obtain ⟨t', rfl⟩ := ry; exact ne_int (aY I q (congrArg not xT))
  | str j => obtain ⟨t', rfl⟩ := ry; exact PySem.EqMixed.ne_int_str (aY I q (by simp))
  | _ => exact absurd (show false = true from hs) Bool.false_ne_true
 | str i =>
  obtain ⟨t, rfl⟩ := rx
  cases y with
  | non => cases ry; exact PySem.EqNone.ne_str_none (aY I q (by simp))
  | bl j => cases ry; exact PySem.EqMixed.ne_str_bool (aY I q (by simp))
  | int j => obtain ⟨t', rfl⟩ := ry; exact PySem.EqMixed.ne_str_int (aY I q (by simp))
  | str j => obtain ⟨t', rfl⟩ := ry; exact ne_str (aY I q (congrArg not xR))
  | _ => exact absurd (show false = true from hs) Bool.false_ne_true
 | byt i =>
  obtain ⟨t, rfl⟩ := rx
  cases y with
  | byt j => obtain ⟨t', rfl⟩ := ry; exact PySem.W.ne_bytes (aY I q (congrArg not xU))
  | _ => exact absurd (show false = true from hs) Bool.false_ne_true
 | _ => cases y <;> exact absurd (show false = true from hs) Bool.false_ne_true
theorem lG : OpR X (compareOp .Lt) (rI0 fun i j => .bl (decide (i < j))) := G7 fun _ _ _ _ _ _ _ q => lt_int q
theorem p7 : OpR X (compareOp .LtE) (rI0 fun i j => .bl (decide (i ≤ j))) := G7 fun _ _ _ _ _ _ _ q => le_int q
theorem Nu : OpR X (compareOp .Gt) (rI0 fun i j => .bl (decide (j < i))) := G7 fun _ _ _ _ _ _ _ q => gt_int q
theorem Jg : OpR X (compareOp .GtE) (rI0 fun i j => .bl (decide (j ≤ i))) := G7 fun _ _ _ _ _ _ _ q => ge_int q
theorem yN : OpR X (compareOp .In) (fun x y H Q => ∃ i j, x = .str i ∧ y = .str j ∧ Q (.bl (!(Builtin.Str.occurrences j i 0 j.length 1).isEmpty)) H) := by
 intro pins s σ H x y v u Q I rx ry h
 obtain ⟨i, j, rfl, rfl, q⟩ := h
 obtain ⟨t, rfl⟩ := rx
 obtain ⟨t', rfl⟩ := ry
 exact in_str (aY I q rfl)
theorem CJ : OpR X (compareOp .Is) (fun x y H Q => y = .non ∧ Q (.bl (decide (x = .non))) H) := by
 intro pins s σ H x y v u Q I rx ry h
 obtain ⟨rfl, q⟩ := h
 cases ry
 refine is_none_gen (aY I q ?_)
 cases x <;> first
  | (cases rx; rfl)
  | (obtain ⟨t, rfl⟩ := rx; rfl)
theorem aV (b : Expr) {op : CmpOp} (h : op ≠ .In := by decide) (h2 : op ≠ .NotIn := by decide) : behindInMarks op b = false := by
 have e1 : (op == CmpOp.In) = false := by cases op <;> first | rfl | exact absurd rfl h
 have e2 : (op == CmpOp.NotIn) = false := by cases op <;> first | rfl | exact absurd rfl h2
 cases b <;> simp [behindInMarks, e1, e2]
theorem GR {op : CmpOp} {r : R2} (ho : OpR X (compareOp op) r) (ha : PE X a ta) (hb : PE X b tb) (hm : behindInMarks op b = false) : PE X (.Compare a [op] [b] pos) (tOp r ta tb) := by
 intro pins s σ H Q I h
 exact wpAny_Compare1 (Mj ha hb I h fun v u s2 x y H2 I2 rx ry q => ho pins s2 σ H2 x y v u Q I2 rx ry q) hm
def tH (t : TE) : TT := fun σ H Q => t σ H fun x H' => ∃ k, x = .bl k ∧ Q k H'
theorem Gr {op : CmpOp} {r : R2} (ho : OpR X (compareOp op) r) (ha : PE X a ta) (hb : PE X b tb) (hm : behindInMarks op b = false) : PT X (.Compare a [op] [b] pos) (tH (tOp r ta tb)) := by
 intro pins s σ H Q I h
 refine wpAny_isTrue_Compare1 (thE (ha pins s σ H _ I h) fun v s1 x H1 I1 r1 q1 => thE (hb pins s1 σ H1 _ I1 q1) fun u s2 y H2 I2 r2 q2 =>
  thn (ho pins s2 σ H2 x y v u _ I2 r1 r2 q2) fun c s3 ⟨z, H3, I3, r3, k, e, q3⟩ => ?_) hm
 subst e
 cases r3
 exact wpAny_truthy_bool ⟨H3, I3, q3⟩
def mJ (r r' : R2) (ta tb tc : TE) : TE := fun σ H Q => ta σ H fun x H1 => tb σ H1 fun y H2 => r x y H2 fun z H3 => ∃ k, z = .bl k ∧
 (if k = true then tc σ H3 fun w' H4 => r' y w' H4 Q else Q (.bl false) H3)
theorem Cv {op op' : CmpOp} {r r' : R2} (ho : OpR X (compareOp op) r) (ho' : OpR X (compareOp op') r') (ha : PE X a ta) (hb : PE X b tb) (hc : PE X c tc)
  (hm : lastMarks [op, op'] [b, c] = false := by with_unfolding_all rfl) : PE X (.Compare a [op, op'] [b, c] pos) (mJ r r' ta tb tc) := by
 intro pins s σ H Q I h
 refine Compare_chain (thE (ha pins s σ H _ I h) fun v s1 x H1 I1 r1 q1 => chain_link (thE (hb pins s1 σ H1 _ I1 q1) fun u s2 y H2 I2 r2 q2 =>
  thn (ho pins s2 σ H2 x y v u _ I2 r1 r2 q2) fun d s3 ⟨z, H3, I3, r3, k, e, q3⟩ => ?_)) hm
 subst e
 cases r3
 refine wpAny_truthy_bool ?_
 cases k with
 | false => exact ite_ff ⟨.bl false, H3, I3, rfl, q3⟩
 | true => exact ite_tt (chain_last (thn (hc pins s3 σ H3 _ I3 q3) fun w' s4 ⟨z', H4, I4, r4, q4⟩ => ho' pins s4 σ H4 y z' u w' Q I4 r2 r4 q4))
theorem Cg {op op' : CmpOp} {r r' : R2} (ho : OpR X (compareOp op) r) (ho' : OpR X (compareOp op') r') (ha : PE X a ta) (hb : PE X b tb) (hc : PE X c tc)
  (hm : lastMarks [op, op'] [b, c] = false := by with_unfolding_all rfl) : PT X (.Compare a [op, op'] [b, c] pos) (tH (mJ r r' ta tb tc)) := by
 intro pins s σ H Q I h
 refine isTrue_chain (thE (ha pins s σ H _ I h) fun v s1 x H1 I1 r1 q1 => test_link (thE (hb pins s1 σ H1 _ I1 q1) fun u s2 y H2 I2 r2 q2 =>
  thn (ho pins s2 σ H2 x y v u _ I2 r1 r2 q2) fun d s3 ⟨z, H3, I3, r3, k, e, q3⟩ => ?_)) hm
 subst e
 cases r3
 refine wpAny_truthy_bool ?_
 cases k with
 | false =>
  obtain ⟨k', e', q'⟩ := q3
  cases e'
  exact ite_ff ⟨H3, I3, q'⟩
 | true =>
  refine ite_tt (test_last (thn (hc pins s3 σ H3 _ I3 q3) fun w' s4 ⟨z', H4, I4, r4, q4⟩ => thn (ho' pins s4 σ H4 y z' u w' _ I4 r2 r4 q4) fun d' s5 ⟨z2, H5, I5, r5, k2, e2, q5⟩ => ?_))
  subst e2
  cases r5
  exact wpAny_truthy_bool ⟨H5, I5, q5⟩
def O2 (K : PySem.W.Frag) (x : V) (H : Hp) (k : Bool) : Prop :=
 match x with
 | .non => k = false
 | .bl b => k = b
 | .int i => k = (i != 0)
 | .str y => y.length ≤ sizeLine ∧ k = ((y.length : Int) != 0)
 | .byt y => y.size ≤ sizeLine ∧ k = ((y.size : Int) != 0)
 | .ref p => (∃ xs, SqL K H p xs ∧ k = !xs.isEmpty) ∨ (∃ xs, SqT K H p xs ∧ k = !xs.isEmpty) ∨ ∃ kvs, H p = some (.dK kvs) ∧ k = !kvs.isEmpty
 | _ => False
theorem vJ {κ : Type} {kvs : List (κ × V)} {vs : List (κ × Value)} (r : KV kvs vs) : (!vs.isEmpty) = !kvs.isEmpty := by
 cases r <;> rfl
theorem nW {xs : List V} {its : List Value} (r : Vals xs its) : (!its.toArray.isEmpty) = !xs.isEmpty := by
 cases r <;> simp
theorem ju : (sizeLine : Nat) < 2 ^ 63 := by rw [sizeLine_eq]; decide
theorem Ju : O3 X (fun x H Q => ∃ k, O2 X.K x H k ∧ Q k H) := by
 intro pins s σ H x v Q I rx h
 obtain ⟨k, e, q⟩ := h
 have hl := ju
 have hs : sizeLine = 16777216 := sizeLine_eq
 cases x with
 | non =>
  cases rx
  have e' : k = false := e
  subst e'
  exact truthy_none ⟨H, I, q⟩
 | bl b =>
  cases rx
  have e' : k = b := e
  subst e'
  exact wpAny_truthy_bool ⟨H, I, q⟩
 | int i =>
  obtain ⟨t, rfl⟩ := rx
  have e' : k = (i != 0) := e
  subst e'
  exact PySem.P.truthy_int ⟨H, I, q⟩
 | str y =>
  obtain ⟨t, rfl⟩ := rx
  obtain ⟨hy, e'⟩ : y.length ≤ sizeLine ∧ k = ((y.length : Int) != 0) := e
  subst e'
  exact PySem.P.truthy_str (by omega) ⟨H, I.tok _, q⟩
 | byt y =>
  obtain ⟨t, rfl⟩ := rx
  obtain ⟨hy, e'⟩ : y.size ≤ sizeLine ∧ k = ((y.size : Int) != 0) := e
  subst e'
  exact PySem.W.truthy_bytes (by omega) ⟨H, I.tok _, q⟩
 | ref p =>
  cases rx
  have e' : (∃ xs, SqL X.K H p xs ∧ k = !xs.isEmpty) ∨ (∃ xs, SqT X.K H p xs ∧ k = !xs.isEmpty) ∨ ∃ kvs, H p = some (.dK kvs) ∧ k = !kvs.isEmpty := e
  rcases e' with ⟨xs, hx, e'⟩ | ⟨xs, hx, e'⟩ | ⟨kvs, hx, e'⟩
  ·subst e'
   obtain ⟨its, r, pl, hz⟩ := I.list hx
   have hlen := r.length
   exact wpAny_truthy_list pl.isList (by simp only [List.size_toArray]; omega) ⟨H, I.tok _, by rw [nW r]; exact q⟩
  ·subst e'
   obtain ⟨its, r, pl, hz⟩ := I.tuple hx
   have hlen := r.length
   exact truthy_tuple pl (by simp only [List.size_toArray]; omega) ⟨H, I.tok _, by rw [nW r]; exact q⟩
  ·subst e'
   obtain ⟨hz, hS, vs, r, m⟩ : kvs.length ≤ sizeLine ∧ (p == sysModules) = false ∧ ∃ vs, KV kvs vs ∧ s.heap.DictOf (rN X.prog X.w) p vs := I.hok p _ hx
   have hlen : kvs.length = vs.length := Paired.length r
   exact wpAny_truthy_dict hS m (by omega) ⟨H, I.tok _, by rw [vJ r]; exact q⟩
 | _ => exact (show False from e).elim
theorem vals1 {x : V} {us : List Value} (r : Vals [x] us) : ∃ u, us = [u] ∧ RelV x u := by
 cases r with
 | cons r1 r2 => cases r2; exact ⟨_, rfl, r1⟩
theorem vals2 {x y : V} {us : List Value} (r : Vals [x, y] us) : ∃ u w', us = [u, w'] ∧ RelV x u ∧ RelV y w' := by
 cases r with
 | cons r1 r2 =>
  cases r2 with
  | cons r3 r4 => cases r4; exact ⟨_, _, rfl, r1, r3⟩
theorem uK : cg X (.builtin "abs") (fun xs H Q => ∃ i, xs = [.int i] ∧ Q (.int (if i < 0 then -i else i)) H) := by
 intro pins s σ H xs us Q I r h
 obtain ⟨i, rfl, q⟩ := h
 obtain ⟨u, rfl, t, rfl⟩ := vals1 r
 exact call_abs_int fun u tk => ⟨.int (if i < 0 then -i else i), H, I.tok _, ⟨_, rfl⟩, q⟩
theorem zB (hc : X.calm = true) : cg X (.builtin "min") (fun xs H Q => ∃ i j, xs = [.int i, .int j] ∧ Q (.int (if j < i then j else i)) H) := by
 intro pins s σ H xs us Q I r h
 obtain ⟨i, j, rfl, q⟩ := h
 obtain ⟨u, w', rfl, ⟨t, rfl⟩, ⟨t', rfl⟩⟩ := vals2 r
 refine min_two_ints (I.ok.hd hc) fun h' tk k => ⟨_, H, I.kept k, ?_, q⟩
 by_cases hj : j < i
 ·rw [if_pos hj, if_pos hj]; exact ⟨_, rfl⟩
 ·rw [if_neg hj, if_neg hj]; exact ⟨_, rfl⟩
theorem qw : cg X (.type "int") (fun xs H Q => (∃ i, xs = [.int i] ∧ Q (.int i) H) ∨ ∃ k, xs = [.bl k] ∧ Q (.int (if k then 1 else 0)) H) := by
 intro pins s σ H xs us Q I r h
 rcases h with ⟨i, rfl, q⟩ | ⟨k, rfl, q⟩
 ·obtain ⟨u, rfl, t, rfl⟩ := vals1 r
  exact call_int_int ⟨.int i, H, I, ⟨_, rfl⟩, q⟩
 ·obtain ⟨u, rfl, r1⟩ := vals1 r
  cases r1
  exact call_int_bool ⟨.int (if k then 1 else 0), H, I.tok _, ⟨_, rfl⟩, q⟩
theorem sG : cg X (.type "str") (fun xs H Q => ∃ i, xs = [.int i] ∧ i.natAbs.log2 < 1920 ∧ Q (.str (toString i)) H) := by
 intro pins s σ H xs us Q I r h
 obtain ⟨i, rfl, hz, q⟩ := h
 obtain ⟨u, rfl, t, rfl⟩ := vals1 r
 exact PySem.P.str_of_int hz ⟨.str _, H, I.tok _, ⟨_, rfl⟩, q⟩
end
structure Mr (h : Heap) (x dx C : Addr) (mA : Str → Option Value) : Prop where
 obj : h.get? x = some (PySem.W.instObj C dx)
 ns : h.Ns1 dx mA
 ne : dx ≠ x
theorem zc {h : Heap} {dx : Addr} {mA : Str → Option Value} (n : h.Ns1 dx mA) : ∃ od, h.get? dx = some od ∧ ∀ name, PySem.W.lookIn name od = some (mA name) := by
 obtain ⟨o, es, ep, ho, hd, hk, _, hm⟩ := n
 refine ⟨o, ho, fun name => ?_⟩
 have e := hm name
 unfold nsFind findBy at e
 rw [← Array.find?_toList] at e
 unfold PySem.W.lookIn
 rw [hd]
 dsimp only
 split
 ·rename_i y q
  rw [q] at e
  exact congrArg some e
 ·rename_i q
  rw [q] at e
  have a : es.toList.any (·.refKey) = false := by
   rw [List.any_eq_false]
   intro y hy
   obtain ⟨z, t, hkey⟩ := hk y (Array.mem_toList_iff.mp hy)
   simp [DictEntry.refKey, hkey]
  have a' : ¬ es.toList.any (·.refKey) = true := by rw [a]; exact Bool.false_ne_true
  rw [if_neg a']
  exact congrArg some e
theorem Mr.look {h : Heap} {x dx C : Addr} {mA : Str → Option Value} (I : Mr h x dx C mA) : ∃ od, PySem.W.InstAt h x (PySem.W.instObj C dx) C (some od) ∧ ∀ name, PySem.W.lookIn name od = some (mA name) :=
 let ⟨od, ho, hl⟩ := zc I.ns
 ⟨od, ⟨I.obj, rfl, rfl, ho⟩, hl⟩
section
variable {prog : Program} {w : World} {A : Around} {E : Value → Shared → Prop} {s : Shared} {K : PySem.W.Frag} {x dx C f : Addr} {mA : Str → Option Value} {name : Str} {v : Value}
end
section
variable {P : Program} {w : World} {H H' : Hp} {h h' : Heap} {a C dx : Addr} {fs fs' : List (Str × V)}
theorem Ib (hok : HOk P w H h) (e : H a = some (.ins C dx fs)) : ∃ mA, Mr h a dx C mA ∧ (∀ f, Mq (fs.lookup f) (mA f)) ∧ PySem.Within mA (fs.map (·.1)) ∧ fs.length ≤ 1000 ∧ H dx = some (.own a) := by
 obtain ⟨d, z, ne, ob, mA, n, r, q⟩ := (show bT P w H h a (.ins C dx fs) from hok a _ e)
 exact ⟨mA, ⟨ob, n, ne⟩, r, q, z, d⟩
end
structure Cls (K : PySem.W.Frag) (C : Addr) : Prop where
 pg : PySem.W.plainGet K C Str.empty = true
 hd : PySem.W.hasDictIn K C = true
 po : PySem.W.plainOver K C = true
 sa : PySem.W.findIn K (.ref C) "__setattr__" = some (some (.builtin "object.__setattr__"))
theorem Cls.get {K : PySem.W.Frag} {C : Addr} (c : Cls K C) (f : Str) : PySem.W.plainGet K C f = true := c.pg
section
variable {X : Cx} {pins : List (Addr × Obj)} {σ : St} {H : Hp} {s : Shared} {a C dx : Addr} {fs : List (Str × V)} {f : Str} {v : V} {A : Around} {E : Value → Shared → Prop}
end
section
variable {X : Cx} {o e value : Expr} {f : Str} {pos pos' tpos : Pos} {ta tv : TE}
end
section
variable {X : Cx} {pins : List (Addr × Obj)} {σ : St} {H : Hp} {s : Shared} {A : Around} {E : Value → Shared → Prop} {Q : Value → Shared → Prop} {c : Value} {b : Bool}
inductive jd (K : PySem.W.Frag) (H : Hp) : V → Value → Prop where
 | non : jd K H .non (.type "NoneType")
 | bl (x : Bool) : jd K H (.bl x) (.type "bool")
 | int (i : Int) : jd K H (.int i) (.type "int")
 | str (x : Str) : jd K H (.str x) (.type "str")
 | flt (x : UInt64) : jd K H (.flt x) (.type "float")
 | lst {a : Addr} {xs : List V} (e : H a = some (.lst xs)) : jd K H (.ref a) (.type "list")
 | frz {a : Addr} {o : Obj} {xs : List V} (e : H a = some (.frz o (.lst xs))) : jd K H (.ref a) (.type "list")
 | tup {a : Addr} {xs : List V} (e : H a = some (.tup xs)) : jd K H (.ref a) (.type "tuple")
 | dK {a : Addr} {kvs : List (Key × V)} (e : H a = some (.dK kvs)) : jd K H (.ref a) (.type "dict")
 | dT {a : Addr} {kvs : List (List Key × V)} (e : H a = some (.dT kvs)) : jd K H (.ref a) (.type "dict")
 | ins {a C dx : Addr} {fs : List (Str × V)} (e : H a = some (.ins C dx fs)) (cl : Cls K C) (ha : PySem.W.findIn K (.ref C) "__class__" = some (some (.builtin "object.__class__")))
   (hn : PySem.W.specialIn K (.builtin "object.__class__") "__get__" = some (some (.builtin "getset_descriptor.__get__"))) (htk : PySem.W.takesIn K (.builtin "object.__class__") = some true)
   (hm : PySem.W.mroIn K C (.type "object") = some true) : jd K H (.ref a) (.ref C)
theorem zj {x : V} {u t : Value} (I : Inv X pins σ H s) (rx : RelV x u) (ty : jd X.K H x t) (e : PySem.W.kitOne X.K t c = some b) (h : ∀ tk, Q (.bool b) { s with toks := tk }) :
  wpAny (model X.prog X.w) A (call (.builtin "isinstance") [u, c]) Q E s := by
 cases ty with
 | non => cases (show u = Value.none from rx); exact PySem.W.kia_one PySem.W.kitx_none I.kIn True.intro e (fun z => nomatch z) h
 | bl y => cases (show u = Value.bool y from rx); exact PySem.W.kia_one PySem.W.kitx_bool I.kIn True.intro e (fun z => nomatch z) h
 | int i => obtain ⟨t, q⟩ := (show ∃ t, u = Value.int i t from rx); cases q; exact PySem.W.kia_one PySem.W.kitx_int I.kIn True.intro e (fun z => nomatch z) h
 | str y => obtain ⟨t, q⟩ := (show ∃ t, u = Value.str y t from rx); cases q; exact PySem.W.kia_one PySem.W.kitx_str I.kIn True.intro e (fun z => nomatch z) h
 | flt y => obtain ⟨t, q⟩ := (show ∃ t, u = Value.float y t from rx); cases q; exact PySem.W.kia_one PySem.W.kitx_float I.kIn True.intro e (fun z => nomatch z) h
 | @lst a xs ea =>
  cases (show u = Value.ref a from rx)
  obtain ⟨_, _, n, _, h1⟩ := (show bT X.prog X.w H s.heap a (.lst xs) from I.hok a _ ea)
  exact PySem.W.kia_one PySem.W.kitx_list I.kIn ⟨_, h1, rfl⟩ e (fun z => nomatch z) h
 | @frz a ob xs ea =>
  cases (show u = Value.ref a from rx)
  obtain ⟨_, _, _, n, _, h1⟩ := (show bT X.prog X.w H s.heap a (.frz ob (.lst xs)) from I.hok a _ ea)
  exact PySem.W.kia_one PySem.W.kitx_list I.kIn ⟨_, h1, rfl⟩ e (fun z => nomatch z) h
 | @tup a xs ea =>
  cases (show u = Value.ref a from rx)
  obtain ⟨_, _, _, p⟩ := (show bT X.prog X.w H s.heap a (.tup xs) from I.hok a _ ea)
  obtain ⟨o, h1, h2, _⟩ := p
  exact PySem.W.kia_one PySem.W.kitx_tuple I.kIn ⟨o, h1, h2⟩ e (fun z => nomatch z) h
 | @dK a kvs ea =>
  cases (show u = Value.ref a from rx)
  obtain ⟨_, _, vs, _, p⟩ := (show bT X.prog X.w H s.heap a (.dK kvs) from I.hok a _ ea)
  obtain ⟨o, es, ep, h1, h2, _⟩ := p
  exact PySem.W.kia_one PySem.W.kitx_dict I.kIn ⟨o, h1, h2.1⟩ e (fun z => nomatch z) h
 | @dT a kvs ea =>
  cases (show u = Value.ref a from rx)
  obtain ⟨_, _, xs, _, o, es, ep, h1, h2, _⟩ := (show bT X.prog X.w H s.heap a (.dT kvs) from I.hok a _ ea)
  exact PySem.W.kia_one PySem.W.kitx_dict I.kIn ⟨o, h1, h2.1⟩ e (fun z => nomatch z) h
 | @ins a C dx fs ea cl ha hn htk hm =>
  cases (show u = Value.ref a from rx)
  obtain ⟨mA, O, _⟩ := Ib I.hok ea
  obtain ⟨od, J, _⟩ := O.look
  exact PySem.W.kia_one (PySem.W.kitx_own (cl.get _) cl.hd ha hn htk hm) I.kIn J e (fun z => nomatch z) h
end
structure eY (k : Nat) (A : Around) : Prop where
 hd : A.handled = none
 dp : A.depth + 3 * k + 5 < recursionLimit
 un : A.units + 16 * k + 200 < cLine
 gd : A.guards = some []
theorem eY.mono {j k : Nat} {A : Around} (r : eY k A) (h : j ≤ k) : eY j A := ⟨r.hd, by have := r.dp; omega, by have := r.un; omega, r.gd⟩
theorem eY.deeper {k : Nat} {A : Around} (r : eY (k + 1) A) (env : Env) : eY k (A.deeper env) :=
 ⟨r.hd, by have := r.dp; show A.depth + 1 + 3 * k + 5 < _; omega, by have := r.un; show A.units + 3 + 16 * k + 200 < _; omega, r.gd⟩
theorem eY.depth {k : Nat} {A : Around} (r : eY k A) : A.depth < recursionLimit := by have := r.dp; omega
theorem eY.bN {k : Nat} {A : Around} (r : eY k A) : A.units < cLine := by have := r.un; omega
def JC : TA := fun _ H Q => Q [] H
def Aj (ta : TE) (tr : TA) : TA := fun σ H Q => ta σ H fun x H1 => tr σ H1 fun xs H2 => Q (x :: xs) H2
section
variable {X : Cx} {e : Expr} {es : List Expr} {te : TE} {t : TA} {pos : Pos}
theorem KQ : PA X [] JC := fun _ _ _ _ H Q I h => Calls.spliced_nil ⟨[], H, I, .nil, h⟩
theorem G4 (ha : PE X e te) (hr : PA X es t) (hs : starEach (e :: es) X.env = (false, eval e X.env) :: starEach es X.env := by rfl) : PA X (e :: es) (Aj te t) := by
 intro pos pins s σ H Q I h
 rw [hs]
 show wpAny _ _ (spliced ((false, eval e X.env) :: backTo pos (starEach es X.env))) _ _ s
 refine Calls.spliced_cons (thE (ha pins s σ H _ I h) fun u s1 x H1 I1 r1 q1 => ?_)
 exact thA (hr pos pins s1 σ H1 _ I1 q1) fun us s2 xs H2 I2 r2 q2 => ⟨x :: xs, H2, I2, .cons r1 r2, q2⟩
def Jv (t : TA) : TE := fun σ H Q => t σ H fun xs H1 => xs.length ≤ sizeLine ∧ ∀ p, H1 p = none → Q (.ref p) (upd H1 p (.tup xs))
def JD (t : TA) : TE := fun σ H Q => t σ H fun xs H1 => xs.length ≤ sizeLine ∧ ∀ p, H1 p = none → Q (.ref p) (upd H1 p (.lst xs))
theorem Kv {x1} (h : PA X es t) : PE X (.Tuple es x1 pos) (Jv t) := by
 intro pins s σ H Q I hq
 refine wpAny_Tuple_spliced (thn (h pos pins s σ H _ I hq) fun us s1 ⟨xs, H1, I1, r, z, q⟩ => ⟨by rw [← r.length]; exact z, ?_⟩)
 have hf : H1 s1.heap.objs.size = none := I1.hok.fresh (Nat.le_refl _)
 refine ⟨.ref s1.heap.objs.size, upd H1 s1.heap.objs.size (.tup xs), I1.laid (t' := s1.toks) (fun b u e => Heap.get?_push_of_some _ e) (Nat.le_refl _) ?_, rfl, q _ hf⟩
 exact ⟨z, us, r, ⟨_, Heap.get?_push_size _ rfl, rfl, _, rfl⟩⟩
theorem KD (h : PA X es t) : PE X (.List es pos) (JD t) := by
 intro pins s σ H Q I hq
 refine wpAny_List_spliced (thn (h pos pins s σ H _ I hq) fun us s1 ⟨xs, H1, I1, r, z, q⟩ => ⟨by rw [← r.length]; exact z, ?_⟩)
 have hf : H1 s1.heap.objs.size = none := I1.hok.fresh (Nat.le_refl _)
 refine ⟨.ref s1.heap.objs.size, upd H1 s1.heap.objs.size (.lst xs), I1.laid (t' := s1.toks) (fun b u e => Heap.get?_push_of_some _ e) (Nat.le_refl _) ?_, rfl, q _ hf⟩
 exact ⟨z, us, 0, r, Heap.get?_push_size _ rfl⟩
end
abbrev Sp := List V → Hp → VK → XK → Prop
abbrev CXT := List Env → Hp → Shared → XK → Value → Shared → Prop
structure Jc (P : Program) (w : World) (K : PySem.W.Frag) (mg : Str → Option Value) (base : Heap) (A : Around) (outer : List Env) (s : Shared) (H : Hp) : Prop where
 frames : A.frames = some outer
 mod : Mod K mg base
 bs : ∀ b o, base.get? b = some o → s.heap.get? b = some o ∧ H b = none
 bsz : base.objs.size ≤ s.heap.objs.size
 lZ : s.heap.FunFrames base outer
 frf : ∀ b ∈ frs outer, H b = none
 hok : HOk P w H s.heap
 bare : AllBare s.gens
def CE (outer : List Env) (P : Program) (w : World) (H : Hp) (s : Shared) (Q : VK) (u : Value) (s' : Shared) : Prop :=
 ∃ v H', s'.os = s.os ∧ AllBare s'.gens ∧ Un (frs outer) [] H H' s.heap s'.heap ∧ HOk P w H' s'.heap ∧ RelV v u ∧ Q v H'
def CR (CX : CXT) (outer : List Env) (P : Program) (w : World) (H : Hp) (s : Shared) (Q : VK) (E : XK) (r : Result) (s' : Shared) : Prop :=
 match r with
 | .ok (.ret u) => CE outer P w H s Q u s'
 | .ok _ => False
 | .error e => CX outer H s E e s'
structure dj (P : Program) (w : World) (K : PySem.W.Frag) (mg : Str → Option Value) (base : Heap) (CX : CXT) (k : Nat) (f : Addr) (fd : FuncData) (ps : List Str) (sp : Sp) : Prop where
 len : ∀ vs H Q E, sp vs H Q E → vs.length = ps.length
 run : ∀ (A : Around) (outer : List Env) (s : Shared) (H : Hp) (args : Args) (us : List Value) (vs : List V) (Q : VK) (E : XK), eY k A → Jc P w K mg base A outer s H → BindsTo s fd args (ps.zip us) → Vals vs us → sp vs H Q E →
  codeAny (model P w) A (.call (.ref f) args) (CR CX outer P w H s Q E) s
section
variable {X : Cx} {pins : List (Addr × Obj)} {σ : St} {H : Hp} {s s' : Shared}
theorem Inv.env0 (I : Inv X pins σ H s) : Jc X.prog X.w X.K X.mg X.base X.A X.stack s H :=
 ⟨I.ok.frames, I.ok.mod, I.bs, Nat.le_trans I.ok.bsz I.sz, I.stack, I.wB, I.hok, I.bare⟩
theorem Inv.after {Q : VK} {u : Value} (I : Inv X pins σ H s) (h : CE X.stack X.prog X.w H s Q u s') : EP X pins σ Q u s' := by
 obtain ⟨v, H', os, bare, un, hok, r, q⟩ := h
 obtain ⟨hh, g, d, t, os'⟩ := s'
 obtain rfl : os' = s.os := os
 exact ⟨v, H', I.call (h' := hh) (g' := g) (d' := d) (t' := t) (ch := []) un hok bare (fun b z => absurd z (by simp)), r, q⟩
end
def tK (sp : Sp) (dvs : List V) (E : XK) (t : TA) : TE := fun σ H Q => t σ H fun vs H1 => sp (vs ++ dvs) H1 Q E
def Binds (K : PySem.W.Frag) (fd : FuncData) (ps : List Str) (ds : List Value) : Prop :=
 ∀ (s : Shared) (us : List Value), K.In s.heap → (us ++ ds).length = ps.length → BindsTo s fd ⟨us, []⟩ (ps.zip (us ++ ds))
theorem Binds.all {K : PySem.W.Frag} {fd : FuncData} {ps : List Str} (h : ∀ us : List Value, us.length = ps.length → bindArgs fd ⟨us, []⟩ = pure (ps.zip us)) : Binds K fd ps [] := fun s us _ hl => by
 rw [List.append_nil] at hl ⊢
 exact .of_eq (h us hl)
def wk (CX : CXT) (X : Cx) (E : XK) : Prop := ∀ (pins : List (Addr × Obj)) (σ : St) (H : Hp) (s : Shared) (e : Value) (s' : Shared), Inv X pins σ H s → CX X.stack H s E e s' → X.xe e s'
section
variable {X : Cx} {CX : CXT} {k : Nat} {f C : Addr} {fd : FuncData} {ps : List Str} {sp : Sp} {dvs : List V} {ds : List Value} {E : XK} {x m : Str} {p pos apos : Pos} {e o : Expr} {es : List Expr} {ta : TE} {t : TA}
theorem JV {pins : List (Addr × Obj)} {σ : St} {H : Hp} {s : Shared} {Q : VK} {us : List Value} {vs : List V} (F : dj X.prog X.w X.K X.mg X.base CX k f fd ps sp) (hr : eY k X.A) (hb : Binds X.K fd ps ds) (hd : Vals dvs ds) (hx : wk CX X E)
  (I : Inv X pins σ H s) (r : Vals vs us) (h : sp (vs ++ dvs) H Q E) : wpAny (model X.prog X.w) X.A (call (.ref f) us) (EP X pins σ Q) X.xe s := by
 have r2 : Vals (vs ++ dvs) (us ++ ds) := r.append hd
 have hl : (us ++ ds).length = ps.length := by rw [← r2.length]; exact F.len _ _ _ _ h
 refine wpAny_call (codeAny_mono (F.run X.A X.stack s H ⟨us, []⟩ (us ++ ds) (vs ++ dvs) Q E hr I.env0 (hb s us I.kIn hl) r2 h) fun r s' hq => ?_)
 cases r with
 | error e => exact hx pins σ H s e s' I hq
 | ok fl =>
  cases fl with
  | ret u => exact I.after hq
  | next => exact False.elim hq
  | brk => exact False.elim hq
  | cont => exact False.elim hq
theorem GX (F : dj X.prog X.w X.K X.mg X.base CX k f fd ps sp) (hr : eY k X.A) (hg : Gl X x) (hm : X.mg x = some (.ref f)) (hk : PySem.W.keepIn X.K (.ref f) = true) (hb : Binds X.K fd ps ds) (hd : Vals dvs ds) (hx : wk CX X E)
  (ha : PA X (e :: es) t) (hdb : (x == ("__debug__" : Str)) = false := by decide) (he : starEach (e :: es) X.env = (false, eval e X.env) :: starEach es X.env := by rfl) (hpl : (backTo pos (starEach es X.env)).any (·.1) = false := by rfl) :
  PE X (.Call (.Name x p) (e :: es) [] pos) (tK sp dvs E t) := by
 intro pins s σ H Q I h
 refine wpAny_Call_Name_kw (xg I hg hm ?_ hdb)
 refine PySem.W.callWith_K (h₀ := X.base) I.ok.mod.kin hk (thA (ha pos pins s σ H _ I h) fun us s1 vs H1 I1 r q => ⟨I1.kIn, ?_⟩) he hpl
 exact JV F hr hb hd hx I1 r q
end
section
variable {X : Cx} {CX : CXT} {k : Nat} {f C : Addr} {fd : FuncData} {ps ks : List Str} {sp : Sp} {E : XK} {x m : Str} {p pos apos kpos : Pos} {e o : Expr} {es : List Expr} {kws : List Keyword} {te ta : TE} {t tk : TA} {nm : Option Str}
variable {g : List Value → List Value → List Value} {gV : List V → List V → List V}
end
structure bB (N P : List Str) (sc : Scope) : Prop where
 kind : sc.kind = .function
 co : sc.isCoroutine = false
 gen : sc.isGenerator = false
 nd : N.Nodup
 pre : N.take P.length = P
 par : ∀ x ∈ P, sc.names.lookup x = some .local ∨ sc.names.lookup x = some .cell
 nofree : ∀ y ∈ sc.names, y.2 ≠ .free
theorem qx {kindOf : Str → Option NameKind} {x : Str} : ∀ {binds : List (Str × Value)} {m : Str → Option Value}, (∀ v, (x, v) ∉ binds) → bindL kindOf binds m x = m x
 | [], _, _ => rfl
 | (n, v) :: r, m, h => by
  unfold bindL
  rw [qx fun w hw => h w (List.mem_cons_of_mem _ hw)]
  split
  ·have : x ≠ n := by rintro rfl; exact h v List.mem_cons_self
   simp [this]
  ·rfl
theorem qz {kindOf : Str → Option NameKind} {x : Str} : ∀ {binds : List (Str × Value)} {m : Str → Option Value}, (∀ v, (x, v) ∉ binds) → bindC kindOf binds m x = m x
 | [], _, _ => rfl
 | (n, v) :: r, m, h => by
  unfold bindC
  rw [qz fun w hw => h w (List.mem_cons_of_mem _ hw)]
  split
  ·rfl
  ·have : x ≠ n := by rintro rfl; exact h v List.mem_cons_self
   simp [this]
theorem qy {kindOf : Str → Option NameKind} {x : Str} {v : Value} : ∀ {P : List Str} {vs : List Value} {i : Nat} {m : Str → Option Value}, P.Nodup → P[i]? = some x → vs[i]? = some v → kindOf x = some .local →
  bindL kindOf (P.zip vs) m x = some v
 | [], _, _, _, _, h, _, _ => by simp at h
 | _ :: _, [], _, _, _, _, h, _ => by simp at h
 | p :: P, w :: vs, 0, m, nd, h1, h2, hk => by
  simp at h1 h2; subst h1; subst h2
  show bindL kindOf ((p, w) :: P.zip vs) m p = _
  unfold bindL
  rw [qx fun v hv => (List.nodup_cons.mp nd).1 (List.of_mem_zip hv).1, if_pos hk]
  simp
 | p :: P, w :: vs, i + 1, m, nd, h1, h2, hk => by
  show bindL kindOf ((p, w) :: P.zip vs) m x = _
  unfold bindL
  exact qy (i := i) (List.nodup_cons.mp nd).2 (by simpa using h1) (by simpa using h2) hk
theorem qC {kindOf : Str → Option NameKind} {x : Str} {v : Value} : ∀ {P : List Str} {vs : List Value} {i : Nat} {m : Str → Option Value}, P.Nodup → P[i]? = some x → vs[i]? = some v → kindOf x ≠ some .local →
  bindC kindOf (P.zip vs) m x = some v
 | [], _, _, _, _, h, _, _ => by simp at h
 | _ :: _, [], _, _, _, _, h, _ => by simp at h
 | p :: P, w :: vs, 0, m, nd, h1, h2, hk => by
  simp at h1 h2; subst h1; subst h2
  show bindC kindOf ((p, w) :: P.zip vs) m p = _
  unfold bindC
  rw [qz fun v hv => (List.nodup_cons.mp nd).1 (List.of_mem_zip hv).1, if_neg hk]
  simp
 | p :: P, w :: vs, i + 1, m, nd, h1, h2, hk => by
  show bindC kindOf ((p, w) :: P.zip vs) m x = _
  unfold bindC
  exact qC (i := i) (List.nodup_cons.mp nd).2 (by simpa using h1) (by simpa using h2) hk
def start (N : List Str) (vs : List V) : St := vs.map some ++ List.replicate (N.length - vs.length) none
def vV (CX : CXT) (P : Program) (w : World) (K : PySem.W.Frag) (mg : Str → Option Value) (base : Heap) (N : List Str) (qual : Str) (scope : Scope) (f : Addr) (cd : Value) (A : Around) (outer : List Env) (s : Shared) (H : Hp) (E : XK) : Cx where
 prog := P
 w := w
 K := K
 mg := mg
 base := base
 A := A.deeper (envOfC qual scope s.heap.objs.size f cd)
 N := N
 s₀ := s
 H₀ := H
 env := envOfC qual scope s.heap.objs.size f cd
 outer := outer
 stack := envOfC qual scope s.heap.objs.size f cd :: outer
 ex := []
 calm := true
 fn := fun _ => true
 pn := []
 xe := fun e s' => wpAny (model P w) (A.deeper (envOfC qual scope s.heap.objs.size f cd)) (leaving (envOfC qual scope s.heap.objs.size f cd) e) (fun _ s'' => CX outer H s E e s'') (fun e' s'' => CX outer H s E e' s'') s'
theorem uI {sc : Scope} {n : Nat} {x : Str} (h : sc.names.lookup x = some .cell) : ∃ c, (cellsFrom n sc.names []).lookup x = some c := by
 have q := PySem.W.cellsFrom_some sc.names n [] (.inl h)
 exact Option.isSome_iff_exists.mp q
theorem zm {CX : CXT} {P : Program} {w : World} {K : PySem.W.Frag} {mg : Str → Option Value} {base : Heap} {N ps : List Str} {qual : Str} {scope : Scope} {f : Addr} {cd : Value} {A : Around} {outer : List Env} {s s1 : Shared} {H : Hp} {E : XK} {us : List Value} {vs : List V}
  (S : bB N ps scope) (hd : A.handled = none) (e0 : Jc P w K mg base A outer s H) (hl : vs.length = ps.length) (r : Vals vs us)
  (x : InCallC s s.heap.objs.size (bindL (envOfC qual scope s.heap.objs.size f cd).kindOf (ps.zip us) fun _ => none) (cellsFrom (s.heap.objs.size + 1) scope.names []) (bindC (envOfC qual scope s.heap.objs.size f cd).kindOf (ps.zip us) fun _ => none) s1) :
  Inv (vV CX P w K mg base N qual scope f cd A outer s H E) [] (start N vs) H s1 := by
 have hpl : ps.length ≤ N.length := by have := congrArg List.length S.pre; rw [List.length_take] at this; omega
 obtain ⟨h1, tk, rfl, hk⟩ := x.done
 have noA : ∀ b : Addr, b ∉ (vV CX P w K mg base N qual scope f cd A outer s H E).ex := fun b z => absurd (show b ∈ ([] : List Addr) from z) (by simp)
 refine ⟨⟨e0.mod, S.kind, rfl, rfl, Nat.le_refl _, fun y z c h1 h2 => ?_, fun y hy => ?_, fun y c _ h => ?_, fun _ => hd, Around.frames_deeper e0.frames, .inr ⟨rfl, rfl⟩, fun b z => absurd z (noA b), e0.bs, e0.bsz, fun b _ _ => noA b, fun b z => absurd z (noA b), e0.lZ, e0.frf⟩,
  rfl, e0.bare, Un.kept hk, ⟨_, x.toInCall.ns, fun i y v h1 h2 h3 => ?_⟩, fun y c h => ⟨_, x.cell y c h⟩, e0.hok.fresh (Nat.le_refl _), fun y c h => ?_, fun p hp => absurd (show p ∈ ([] : List (Addr × Obj)) from hp) (by simp), e0.hok.kept hk, ?_⟩
 ·exact name_of_addr x.apart (PySem.mem_of_lookup h1) (PySem.mem_of_lookup h2)
 ·have hy : scope.names.lookup y = some .cell ∨ scope.names.lookup y = some .free := hy
  rcases hy with hy | hy
  ·exact uI hy
  ·exact absurd rfl (S.nofree _ (PySem.mem_of_lookup hy))
 ·exact Nat.le_of_lt (x.above y c (PySem.mem_of_lookup h))
 ·have hi : i < vs.length := by
   unfold start at h2
   by_cases hi : i < vs.length
   ·exact hi
   ·rw [List.getElem?_append_right (by simpa using hi)] at h2
    rw [List.getElem?_replicate] at h2
    split at h2 <;> cases h2
  have ha : vs[i]? = some v := by
   unfold start at h2
   rw [List.getElem?_append_left (by simpa using hi), List.getElem?_map] at h2
   cases e : vs[i]? with
   | none => rw [e] at h2; cases h2
   | some a => rw [e] at h2; cases h2; rfl
  obtain ⟨u, hu, rv⟩ := r.get ha
  have hp : ps[i]? = some y := by
   rw [← S.pre, List.getElem?_take_of_lt (by omega)]; exact h1
  have ndP : ps.Nodup := by rw [← S.pre]; exact S.nd.sublist (List.take_sublist _ _)
  refine ⟨u, rv, ?_⟩
  rcases S.par y (List.mem_of_getElem? hp) with k | k
  ·exact .inl ⟨k, qy ndP hp hu k⟩
  ·obtain ⟨c, e⟩ := uI (n := s.heap.objs.size + 1) k
   refine .inr ⟨.inl k, c, e, ?_⟩
   have q := x.cell y c e
   rw [qC ndP hp hu (by show scope.names.lookup y ≠ _; rw [k]; decide)] at q
   exact q
 ·exact e0.hok.fresh (Nat.le_of_lt (x.above y c (PySem.mem_of_lookup h)))
 ·unfold start
  show _ = N.length
  rw [List.length_append, List.length_map, List.length_replicate]
  omega
theorem N6 {CX : CXT} {P : Program} {w : World} {K : PySem.W.Frag} {mg : Str → Option Value} {base : Heap} {k : Nat} {f : Addr} {name qual : Str} {params : Arguments} {body : List Stmt} {scope : Scope} {dV kV doc pm cdv ct oc : Value} {an od : Option Addr}
  {osl : Array (Option Value)} {N ps : List Str} {sp : Sp} (lk : K.lookup f = some ⟨oc, od, .func (PySem.W.fnOf name qual params body scope dV kV doc pm an cdv ct), osl⟩) (hcd : PySem.W.codeIn K cdv qual = true) (S : bB N ps scope)
  (len : ∀ vs H Q E, sp vs H Q E → vs.length = ps.length)
  (hbody : ∀ (A : Around) (outer : List Env) (s : Shared) (H : Hp) (vs : List V) (Q : VK) (E : XK), eY k (A.deeper (envOfC qual scope s.heap.objs.size f cdv)) → sp vs H Q E →
   ∃ t, PSs (vV CX P w K mg base N qual scope f cdv A outer s H E) body t ∧ t { nx := fun _ H' => Q .non H', rt := Q } (start N vs) H) :
  dj P w K mg base CX (k + 1) f (PySem.W.fnOf name qual params body scope dV kV doc pm an cdv ct) ps sp := by
 refine ⟨len, fun A outer s H args us vs Q E hr e0 hb r hsp => ?_⟩
 have hl := len _ _ _ _ hsp
 have KX : K.In s.heap := e0.mod.kin.keeps fun b o e => (e0.bs b o e).1
 have lim : s.heap.NoLimit := e0.mod.nolimit.keeps fun b o e => (e0.bs b o e).1
 have hkind : ∀ y ∈ ps.zip us, scope.names.lookup y.1 = some .local ∨ (scope.names.lookup y.1 = some .cell ∧ ((cellsFrom (s.heap.objs.size + 1) scope.names []).lookup y.1).isSome = true) := fun ⟨n, v⟩ hy => by
  rcases S.par n (List.of_mem_zip hy).1 with q | q
  ·exact .inl q
  ·exact .inr ⟨q, PySem.W.cellsFrom_some _ _ _ (.inl q)⟩
 refine codeAny_call_function hr.depth (KX _ _ lk) rfl S.co S.gen rfl (PySem.W.codeRec_of KX hcd) (hb _ _ _ _ ?_)
 refine wpAny_newFunctionEnv_cells S.kind hkind fun env he s1 x => ?_
 subst he
 refine ⟨lim.keeps x.toInCall.keep, codeAny_func ?_⟩
 obtain ⟨t, ht, hq⟩ := hbody A outer s H vs Q E (hr.deeper _) hsp
 have I : Inv (vV CX P w K mg base N qual scope f cdv A outer s H E) [] (start N vs) H s1 := zm S hr.hd e0 hl r x
 refine wpAny_mono (ht [] s1 (start N vs) H _ I hq) (fun fl s' hs => ?_) fun e s' hs => hs
 have fin : ∀ {σ' : St} {H' : Hp} {v : V} {u : Value}, Inv (vV CX P w K mg base N qual scope f cdv A outer s H E) [] σ' H' s' → RelV v u → Q v H' → CE outer P w H s Q u s' :=
  fun {σ' H' v u} J rv q => ⟨v, H', J.os, J.bare, J.base, J.hok, rv, q⟩
 cases fl with
 | ret u =>
  obtain ⟨v, σ', H', J, rv, q⟩ := hs
  exact fin J rv q
 | next =>
  obtain ⟨σ', H', J, q⟩ := hs
  exact fin (v := V.non) (u := Value.none) J rfl q
 | brk =>
  obtain ⟨_, _, _, q⟩ := hs
  exact False.elim q
 | cont =>
  obtain ⟨_, _, _, q⟩ := hs
  exact False.elim q
section
variable {X : Cx} {x : Str} {p pos : Pos} {e : Expr} {es : List Expr} {t : TA} {id T : String} {r : List V → Hp → VK → Prop}
def tCB (r : List V → Hp → VK → Prop) (t : TA) : TE := fun σ H Q => t σ H fun vs H1 => r vs H1 Q
theorem Cw (hc : cg X (.builtin id) r) (hg : Gl X x) (hm : X.mg x = none) (hv : bootBuiltins x = some (.builtin id)) (ha : PA X (e :: es) t) (hn : x ≠ "__name__" := by decide) (hdb : (x == ("__debug__" : Str)) = false := by decide)
  (he : starEach (e :: es) X.env = (false, eval e X.env) :: starEach es X.env := by rfl) (hpl : (backTo pos (starEach es X.env)).any (·.1) = false := by rfl) : PE X (.Call (.Name x p) (e :: es) [] pos) (tCB r t) := by
 intro pins s σ H Q I h
 refine wpAny_Call_Name_kw (lA I hg hm hv ?_ hn hdb)
 exact PyProof.Rows.callWith_builtin1 (thA (ha pos pins s σ H _ I h) fun us s1 vs H1 I1 r1 q1 => hc pins s1 σ H1 vs us Q I1 r1 q1) he hpl
theorem yM (hc : cg X (.type T) r) (hg : Gl X x) (hm : X.mg x = none) (hv : bootBuiltins x = some (.type T)) (ha : PA X (e :: es) t) (hn : x ≠ "__name__" := by decide) (hdb : (x == ("__debug__" : Str)) = false := by decide)
  (he : starEach (e :: es) X.env = (false, eval e X.env) :: starEach es X.env := by rfl) (hpl : (backTo pos (starEach es X.env)).any (·.1) = false := by rfl) : PE X (.Call (.Name x p) (e :: es) [] pos) (tCB r t) := by
 intro pins s σ H Q I h
 refine wpAny_Call_Name_kw (lA I hg hm hv ?_ hn hdb)
 exact PyProof.Rows.callWith_type1 (thA (ha pos pins s σ H _ I h) fun us s1 vs H1 I1 r1 q1 => hc pins s1 σ H1 vs us Q I1 r1 q1) he hpl
end
end L2
namespace HT
open PySem PyProof.Rows
section
open PySem.SeqAt
open PySem.AutoSeq1 (wpAny_loadPart')
open PySem.MeetsSeq PySem.MeetsSeq2 PySem.MeetsSeq3
end
section
variable {prog : Program} {w : World} {A : Around} {E : Value → Shared → Prop} {s : Shared}
theorem Iw {t b : Addr} {vs ws : List Value} {Q : Value → Shared → Prop} (ht : IsTup s.heap t vs.toArray) (hb : IsTup s.heap b ws.toArray) (hv : vs ≠ [])
  (h1 : ws = [] → Q (.ref t) s) (h2 : ws ≠ [] → Q (.ref s.heap.objs.size) { s with heap := s.heap.push { cls := .type "tuple", data := .seq (vs ++ ws).toArray } })
  (hsz : vs.length + ws.length ≤ sizeLine) : wpAny (model prog w) A (binaryOp .Add (.ref t) (.ref b)) Q E s := by
 obtain ⟨⟨cls, dd, data, sl⟩, ho, hc, n, hd⟩ := id ht
 obtain ⟨⟨cls2, dd2, data2, sl2⟩, ho2, hc2, n2, hd2⟩ := id hb
 simp only at hc hd hc2 hd2
 subst hc hd hc2 hd2
 have e : vs.toArray ++ ws.toArray = (vs ++ ws).toArray := by simp
 by_cases hw : ws = []
 ·exact concat_meets ⟨_, ho, rfl⟩ ⟨_, ho2, rfl⟩ noFill_tuple_add seq_tuple_add PySem.F.slot_tuple_add PySem.F.entry_tuple_add (PySem.F.args_tuple_add_2 _ _)
   (tuple_addW1 t b vs.toArray ws.toArray n n2 dd dd2 sl sl2 (by simpa using hv) (by simp [hw])) ⟨ho, ho2, h1 hw⟩
 ·refine concat_meets ⟨_, ho, rfl⟩ ⟨_, ho2, rfl⟩ noFill_tuple_add seq_tuple_add PySem.F.slot_tuple_add PySem.F.entry_tuple_add (PySem.F.args_tuple_add_2 _ _)
   (tuple_addW2 t b vs.toArray ws.toArray n n2 dd dd2 sl sl2 (by simpa using hv) (by simpa using hw) (by rw [List.size_toArray, List.size_toArray]; exact hsz)) ⟨ho, ho2, ?_⟩
  rw [e]
  exact h2 hw
def sIx (n d : Nat) : Option Int → Nat
 | none => d
 | some v => if v < 0 then (v + (n : Int)).toNat else min v.toNat n
theorem JT (n d : Nat) (hd : d ≤ n) (o : Option Int) : sIx n d o ≤ n := by
 cases o with
 | none => exact hd
 | some v =>
  show (if v < 0 then (v + (n : Int)).toNat else min v.toNat n) ≤ n
  by_cases hv : v < 0
  ·rw [if_pos hv]; omega
  ·rw [if_neg hv]; exact Nat.min_le_right _ _
theorem xX (v : Int) (n d : Nat) : (if v < 0 then max (v + (n : Int)) 0 else min v (n : Int)) = ((sIx n d (some v) : Nat) : Int) := by
 show (if v < 0 then max (v + (n : Int)) 0 else min v (n : Int)) = (((if v < 0 then (v + (n : Int)).toNat else min v.toNat n) : Nat) : Int)
 by_cases hv : v < 0
 ·simp only [if_pos hv]; omega
 ·simp only [if_neg hv]; omega
theorem wj (lo hi : Option Int) (n : Nat) : Builtin.Slice.sliceAdjust lo hi 1 (n : Int) = (((sIx n 0 lo : Nat) : Int), ((sIx n n hi : Nat) : Int)) := by
 have h1 : ¬ ((1 : Int) < 0) := by omega
 unfold Builtin.Slice.sliceAdjust
 simp only [h1, if_false]
 refine Prod.ext ?_ ?_
 ·cases lo with
  | none => rfl
  | some v => exact xX v n 0
 ·cases hi with
  | none => rfl
  | some v => exact xX v n n
theorem vA (i j : Nat) : Builtin.Slice.slicePlaces (i : Int) (j : Int) 1 = j - i := by
 unfold Builtin.Slice.slicePlaces
 have h1 : (1 : Int) > 0 := by omega
 simp only [h1, if_true, Int.ediv_one]
 split <;> omega
theorem mU {v : Value} {o : Option Int} {Q : Option Int → Shared → Prop} (p : IsPart v o) (h : Q o s) : wpAny (model prog w) A (Builtin.Slice.slicePartIndex v) Q E s := by
 cases p with
 | none => exact slicePart_none h
 | int i t => exact slicePart_int h
theorem kI {sl : Addr} {vl vu : Value} {lo hi : Option Int} {n : Nat} {Q : Int × Int × Nat → Shared → Prop} (hs : s.heap.IsSliceOf sl vl vu .none) (pl : IsPart vl lo) (pu : IsPart vu hi)
  (h : Q (((sIx n 0 lo : Nat) : Int), 1, sIx n n hi - sIx n 0 lo) s) : wpAny (model prog w) A (Builtin.Slice.sliceApplied (.ref sl) (pure (n : Int))) Q E s := by
 obtain ⟨os, hos, hcs, hds⟩ := id hs
 unfold Builtin.Slice.sliceApplied Builtin.Slice.sliceFields
 refine wpAny_bind (wpAny_bind (wpAny_field hos hds (x := vl) rfl (wpAny_bind (wpAny_field hos hds (x := vu) rfl (wpAny_bind (wpAny_field hos hds (x := .none) rfl (wpAny_pure ?_)))))))
 refine wpAny_bind (slicePart_none ?_)
 show wpAny _ _ (if ((1 : Int) == 0) = true then _ else _) _ _ s
 rw [if_neg (by decide)]
 refine wpAny_bind (mU pl (wpAny_bind (mU pu (wpAny_bind (wpAny_pure ?_)))))
 show wpAny _ _ (match Builtin.Slice.sliceAdjust lo hi 1 (n : Int) with | (lo, hi) => pure (lo, (1 : Int), Builtin.Slice.slicePlaces lo hi 1)) _ _ s
 rw [wj lo hi n]
 show wpAny _ _ (pure (((sIx n 0 lo : Nat) : Int), (1 : Int), Builtin.Slice.slicePlaces ((sIx n 0 lo : Nat) : Int) ((sIx n n hi : Nat) : Int) 1)) _ _ s
 rw [vA]
 exact wpAny_pure h
theorem Ck (xs : Array Value) (i k : Nat) : ((List.range k).filterMap fun (m : Nat) => xs[((i : Int) + (m : Int) * 1).toNat]?).toArray = ((xs.toList.drop i).take k).toArray := by
 have e : (fun (m : Nat) => xs[((i : Int) + (m : Int) * 1).toNat]?) = fun m => xs[i + m]? := by
  funext m
  have : ((i : Int) + (m : Int) * 1).toNat = i + m := by omega
  rw [this]
 rw [e]
 have := pick_run xs i k
 rw [List.filterMap_map] at this
 have e2 : ((fun x => xs[x]?) ∘ fun x => i + x) = fun m => xs[i + m]? := rfl
 rw [e2] at this
 rw [this]
theorem jV {t sl : Addr} {items : Array Value} {vl vu : Value} {lo hi : Option Int} {Q : Value → Shared → Prop} (ht : IsTup s.heap t items) (hs : s.heap.IsSliceOf sl vl vu .none) (pl : IsPart vl lo) (pu : IsPart vu hi)
  (hw : ¬ (sIx items.size 0 lo = 0 ∧ sIx items.size items.size hi = items.size))
  (h : Q (.ref s.heap.objs.size) { s with heap := s.heap.push { cls := .type "tuple", data := .seq ((items.toList.drop (sIx items.size 0 lo)).take (sIx items.size items.size hi - sIx items.size 0 lo)).toArray } })
  (hsz : items.size ≤ sizeLine) : wpAny (model prog w) A (getItem (.ref t) (.ref sl)) Q E s := by
 have htake : sizeOk (.seq ((items.toList.drop (sIx items.size 0 lo)).take (sIx items.size items.size hi - sIx items.size 0 lo)).toArray) := by
  show ((items.toList.drop (sIx items.size 0 lo)).take (sIx items.size items.size hi - sIx items.size 0 lo)).toArray.size ≤ sizeLine
  rw [List.size_toArray, List.length_take, List.length_drop, Array.length_toList]
  omega
 have hj : sIx items.size items.size hi ≤ items.size := JT _ _ (Nat.le_refl _) hi
 obtain ⟨os, hos, hcs, hds⟩ := id hs
 have hTs : s.TypeIs (.ref sl) "slice" := ⟨os, hos, hcs⟩
 unfold getItem
 try with_reducible refine wpAny_holding ?_
 first | refine wpAny_bind (wpAny_pure ?_) | skip
 refine wpAny_bind (wpAny_sequenceKey ht.typeIs (by decide) ?_)
 refine wpAny_bind (wpAny_callSpecial?_slot (name := Str.ofString "__getitem__") ht.typeIs PyProof.Rows.slot_tuple_getitem
  (wpAny_call_entry PyProof.Rows.slot_tuple_getitem ht.typeIs entry_tuple_getitem ?_ (args_tuple_getitem _ _)))
 show wpAny _ _ (Builtin.Tuple.tupleItemsOf (.ref t) >>= _) _ _ s
 refine wpAny_bind (tupleItemsOf_ ht ?_)
 refine wpAny_bind (wpAny_typeOf hTs ?_)
 rw [if_pos (by decide)]
 refine wpAny_bind (kI hs pl pu ?_)
 have hno : ¬ ((((sIx items.size 0 lo : Nat) : Int) == 0 && (1 : Int) == 1 && (sIx items.size items.size hi - sIx items.size 0 lo) == items.size) = true) := by
  intro q
  rw [Bool.and_eq_true, Bool.and_eq_true] at q
  have q1 : ((sIx items.size 0 lo : Nat) : Int) = 0 := eq_of_beq q.1.1
  have q2 : sIx items.size items.size hi - sIx items.size 0 lo = items.size := eq_of_beq q.2
  exact hw ⟨by omega, by omega⟩
 show wpAny _ _ (if (((sIx items.size 0 lo : Nat) : Int) == 0 && (1 : Int) == 1 && (sIx items.size items.size hi - sIx items.size 0 lo) == items.size) = true then _ else _) _ _ s
 rw [if_neg hno, Ck]
 first
  | exact wpAny_bind (m := Builtin.Tuple.tupleExact _) (wpAny_newObj_type (wpAny_pure ⟨_, rfl, wpAny_pure h⟩) htake)
  | exact wpAny_bind (m := Builtin.Tuple.tupleExact _) (wpAny_newObj_type (wpAny_bind (wpAny_pure (wpAny_pure ⟨_, rfl, wpAny_pure h⟩))) htake)
  | exact wpAny_bind (wpAny_bind (m := Builtin.Tuple.tupleExact _) (wpAny_newObj_type (wpAny_pure (wpAny_pure ⟨_, rfl, wpAny_pure h⟩)) htake))
  | exact wpAny_bind (wpAny_bind (m := Builtin.Tuple.tupleExact _) (wpAny_newObj_type (wpAny_pure ⟨_, rfl, wpAny_pure h⟩) htake))
end
end HT
namespace L2
open PySem PySem.Spec PyProof.Rows
abbrev TO := St → Hp → (Option Int → Hp → Prop) → Prop
def PO (X : Cx) (e : Option Expr) (t : TO) : Prop :=
 ∀ (pins : List (Addr × Obj)) (s : Shared) (σ : St) (H : Hp) (Q : Option Int → Hp → Prop), Inv X pins σ H s → t σ H Q →
  wpAny (model X.prog X.w) X.A (evalPart e X.env) (fun u s' => ∃ o H', Inv X pins σ H' s' ∧ IsPart u o ∧ Q o H') X.xe s
def qJ : TO := fun _ H Q => Q none H
def Af (t : TE) : TO := fun σ H Q => t σ H fun x H1 => ∃ i, x = .int i ∧ Q (some i) H1
section
variable {X : Cx} {e : Expr} {te : TE} {lo hi : Option Expr} {tl th : TO} {pos p2 : Pos}
theorem GC : PO X none qJ := by
 intro pins s σ H Q I h
 rw [evalPart_none]
 exact wpAny_pure ⟨none, H, I, .none, h⟩
theorem Gz (h : PE X e te) : PO X (some e) (Af te) := by
 intro pins s σ H Q I hw
 rw [evalPart_some]
 refine thE (h pins s σ H _ I hw) fun u s1 x H1 I1 r1 q1 => ?_
 obtain ⟨i, rfl, q⟩ := q1
 obtain ⟨t, rfl⟩ := r1
 exact ⟨some i, H1, I1, .int i t, q⟩
def SlR (X : Cx) (r : V → Option Int → Option Int → Hp → VK → Prop) : Prop :=
 ∀ (pins : List (Addr × Obj)) (s : Shared) (σ : St) (H : Hp) (x : V) (v vl vu : Value) (lo hi : Option Int) (sl : Addr) (Q : VK), Inv X pins σ H s → RelV x v → s.heap.IsSliceOf sl vl vu .none → IsPart vl lo → IsPart vu hi → r x lo hi H Q →
  ∃ T id, typeLookup (.type T) "__getitem__" = pure (some (.builtin id)) ∧ s.TypeIs v T ∧ wpAny (model X.prog X.w) X.A (getItem v (.ref sl)) (EP X pins σ Q) X.xe s
def tSl (r : V → Option Int → Option Int → Hp → VK → Prop) (te : TE) (tl th : TO) : TE := fun σ H Q => te σ H fun x H1 => tl σ H1 fun l H2 => th σ H2 fun u H3 => r x l u H3 Q
theorem Cr {r : V → Option Int → Option Int → Hp → VK → Prop} (hr : SlR X r) (he : PE X e te) (hl : PO X lo tl) (hu : PO X hi th) : PE X (.Subscript e (.Slice lo hi none p2) pos) (tSl r te tl th) := by
 intro pins s σ H Q I h
 refine Subscript_ (thE (he pins s σ H _ I h) fun v s1 x H1 I1 r1 q1 => ?_)
 refine wpAny_Slice (thn (hl pins s1 σ H1 _ I1 q1) fun vl s2 ⟨l, H2, I2, pl, q2⟩ => thn (hu pins s2 σ H2 _ I2 q2) fun vu s3 ⟨u, H3, I3, pu, q3⟩ => ?_)
 rw [evalPart_none]
 refine wpAny_pure ?_
 have I4 : Inv X pins σ H3 { s3 with heap := s3.heap.push { cls := .type "slice", data := .fields #[vl, vu, .none] } } := I3.kept (t' := s3.toks) fun b ob q => Heap.get?_push_of_some _ q
 obtain ⟨T, id, hT, ht, hg⟩ := hr pins { s3 with heap := s3.heap.push { cls := .type "slice", data := .fields #[vl, vu, .none] } } σ H3 x v vl vu l u s3.heap.objs.size Q I4 r1 (Heap.IsSliceOf.new ..) pl pu q3
 show wpAny (model X.prog X.w) X.A (subscriptTail e (.Slice lo hi none p2) v (.ref s3.heap.objs.size)) (EP X pins σ Q) X.xe { s3 with heap := s3.heap.push { cls := .type "slice", data := .fields #[vl, vu, .none] } }
 exact tail_any (ops := [.ref s3.heap.objs.size, v]) ht hT hg (by with_unfolding_all rfl)
def jc (xs : List V) (lo hi : Option Int) : List V := (xs.drop (HT.sIx xs.length 0 lo)).take (HT.sIx xs.length xs.length hi - HT.sIx xs.length 0 lo)
theorem lN (xs : List V) (lo hi : Option Int) : (jc xs lo hi).length ≤ xs.length := by
 unfold jc
 rw [List.length_take, List.length_drop]
 omega
def Og (K : PySem.W.Frag) : V → Option Int → Option Int → Hp → VK → Prop := fun x lo hi H Q => ∃ a xs, x = .ref a ∧ SqT K H a xs ∧
 ¬ (HT.sIx xs.length 0 lo = 0 ∧ HT.sIx xs.length xs.length hi = xs.length) ∧ ∀ p, H p = none → Q (.ref p) (upd H p (.tup (jc xs lo hi)))
theorem JQ : SlR X (Og X.K) := by
 intro pins s σ H x v vl vu lo hi sl Q I rx hs pl pu h
 obtain ⟨a, xs, rfl, hx, hw, q⟩ := h
 cases rx
 obtain ⟨its, r, ht, hz⟩ := I.tuple hx
 have hlen : its.toArray.size = xs.length := by rw [List.size_toArray]; exact r.length.symm
 refine ⟨"tuple", _, PyProof.Rows.slot_tuple_getitem.lookup, ht.typeIs, ?_⟩
 refine HT.jV ht hs pl pu (by rw [hlen]; exact hw) ?_ (by rw [hlen]; exact hz)
 rw [hlen]
 refine ⟨.ref s.heap.objs.size, _, I.laid (t' := s.toks) (o := .tup (jc xs lo hi)) (fun b ob q => Heap.get?_push_of_some _ q) (Nat.le_refl _) ?_, rfl, q _ (I.hok.fresh (Nat.le_refl _))⟩
 exact ⟨Nat.le_trans (lN xs lo hi) hz, _, (r.drop (HT.sIx xs.length 0 lo)).take (HT.sIx xs.length xs.length hi - HT.sIx xs.length 0 lo), IsTup.new _ _⟩
def M4 (K : PySem.W.Frag) : R2 := fun x y H Q => ∃ a b xs ys, x = .ref a ∧ y = .ref b ∧ SqT K H a xs ∧ SqT K H b ys ∧ xs ≠ [] ∧ xs.length + ys.length ≤ sizeLine ∧
 (ys = [] → Q (.ref a) H) ∧ (ys ≠ [] → ∀ p, H p = none → Q (.ref p) (upd H p (.tup (xs ++ ys))))
theorem Vals.rK {xs : List V} {us : List Value} (r : Vals xs us) : us = [] ↔ xs = [] := by
 cases r with
 | nil => simp
 | cons _ _ => simp
theorem G5 : OpR X (binaryOp .Add) (M4 X.K) := by
 intro pins s σ H x y v u Q I rx ry h
 obtain ⟨a, b, xs, ys, rfl, rfl, ha, hb, hx, hz, q1, q2⟩ := h
 cases rx
 cases ry
 obtain ⟨its, r1, p1, _⟩ := I.tuple ha
 obtain ⟨its2, r2, p2, _⟩ := I.tuple hb
 refine HT.Iw p1 p2 (fun z => hx (r1.rK.mp z)) (fun z => ⟨.ref a, H, I, rfl, q1 (r2.rK.mp z)⟩) (fun z => ?_) (by rw [← r1.length, ← r2.length]; exact hz)
 refine ⟨.ref s.heap.objs.size, _, I.laid (t' := s.toks) (o := .tup (xs ++ ys)) (fun b ob q => Heap.get?_push_of_some _ q) (Nat.le_refl _) ?_, rfl, q2 (fun w => z (r2.rK.mpr w)) _ (I.hok.fresh (Nat.le_refl _))⟩
 exact ⟨by rw [List.length_append]; exact hz, _, r1.append r2, IsTup.new _ _⟩
end
def ixN (n : Nat) (i : Int) : Option Nat := if 0 ≤ i then (if i < n then some i.toNat else none) else if -(n : Int) ≤ i then some (i + n).toNat else none
def atI {α : Type} (xs : List α) (i : Int) : Option α := (ixN xs.length i).bind fun j => xs[j]?
theorem xG {n : Nat} {i : Int} {j : Nat} (h : ixN n i = some j) : seqIndex? i n = some j ∧ j < n ∧ -(n : Int) ≤ i ∧ i < n := by
 unfold ixN at h
 by_cases h0 : 0 ≤ i
 ·rw [if_pos h0] at h
  by_cases h1 : i < n
  ·rw [if_pos h1] at h
   have e : i.toNat = j := Option.some.inj h
   exact ⟨by rw [seqIndex_of h0 h1, e], by omega, by omega, h1⟩
  ·rw [if_neg h1] at h; cases h
 ·rw [if_neg h0] at h
  by_cases h1 : -(n : Int) ≤ i
  ·rw [if_pos h1] at h
   have e : (i + n).toNat = j := Option.some.inj h
   exact ⟨by rw [seqIndex_neg (by omega) h1, e], by omega, h1, by omega⟩
  ·rw [if_neg h1] at h; cases h
theorem sV {α : Type} {xs : List α} {i : Int} {v : α} (h : atI xs i = some v) : ∃ j, seqIndex? i xs.length = some j ∧ xs[j]? = some v ∧ j < xs.length ∧ -(xs.length : Int) ≤ i ∧ i < xs.length := by
 unfold atI at h
 cases e : ixN xs.length i with
 | none => rw [e] at h; cases h
 | some j =>
  rw [e] at h
  obtain ⟨h1, h2, h3, h4⟩ := xG e
  exact ⟨j, h1, h, h2, h3, h4⟩
theorem cj {α : Type} {xs : List α} {j : Nat} {v : α} (h : xs[j]? = some v) : atI xs (j : Int) = some v := by
 have hj : j < xs.length := (List.getElem?_eq_some_iff.mp h).1
 have e : ixN xs.length (j : Int) = some j := by
  unfold ixN
  rw [if_pos (by omega), if_pos (by omega)]; simp
 unfold atI; rw [e]; exact h
def xZ (b : Expr) : Prop := ∀ o i, subscripted b false o i = operate [o, i] (getItem o i)
def IxR (X : Cx) (r : R2) : Prop :=
 ∀ (value slice : Expr) (pins : List (Addr × Obj)) (s : Shared) (σ : St) (H : Hp) (x y : V) (v u : Value) (Q : VK), Inv X pins σ H s → RelV x v → RelV y u → r x y H Q →
  subscripted slice false v u = operate [v, u] (getItem v u) → wpAny (model X.prog X.w) X.A (subscriptTail value slice v u) (EP X pins σ Q) X.xe s
def MtR (X : Cx) (id : String) (r : V → List V → Hp → VK → Prop) : Prop :=
 ∀ (pins : List (Addr × Obj)) (s : Shared) (σ : St) (H : Hp) (x : V) (xs : List V) (v : Value) (us : List Value) (Q : VK), Inv X pins σ H s → RelV x v → Vals xs us → r x xs H Q →
  wpAny (model X.prog X.w) X.A (call (.builtin id) (v :: us)) (EP X pins σ Q) X.xe s
section
variable {X : Cx} {a b : Expr} {ta tb : TE} {pos : Pos}
theorem Ng {r : R2} (hr : IxR X r) (ha : PE X a ta) (hb : PE X b tb) (hs : xZ b) : PE X (.Subscript a b pos) (tOp r ta tb) := by
 intro pins s σ H Q I h
 exact Subscript_ (Mj ha hb I h fun v u s2 x y H2 I2 rx ry q => hr a b pins s2 σ H2 x y v u Q I2 rx ry q (hs _ _))
def MP (K : PySem.W.Frag) : R2 := fun x y H Q => ∃ p xs i v, x = .ref p ∧ y = .int i ∧ SqL K H p xs ∧ atI xs i = some v ∧ Q v H
def Oj (K : PySem.W.Frag) : R2 := fun x y H Q => ∃ p xs i v, x = .ref p ∧ y = .int i ∧ SqT K H p xs ∧ atI xs i = some v ∧ Q v H
def Ol : R2 := fun x y H Q => ∃ z i c, x = .str z ∧ y = .int i ∧ z.length ≤ sizeLine ∧ atI z.cps.toList i = some c ∧ Q (.str ⟨#[c]⟩) H
theorem xu : IxR X (MP X.K) := by
 intro value slice pins s σ H x y v u Q I rx ry h hs
 obtain ⟨p, xs, i, z, rfl, rfl, hq, he, q⟩ := h
 cases rx
 obtain ⟨t, rfl⟩ := ry
 obtain ⟨its, r, pl, hz⟩ := I.list hq
 obtain ⟨j, h1, h2, h3, h4, h5⟩ := sV he
 obtain ⟨w, ew, rw'⟩ := r.get h2
 have hl := r.length
 have hn := ju
 have fin : EP X pins σ Q w s := ⟨z, H, I, rw', q⟩
 by_cases h0 : 0 ≤ i
 ·have hj : i.toNat = j := by
   rw [seqIndex_of h0 h5] at h1
   exact Option.some.inj h1
  exact item_listR pl.isList h0 (by omega) (by rw [hj]; simpa using ew) fin hs
 ·have hj : (i + (its.toArray.size : Int)).toNat = j := by
   rw [seqIndex_neg (by omega) h4] at h1
   rw [List.size_toArray, ← hl]
   exact Option.some.inj h1
  exact subscriptTail_builtinR (x := w) pl.isList.typeIs slot_list_getitem.lookup
   (wpAny_getItem_list_neg (Q := fun r s' => r = w ∧ EP X pins σ Q r s') pl.isList (by omega) (by rw [List.size_toArray] <;> omega) (by omega) (by rw [hj]; simpa using ew) ⟨rfl, fin⟩) hs
theorem Lq : IxR X (Oj X.K) := by
 intro value slice pins s σ H x y v u Q I rx ry h hs
 obtain ⟨p, xs, i, z, rfl, rfl, hq, he, q⟩ := h
 cases rx
 obtain ⟨t, rfl⟩ := ry
 obtain ⟨its, r, pl, hz⟩ := I.tuple hq
 obtain ⟨j, h1, h2, h3, h4, h5⟩ := sV he
 obtain ⟨w, ew, rw'⟩ := r.get h2
 have hl := r.length
 have hn := ju
 have fin : EP X pins σ Q w s := ⟨z, H, I, rw', q⟩
 exact subscriptTail_builtinR (x := w) pl.typeIs slot_tuple_getitem.lookup
  (getItem_tuple (j := j) (Q := fun r s' => r = w ∧ EP X pins σ Q r s') pl (by omega) (by omega) (by rw [List.size_toArray, ← hl]; exact h1) (by simpa using ew) ⟨rfl, fin⟩) hs
theorem Lr : IxR X Ol := by
 intro value slice pins s σ H x y v u Q I rx ry h hs
 obtain ⟨z, i, c, rfl, rfl, hz, he, q⟩ := h
 obtain ⟨t, rfl⟩ := rx
 obtain ⟨t', rfl⟩ := ry
 obtain ⟨j, h1, h2, h3, h4, h5⟩ := sV he
 have hl : z.cps.toList.length = z.length := by simp [Str.length]
 rw [hl] at h1 h4 h5
 have hn := ju
 exact tail_any (typeIs_str s z t) slot_str_getitem.lookup (getItem_str (c := c) (by
  have e1 : decide (i < -(2 ^ 63 : Int)) = false := decide_eq_false (by omega)
  have e2 : decide (i ≥ 2 ^ 63) = false := decide_eq_false (by omega)
  rw [e1, e2, Bool.or_false]) (by rw [h1]; simpa using h2) ⟨.str ⟨#[c]⟩, H, I.tok _, ⟨_, rfl⟩, q⟩) hs
theorem vI (its : List Value) (n j : Nat) (u : Value) : Obj.mapSeq (·.setIfInBounds j u) { cls := .type "list", data := .seq its.toArray n } = { cls := .type "list", data := .seq (its.set j u).toArray n } := by
 simp [Obj.mapSeq]
theorem Inv.lst {pins : List (Addr × Obj)} {σ : St} {H : Hp} {s : Shared} {p : Addr} {xs : List V} (I : Inv X pins σ H s) (h : H p = some (.lst xs)) :
  ∃ (its : List Value) (n : Nat), Vals xs its ∧ s.heap.get? p = some { cls := .type "list", data := .seq its.toArray n } ∧ xs.length ≤ sizeLine := by
 obtain ⟨z, its, n, r, e⟩ := I.hok p _ h
 exact ⟨its, n, r, e, z⟩
theorem Inv.Lg {pins : List (Addr × Obj)} {σ : St} {H : Hp} {s : Shared} {p : Addr} {xs ys : List V} {its its' : List Value} {n n' : Nat} {f : Obj → Obj} (I : Inv X pins σ H s) (h : H p = some (.lst xs))
  (ho : s.heap.get? p = some { cls := .type "list", data := .seq its.toArray n }) (hf : f { cls := .type "list", data := .seq its.toArray n } = { cls := .type "list", data := .seq its'.toArray n' }) (r : Vals ys its') (hz : ys.length ≤ sizeLine) (t : Nat) :
  Inv X pins σ (upd H p (.lst ys)) { s with heap := s.heap.update p f, toks := t } := by
 have e : (s.heap.update p f).get? p = some { cls := .type "list", data := .seq its'.toArray n' } := by
  rw [Heap.get?_update_self f ho (by rw [hf] <;> rfl), hf]
 refine I.write (x := p) (e := p) (by rw [h]; trivial) (.inl rfl) (fun b u hb q => (Heap.get?_update_other _ _ (Ne.symm hb)).trans q) ⟨_, e⟩ ?_
 exact ⟨hz, its', n', r, e⟩
def Jf : V → V → V → Hp → (Hp → Prop) → Prop := fun o i v H Q => ∃ p xs k j, o = .ref p ∧ i = .int k ∧ H p = some (.lst xs) ∧ ixN xs.length k = some j ∧ Q (upd H p (.lst (xs.set j v)))
theorem set_list : Jb X Jf := by
 intro pins s σ H o i v ov iv u Q I ro ri rv h
 obtain ⟨p, xs, k, j, rfl, rfl, hp, hj, q⟩ := h
 cases ro
 obtain ⟨t, rfl⟩ := ri
 obtain ⟨its, n, r, ho, hz⟩ := I.lst hp
 obtain ⟨h1, h2, h3, h4⟩ := xG hj
 have hl := r.length
 have hn := ju
 have I' : Inv X pins σ (upd H p (.lst (xs.set j v))) { s with heap := s.heap.update p (Obj.mapSeq (·.setIfInBounds j u)) } :=
  I.Lg hp ho (vI its n j u) (r.set rv j) (by rw [List.length_set]; exact hz) s.toks
 by_cases h0 : 0 ≤ k
 ·have hk : k.toNat = j := by
   rw [seqIndex_of h0 h4] at h1
   exact Option.some.inj h1
  exact PySem.W.ki_setAt ho h0 (by omega) (by rw [List.size_toArray, ← hl]; exact h4) (by rw [hk]; exact ⟨_, I', q⟩)
 ·have hk : (k + (its.toArray.size : Int)).toNat = j := by
   rw [seqIndex_neg (by omega) h3] at h1
   rw [List.size_toArray, ← hl]
   exact Option.some.inj h1
  exact PySem.W.ki_setBack ho (by omega) (by rw [List.size_toArray, ← hl]; exact h3) (by omega) (by rw [hk]; exact ⟨_, I', q⟩)
theorem qP (lo hi : Option Int) (n : Nat) : (sliceBounds lo hi none n).1 = ((HT.sIx n 0 lo : Nat) : Int) ∧ (sliceBounds lo hi none n).2.1 = ((HT.sIx n n hi : Nat) : Int) ∧ (sliceBounds lo hi none n).2.2 = 1 := by
 refine ⟨?_, ?_, rfl⟩
 ·cases lo with
  | none => simp [sliceBounds, HT.sIx]
  | some i =>
   simp only [sliceBounds, HT.sIx, Option.getD_none, show (1 : Int) > 0 by decide, if_true]
   by_cases h : i < 0
   ·simp only [h, if_true] <;> omega
   ·simp only [h, if_false] <;> omega
 ·cases hi with
  | none => simp [sliceBounds, HT.sIx]
  | some i =>
   simp only [sliceBounds, HT.sIx, Option.getD_none, show (1 : Int) > 0 by decide, if_true]
   by_cases h : i < 0
   ·simp only [h, if_true] <;> omega
   ·simp only [h, if_false] <;> omega
theorem oR (its : List Value) (lo hi : Option Int) : slicePick its.toArray lo hi none = ((its.drop (HT.sIx its.length 0 lo)).take (HT.sIx its.length its.length hi - HT.sIx its.length 0 lo)).toArray := by
 obtain ⟨h1, h2, h3⟩ := qP lo hi its.toArray.size
 unfold slicePick
 rw [h1, h2, h3]
 simp only [sliceRange_one, pick_run, List.size_toArray] <;> rfl
def Oh (K : PySem.W.Frag) : V → Option Int → Option Int → Hp → VK → Prop := fun x lo hi H Q => ∃ a xs, x = .ref a ∧ SqL K H a xs ∧ ∀ p, H p = none → Q (.ref p) (upd H p (.lst (jc xs lo hi)))
theorem EY : SlR X (Oh X.K) := by
 intro pins s σ H x v vl vu lo hi sl Q I rx hs pl pu h
 obtain ⟨a, xs, rfl, hx, q⟩ := h
 cases rx
 obtain ⟨its, r, ht, hz⟩ := I.list hx
 have hlen := r.length
 refine ⟨"list", _, slot_list_getitem.lookup, ht.isList.typeIs, ?_⟩
 refine wpAny_getItem_list_slice ht.isList hs pl pu .none (by simp) ?_ (by rw [List.size_toArray] <;> omega)
 rw [oR, ← hlen]
 refine ⟨.ref s.heap.objs.size, _, I.laid (t' := s.toks) (o := .lst (jc xs lo hi)) (fun b ob q => Heap.get?_push_of_some _ q) (Nat.le_refl _) ?_, rfl, q _ (I.hok.fresh (Nat.le_refl _))⟩
 exact ⟨Nat.le_trans (lN xs lo hi) hz, _, 0, (r.drop (HT.sIx xs.length 0 lo)).take (HT.sIx xs.length xs.length hi - HT.sIx xs.length 0 lo), Heap.get?_push_size _ rfl⟩
def cW : V → Bool
 | .non => true
 | .bl _ => true
 | .int _ => true
 | .str _ => true
 | _ => false
def eqV : V → V → Bool
 | .non, .non => true
 | .bl a, .bl b => a == b
 | .bl a, .int b => (if a then 1 else 0) == b
 | .int a, .bl b => a == (if b then 1 else 0)
 | .int a, .int b => a == b
 | .str a, .str b => a == b
 | _, _ => false
theorem DP {A : Around} {s : Shared} {y x : V} {u v : Value} (ry : RelV y u) (rx : RelV x v) (fy : cW y = true) (fx : cW x = true) : SeqAt.EqAt A s u v (eqV y x) := by
 cases y with
 | non =>
  cases ry
  cases x with
  | non => cases rx; exact SeqAt.EqAt.same _
  | bl b => cases rx; exact SeqAt.EqAt.none_bool b
  | int b => obtain ⟨t, rfl⟩ := rx; exact SeqAt.EqAt.none_int b t
  | str b => obtain ⟨t, rfl⟩ := rx; exact SeqAt.EqAt.none_str b t
  | _ => exact absurd (show false = true from fx) Bool.false_ne_true
 | bl a =>
  cases ry
  cases x with
  | non => cases rx; exact SeqAt.EqAt.bool_none a
  | bl b => cases rx; exact SeqAt.EqAt.bool_bool a b
  | int b => obtain ⟨t, rfl⟩ := rx; exact SeqAt.EqAt.bool_int a b t
  | str b => obtain ⟨t, rfl⟩ := rx; exact SeqAt.EqAt.bool_str a b t
  | _ => exact absurd (show false = true from fx) Bool.false_ne_true
 | int a =>
  obtain ⟨t', rfl⟩ := ry
  cases x with
  | non => cases rx; exact SeqAt.EqAt.int_none a t'
  | bl b => cases rx; exact SeqAt.EqAt.int_bool a t' b
  | int b => obtain ⟨t, rfl⟩ := rx; exact SeqAt.EqAt.int_int a t' b t
  | str b => obtain ⟨t, rfl⟩ := rx; exact SeqAt.EqAt.int_str a t' b t
  | _ => exact absurd (show false = true from fx) Bool.false_ne_true
 | str a =>
  obtain ⟨t', rfl⟩ := ry
  cases x with
  | non => cases rx; exact SeqAt.EqAt.str_none a t'
  | bl b => cases rx; exact SeqAt.EqAt.str_bool a t' b
  | int b => obtain ⟨t, rfl⟩ := rx; exact SeqAt.EqAt.str_int a t' b t
  | str b => obtain ⟨t, rfl⟩ := rx; exact SeqAt.EqAt.str_str a t' b t
  | _ => exact absurd (show false = true from fx) Bool.false_ne_true
 | _ => exact absurd (show false = true from fy) Bool.false_ne_true
def eqU (x : V) (u : Value) : Bool := match u with
 | .none => eqV .non x
 | .bool b => eqV (.bl b) x
 | .int i _ => eqV (.int i) x
 | .str z _ => eqV (.str z) x
 | _ => false
theorem DN {x y : V} {u : Value} (r : RelV y u) (f : cW y = true) : eqU x u = eqV y x := by
 cases y with
 | non => cases r; rfl
 | bl b => cases r; rfl
 | int i => obtain ⟨t, rfl⟩ := r; rfl
 | str z => obtain ⟨t, rfl⟩ := r; rfl
 | _ => exact absurd (show false = true from f) Bool.false_ne_true
theorem sX {x : V} : ∀ {xs : List V} {us : List Value}, Vals xs us → xs.all cW = true → us.any (eqU x) = xs.any fun y => eqV y x
 | _, _, .nil, _ => rfl
 | y :: xs, u :: us, .cons r t, f => by
  rw [List.all_cons, Bool.and_eq_true] at f
  rw [List.any_cons, List.any_cons, DN r f.1, sX t f.2]
theorem nU {A : Around} {s : Shared} {x : V} {v : Value} (rx : RelV x v) (fx : cW x = true) : ∀ {xs : List V} {us : List Value}, Vals xs us → xs.all cW = true → ∀ u ∈ us, SeqAt.EqAt A s u v (eqU x u)
 | _, _, .nil, _ => fun u hu => by cases hu
 | y :: xs, u :: us, .cons r t, f => fun u' hu => by
  rw [List.all_cons, Bool.and_eq_true] at f
  rcases List.mem_cons.mp hu with rfl | hu
  ·rw [DN r f.1]; exact DP r rx f.1 fx
  ·exact nU rx fx t f.2 u' hu
def inV (x : V) (xs : List V) : Bool := xs.any fun y => eqV y x
def rIn (K : PySem.W.Frag) (neg : Bool) : R2 := fun x y H Q => ∃ p xs, y = .ref p ∧ (SqL K H p xs ∨ SqT K H p xs) ∧ cW x = true ∧ xs.all cW = true ∧ Q (.bl (if neg then !inV x xs else inV x xs)) H
theorem yO : OpR X (compareOp .In) (rIn X.K false) := by
 intro pins s σ H x y v u Q I rx ry h
 obtain ⟨p, xs, rfl, hq, fx, fs, q⟩ := h
 cases ry
 rcases hq with hq | hq
 ·obtain ⟨its, r, pl, hz⟩ := I.list hq
  refine SeqAt.in_listAt (eqU x) pl.isList (fun w hw => nU rx fx r fs w (by simpa using hw)) ⟨.bl _, H, I, rfl, ?_⟩
  rw [show its.toArray.any (eqU x) = its.any (eqU x) by simp, sX r fs]
  exact q
 ·obtain ⟨its, r, pl, hz⟩ := I.tuple hq
  refine SeqAt.in_tupleAt (eqU x) pl (fun w hw => nU rx fx r fs w (by simpa using hw)) ⟨.bl _, H, I, rfl, ?_⟩
  rw [show its.toArray.any (eqU x) = its.any (eqU x) by simp, sX r fs]
  exact q
theorem fj : cg X (.builtin "len") (fun xs H Q => ∃ p ys, xs = [.ref p] ∧ (SqL X.K H p ys ∨ SqT X.K H p ys) ∧ Q (.int ys.length) H) := by
 intro pins s σ H xs us Q I r h
 obtain ⟨p, ys, rfl, hq, q⟩ := h
 obtain ⟨u, rfl, rx⟩ := vals1 r
 cases rx
 have hn := ju
 rcases hq with hq | hq
 ·obtain ⟨its, r', pl, hz⟩ := I.list hq
  have hlen := r'.length
  exact Calls.call_len_list pl.isList (by simp only [List.size_toArray] <;> omega) ⟨.int ys.length, H, I.tok _, ⟨s.toks + 1, by rw [List.size_toArray, hlen]⟩, q⟩
 ·obtain ⟨its, r', pl, hz⟩ := I.tuple hq
  have hlen := r'.length
  exact len_tuple pl (by simp only [List.size_toArray] <;> omega) ⟨.int ys.length, H, I.tok _, ⟨s.toks + 1, by rw [List.size_toArray, hlen]⟩, q⟩
theorem sH : cg X (.builtin "len") (fun xs H Q => ∃ z, xs = [.str z] ∧ z.length ≤ sizeLine ∧ Q (.int z.length) H) := by
 intro pins s σ H xs us Q I r h
 obtain ⟨z, rfl, hz, q⟩ := h
 obtain ⟨u, rfl, t, rfl⟩ := vals1 r
 have hn := ju
 exact len_str (by omega) ⟨.int z.length, H, I.tok _, ⟨_, rfl⟩, q⟩
theorem j8 : cg X (.type "list") (fun xs H Q => ∃ p ys, xs = [.ref p] ∧ (SqL X.K H p ys ∨ SqT X.K H p ys) ∧ ∀ l, H l = none → Q (.ref l) (upd H l (.lst ys))) := by
 intro pins s σ H xs us Q I r h
 obtain ⟨p, ys, rfl, hq, q⟩ := h
 obtain ⟨u, rfl, rx⟩ := vals1 r
 cases rx
 have fin : ∀ (its : List Value), Vals ys its → ys.length ≤ sizeLine → ∀ (h' : Heap) (c' : Nat), (∀ b o', s.heap.get? b = some o' → h'.get? b = some o') →
   h'.get? s.heap.objs.size = some { cls := .type "list", dict := none, data := .seq its.toArray c', slots := #[] } → EP X pins σ Q (.ref s.heap.objs.size) { s with heap := h' } := fun its r' hz h' c' kp e =>
  ⟨.ref s.heap.objs.size, _, I.laid (t' := s.toks) kp (Nat.le_refl _) (show bT X.prog X.w _ h' _ (.lst ys) from ⟨hz, its, c', r', e⟩), rfl, q _ (I.hok.fresh (Nat.le_refl _))⟩
 rcases hq with hq | hq
 ·obtain ⟨its, r', pl, hz⟩ := I.list hq
  have hlen := r'.length
  obtain ⟨o, ho, hc, n, hd⟩ := pl.isList
  exact call_list_seq p (.inl rfl) ho hc hd (fun h' c' kp e => fin its r' hz h' c' kp e) (by simp only [List.size_toArray] <;> omega)
 ·obtain ⟨its, r', pl, hz⟩ := I.tuple hq
  have hlen := r'.length
  obtain ⟨o, ho, hc, n, hd⟩ := pl
  exact call_list_seq p (.inr rfl) ho hc hd (fun h' c' kp e => fin its r' hz h' c' kp e) (by simp only [List.size_toArray] <;> omega)
theorem gh : cg X (.type "tuple") (fun xs H Q => ∃ p ys, xs = [.ref p] ∧ ((SqL X.K H p ys ∧ ∀ l, H l = none → Q (.ref l) (upd H l (.tup ys))) ∨ (SqT X.K H p ys ∧ Q (.ref p) H))) := by
 intro pins s σ H xs us Q I r h
 obtain ⟨p, ys, rfl, h⟩ := h
 obtain ⟨u, rfl, rx⟩ := vals1 r
 cases rx
 rcases h with ⟨hq, q⟩ | ⟨hq, q⟩
 ·obtain ⟨its, r', pl, hz⟩ := I.list hq
  have hlen := r'.length
  refine call_tuple_list pl.isList (fun h' kp => ?_) (by simp only [List.size_toArray] <;> omega)
  have I1 : Inv X pins σ H { s with heap := h' } := I.kept (t' := s.toks) kp
  have I2 : Inv X pins σ (upd H h'.objs.size (.tup ys)) { s with heap := h'.push { cls := .type "tuple", data := .seq its.toArray } } :=
   I1.laid (t' := s.toks) (fun b o e => Heap.get?_push_of_some _ e) (Nat.le_refl _) (show bT X.prog X.w _ _ _ (.tup ys) from ⟨hz, its, r', IsTup.new _ _⟩)
  exact ⟨.ref h'.objs.size, _, I2, rfl, q _ (I1.hok.fresh (Nat.le_refl _))⟩
 ·obtain ⟨its, r', pl, hz⟩ := I.tuple hq
  exact call_tuple_same pl ⟨.ref p, H, I, rfl, q⟩
def tyV (K : PySem.W.Frag) (T : String) (x : V) (H : Hp) : Prop := match x with
 | .str _ => T = "str"
 | .int _ => T = "int"
 | .ref p => (T = "list" ∧ ∃ xs, SqL K H p xs) ∨ (T = "tuple" ∧ ∃ o, K.lookup p = some o ∧ o.cls = .type "tuple" ∧ o.dict = none) ∨
   (T = "dict" ∧ ((∃ kvs, H p = some (.dK kvs)) ∨ ∃ kvs, H p = some (.dT kvs))) ∨ (T = "set" ∧ ∃ S n, H p = some (.set S n))
 | _ => False
theorem zW {pins : List (Addr × Obj)} {σ : St} {H : Hp} {s : Shared} {T : String} {x : V} {v : Value} (I : Inv X pins σ H s) (r : RelV x v) (ty : tyV X.K T x H) :
  s.TypeIs v T ∧ ∀ a, v = .ref a → ∃ ob, s.heap.get? a = some ob ∧ ob.dict = none := by
 cases x with
 | str z =>
  obtain ⟨t, rfl⟩ := r
  cases (show T = "str" from ty)
  exact ⟨typeIs_str s z t, fun _ e => nomatch e⟩
 | int i =>
  obtain ⟨t, rfl⟩ := r
  cases (show T = "int" from ty)
  exact ⟨typeIs_int s i t, fun _ e => nomatch e⟩
 | ref p =>
  cases r
  rcases ty with ⟨rfl, xs, hq⟩ | ⟨rfl, o, hk, hc, hd⟩ | ⟨rfl, hk⟩ | ⟨rfl, S, n, hk⟩
  ·obtain ⟨its, _, pl, _⟩ := I.list hq
   refine ⟨pl.isList.typeIs, fun a e => ?_⟩
   cases e
   obtain ⟨o, n, e, c, hd, _⟩ := pl
   exact ⟨o, e, hd⟩
  ·refine ⟨⟨o, I.kIn p o hk, hc⟩, fun a e => ?_⟩
   cases e
   exact ⟨o, I.kIn _ o hk, hd⟩
  ·have z : ∃ o, s.heap.get? p = some o ∧ o.ExactDict := by
    rcases hk with ⟨kvs, hk⟩ | ⟨kvs, hk⟩
    ·obtain ⟨_, _, _, _, o, _, _, e, ex, _⟩ := I.hok p _ hk
     exact ⟨o, e, ex⟩
    ·obtain ⟨_, _, _, _, o, _, _, e, ex, _⟩ := I.hok p _ hk
     exact ⟨o, e, ex⟩
   obtain ⟨o, e, ex⟩ := z
   refine ⟨⟨o, e, ex.1⟩, fun a e2 => ?_⟩
   cases e2
   exact ⟨o, e, ex.2.1⟩
  ·obtain ⟨o, _, _, _, e, ex, _⟩ := I.hok p _ hk
   refine ⟨⟨o, e, ex.1⟩, fun a e2 => ?_⟩
   cases e2
   exact ⟨o, e, ex.2.1⟩
 | _ => exact False.elim ty
def tBM (K : PySem.W.Frag) (T : String) (r : V → List V → Hp → VK → Prop) (to : TE) (t : TA) : TE := fun σ H Q => to σ H fun x H1 => tyV K T x H1 ∧ t σ H1 fun xs H2 => r x xs H2 Q
variable {o e : Expr} {es : List Expr} {to : TE} {t : TA} {name : Str} {apos cpos : Pos} {T id : String} {r : V → List V → Hp → VK → Prop}
theorem Np (pa : PlainAttrs T) (slot : Slot T name id) (hty : typeOf (.builtin id) = pure (.type "method_descriptor")) (hm : MtR X id r) (ho : PE X o to) (ha : PA X (e :: es) t)
  (hbase : attributeBase o name X.env (eval o X.env) = eval o X.env := by rfl)
  (hfew : ((backTo cpos (starEach (e :: es) X.env)).all (fun x => !x.1) && (backToKw cpos (keywordEach [] X.env)).all (fun x => x.1.isSome)
   && decide ((e :: es).length + ([] : List Keyword).length + (if ([] : List Keyword).isEmpty then 0 else 1) < 30)) = true := by rfl)
  (hline : (apos.endLine == cpos.line) = true := by rfl) (hs : starEach (e :: es) X.env = (false, eval e X.env) :: starEach es X.env := by rfl) (hplain : (backTo cpos (starEach es X.env)).any (·.1) = false := by rfl) :
  PE X (.Call (.Attribute o name apos) (e :: es) [] cpos) (tBM X.K T r to t) := by
 intro pins s σ H Q I h
 refine wpAny_Call_method_late hbase hfew hline rfl (thn (ho pins s σ H _ I h) fun v s1 ⟨x, H1, I1, r1, ty, q1⟩ => ?_)
 obtain ⟨h1, h2⟩ := zW I1 r1 ty
 refine ⟨T, id, pa, slot, hty, h1, h2, ?_⟩
 have hA := ha cpos pins s1 σ H1 _ I1 q1
 rw [hs] at hA ⊢
 refine Calls.callWith_builtin (by show (false || (backTo cpos (starEach es X.env)).any (·.1)) = false; rw [hplain] <;> rfl) (Calls.evalArgs_plain ?_)
 exact thA hA fun us s2 vs H2 I2 r2 q2 => hm pins s2 σ H2 x vs v us Q I2 r1 r2 q2
end
def MtM (X : Cx) (id : String) (r : V → List V → Hp → VK → Prop) : Prop :=
 ∀ (pins : List (Addr × Obj)) (s : Shared) (σ : St) (H : Hp) (x : V) (xs : List V) (v : Value) (us : List Value) (Q : VK), Inv X pins σ H s → RelV x v → Vals xs us → r x xs H Q →
  wpAny (model X.prog X.w) X.A (call (.builtin id) (v :: us)) (EP X pins σ Q) X.xe s
theorem Vals.one : ∀ {x : V} {us : List Value}, Vals [x] us → ∃ u, us = [u] ∧ RelV x u := fun h => by
 cases h with
 | cons r h =>
  cases h
  exact ⟨_, rfl, r⟩
theorem Vals.rep {xs : List V} {us : List Value} (h : Vals xs us) : ∀ k : Nat, Vals (List.replicate k xs).flatten (List.replicate k us).flatten
 | 0 => .nil
 | k + 1 => by
  rw [List.replicate_succ, List.replicate_succ, List.flatten_cons, List.flatten_cons]
  exact Vals.append h (Vals.rep h k)
theorem foldl_rep (its : List Value) : ∀ (k : Nat) (acc : List Value),
  List.foldl (fun x1 x2 => x1 ++ x2) acc.toArray (List.replicate k its.toArray) = (acc ++ (List.replicate k its).flatten).toArray
 | 0, acc => by simp
 | k + 1, acc => by
  have e : acc.toArray ++ its.toArray = (acc ++ its).toArray := by simp
  have e2 : (acc ++ its) ++ (List.replicate k its).flatten = acc ++ (List.replicate (k + 1) its).flatten := by
   rw [List.replicate_succ, List.flatten_cons, List.append_assoc]
  rw [← e2, ← foldl_rep its k (acc ++ its), ← e, List.replicate_succ, List.foldl_cons]
section
variable {X : Cx} {pins : List (Addr × Obj)} {σ : St} {H : Hp} {s : Shared} {l b : Addr} {xs ys zs : List V}
theorem Inv.Ou {its its' : List Value} {n : Nat} {f : Array Value → Array Value} {t' : Nat} (I : Inv X pins σ H s) (hH : H l = some (.lst xs))
  (e : s.heap.get? l = some { cls := .type "list", data := .seq its.toArray n }) (hf : f its.toArray = its'.toArray) (hv : Vals ys its') (hz : ys.length ≤ sizeLine) :
  Inv X pins σ (upd H l (.lst ys)) { s with heap := s.heap.update l (Obj.mapSeq f), toks := t' } := by
 have q := PySem.IsL.update e f
 rw [hf] at q
 refine I.write (x := l) (e := l) (by rw [hH]; exact trivial) (.inl rfl) (fun b' u hb hu => (Heap.get?_update_other s.heap (Obj.mapSeq f) (Ne.symm hb)).trans hu) ⟨_, q⟩ ?_
 exact ⟨hz, its', _, hv, q⟩
theorem Inv.NQ {its : List Value} {t' : Nat} (I : Inv X pins σ H s) (hv : Vals ys its) (hz : ys.length ≤ sizeLine) :
  Inv X pins σ (upd H s.heap.objs.size (.lst ys)) { s with heap := s.heap.push { cls := .type "list", data := .seq its.toArray }, toks := t' } :=
 I.laid (fun _ _ q => Heap.get?_push_of_some _ q) (Nat.le_refl _) ⟨hz, its, 0, hv, Heap.get?_push_size _ rfl⟩
theorem Inv.fresh (I : Inv X pins σ H s) : H s.heap.objs.size = none := I.hok.fresh (Nat.le_refl _)
theorem Inv.Hr (I : Inv X pins σ H s) (hH : H l = some (.lst xs)) : xs.length ≤ sizeLine ∧ ∃ (its : List Value) (n : Nat), Vals xs its ∧ xs.length = its.length ∧ s.heap.get? l = some { cls := .type "list", data := .seq its.toArray n } := by
 obtain ⟨z, its, n, r, e⟩ := I.hok l _ hH
 exact ⟨z, its, n, r, r.length, e⟩
theorem CQ {n : Nat} (h : n ≤ sizeLine) : Builtin.List.listTooLong n = false := by
 unfold Builtin.List.listTooLong
 exact decide_eq_false (by omega)
end
section
variable {X : Cx}
def Gh : V → List V → Hp → VK → Prop := fun x vs H Q => ∃ l xs y, x = .ref l ∧ vs = [y] ∧ H l = some (.lst xs) ∧ xs.length < sizeLine ∧ Q .non (upd H l (.lst (xs ++ [y])))
theorem zb : MtM X "list.append" Gh := by
 intro pins s σ H x vs v us Q I rx rv h
 obtain ⟨l, xs, y, rfl, rfl, hH, hz, q⟩ := h
 cases rx
 obtain ⟨u, rfl, ru⟩ := rv.one
 obtain ⟨z, its, n, r, hl, e⟩ := I.Hr hH
 refine call_meets F.slot_list_append ⟨_, e, rfl⟩ F.entry_list_append (F.args_list_append_2 _ _) (PySem.list_append l its.toArray n u (by rw [List.size_toArray]; omega)) ⟨e, ?_⟩
 refine ⟨.non, _, I.Ou (its' := its ++ [u]) hH e (by simp) (r.append (.cons ru .nil)) ?_, rfl, q⟩
 rw [List.length_append, List.length_singleton]
 omega
def Oq : R2 := fun x y H Q => ∃ l b xs zs, x = .ref l ∧ y = .ref b ∧ H l = some (.lst xs) ∧ H b = some (.lst zs) ∧ xs.length + zs.length ≤ sizeLine ∧ ∀ p, H p = none → Q (.ref p) (upd H p (.lst (xs ++ zs)))
theorem K4 : OpR X (binaryOp .Add) Oq := by
 intro pins s σ H x y v u Q I rx ry h
 obtain ⟨l, b, xs, zs, rfl, rfl, hH, hB, hz, q⟩ := h
 cases rx
 cases ry
 obtain ⟨z, its, n, r, hl, e⟩ := I.Hr hH
 obtain ⟨z2, its2, n2, r2, hl2, e2⟩ := I.Hr hB
 refine PySem.P.add_list e e2 ?_ (by rw [List.size_toArray, List.size_toArray]; omega)
 have ea : its.toArray ++ its2.toArray = (its ++ its2).toArray := by simp
 rw [ea]
 exact ⟨.ref _, _, I.NQ (t' := s.toks) (r.append r2) (by rw [List.length_append]; omega), rfl, q _ I.fresh⟩
def Oi : R2 := fun x y H Q => ∃ l k xs, x = .ref l ∧ y = .int k ∧ H l = some (.lst xs) ∧ -(2 ^ 63) ≤ k ∧ k < 2 ^ 63 ∧ xs.length * k.toNat ≤ sizeLine ∧
 ∀ p, H p = none → Q (.ref p) (upd H p (.lst (List.replicate k.toNat xs).flatten))
theorem len_rep {α : Type} (xs : List α) (k : Nat) : (List.replicate k xs).flatten.length = k * xs.length := by
 induction k with
 | zero => simp
 | succ k ih => rw [List.replicate_succ, List.flatten_cons, List.length_append, ih, Nat.succ_mul, Nat.add_comm]
theorem KR : OpR X (binaryOp .Mult) Oi := by
 intro pins s σ H x y v u Q I rx ry h
 obtain ⟨l, k, xs, rfl, rfl, hH, h1, h2, hz, q⟩ := h
 cases rx
 obtain ⟨t, rfl⟩ := ry
 obtain ⟨z, its, n, r, hl, e⟩ := I.Hr hH
 have hlen : its.toArray.size * k.toNat ≤ sizeLine := by rw [List.size_toArray, ← hl]; exact hz
 have hcap : ¬ its.toArray.size * k.toNat > (2 ^ 63 - 1) / 8 := by
  have : (sizeLine : Nat) ≤ (2 ^ 63 - 1) / 8 := by decide
  omega
 have hfit : ¬ (!Builtin.List.listFitsIndex k) = true := by
  rw [fitsIndex_both h1 h2]
  exact Bool.false_ne_true
 have hlong : ¬ Builtin.List.listTooLong (its.toArray.size * k.toNat) = true := by
  rw [CQ hlen]
  exact Bool.false_ne_true
 have hnew : List.foldl (fun x1 x2 => x1 ++ x2) #[] (List.replicate (if its.toArray.isEmpty = true then 0 else k.toNat) its.toArray) = (List.replicate k.toNat its).flatten.toArray := by
  have f0 : ∀ m : Nat, List.foldl (fun x1 x2 => x1 ++ x2) #[] (List.replicate m its.toArray) = (List.replicate m its).flatten.toArray := fun m => by
   have := foldl_rep its m []
   rw [List.nil_append] at this
   exact this
  rw [f0]
  cases its with
  | nil => simp
  | cons a r' => rw [if_neg (by simp)]
 refine wpAny_binaryOp_repeat_ref (T := "list") (U := "int") (by decide) ⟨_, e, rfl⟩ (fun s' => typeIs_int s' k t) noFill_list_mul F.fills_int_mul F.slot_int_rmul repeat_list F.slot_int_index.lookup
  (call_meets F.slot_int_rmul (typeIs_int s k t) F.entry_int_rmul (F.args_int_rmul_2 _ _) (int___rmul___int_list k t l its.toArray n)
   ⟨e, rfl, ⟨_, e, rfl⟩, call_meets F.slot_list_mul ⟨_, e, rfl⟩ F.entry_list_mul (F.args_list_mul_2 _ _) (AutoListH.list___mul___list_int_3 l its.toArray n k t hfit hcap hlong) ⟨e, ?_⟩⟩)
 rw [hnew]
 exact ⟨.ref _, _, I.NQ (t' := s.toks) (r.rep k.toNat) (by rw [len_rep, Nat.mul_comm]; exact hz), rfl, q _ I.fresh⟩
end
section
variable {prog : Program} {w : World} {A : Around} {E : Value → Shared → Prop} {s : Shared}
end
section
variable {X : Cx}
end
end L2
namespace Att
open PySem PySem.W PySem.Calls PyProof.Rows
theorem lU {P : Params} {h : Heap} : ∀ (ns : List Int) (vs : List Value), WellAll P h vs (ns.map WData.int) → IntsAre vs ns := by
 intro ns
 induction ns with
 | nil =>
  intro vs w
  rw [List.map_nil] at w
  cases w
  exact .nil
 | cons n ns ih =>
  intro vs w
  rw [List.map_cons] at w
  cases w with
  | cons a b =>
   cases a
   exact .cons _ _ (ih _ b)
theorem yr {l : OpenLaw} {n : Nat} (hn : l.most = some n) {P : Params} {h : Heap} {args : List WData} {vals : List Value}
  (hpre : l.row.toRowW.claim.pre args = true) (hwl : WellAll P h vals args) :
  ∃ a vs ns, vals = [Value.ref a] ∧ args = [WData.list (ns.map WData.int)] ∧ h.get? a = some { cls := .type "list", data := .seq vs.toArray } ∧ IntsAre vs ns ∧ ns.length ≤ n := by
 have hsh : WShape.hasAll [] args [.list .int] = true := (pre_splitW hpre).1
 have hc : l.pre.holds [] { args := args } = true := (pre_splitW hpre).2
 obtain ⟨d, r, rfl, h1, h2⟩ := hasAllW_cons hsh
 obtain rfl := hasAllW_nil h2
 obtain ⟨xs, rfl, h3⟩ := hasW_list h1
 obtain ⟨ns, rfl⟩ := items_int h3
 have hlen : ns.length ≤ n := by
  unfold OpenLaw.pre at hc
  have h4 : (WTm.not (.lt (.lit (.int (n : Int))) (.len (.arg 0)))).holds [] { args := [.list (ns.map .int)] } = true := by
   have h4 := (holds_andW hc).1
   rw [hn] at h4
   exact h4
  have h5 := condW_of h4 (w_not (w_lt w_lit (w_len_list (w_arg rfl))))
  rw [List.length_map] at h5
  refine Nat.le_of_not_lt fun q => ?_
  have q' : (n : Int) < ((ns.length : Nat) : Int) := by omega
  first
   | (rw [decide_eq_true q'] at h5; exact absurd h5 (by decide))
   | (simp at h5; omega)
 cases hwl with
 | cons w1 w2 =>
  cases w2
  cases w1 with
  | list ho hall => exact ⟨_, _, ns, rfl, rfl, ho, lU ns _ hall, hlen⟩
theorem yK (l : OpenLaw) (args : List WData) : l.row.toRowW.claim.post args (.bool true) args = true :=
 postW_of (r := l.row.toRowW) (X := (true == true))
  (show WShape.has [] (.bool true) .bool = true by first | rfl | decide | simp [WShape.has, WShape.arms, WShape.armsAll])
  (show (WTm.eq .res (.lit (.bool true))).value [] { args := args, res := some (.bool true), after := args } = some (.bool (true == true)) from w_eq_bool (w_res rfl) w_lit) rfl
theorem uN {l : OpenLaw} {n : Nat} {q : Program} {loose : List Str} {XP : (Str → Option Value) → Heap → Prop} {YP : World → Heap → Prop} {d : DefRec}
  (hn : l.most = some n) (hdf : d.params.defaults = [])
  (call : ∀ (w : World) (s₀ s₁ : Shared) (mg mb : Str → Option Value) (fa : Addr) (o : Obj) (pm cd doc : Value) (a : Addr) (vs : List Value) (ns : List Int),
   Ground q loose [] XP w s₀ mg mb s₁.heap → YP w s₁.heap →
   s₁.heap.get? fa = some o → o.data = .func (docDef d.name d.params d.body d.scope pm cd doc) → s₁.heap.CodeRec cd d.name → mg d.name = some (.ref fa) →
   s₁.heap.get? a = some { cls := .type "list", data := .seq vs.toArray } → IntsAre vs ns → ns.length ≤ n → s₁.gens = #[] →
   codeAny (model l.prog w) callerA (.call (.ref fa) ⟨[.ref a], []⟩) (fun r s' => r = .ok (.ret (.bool true)) ∧ OldK s₁.heap s'.heap ∧ s'.os = s₁.os ∧ AllBare s'.gens) s₁) :
  WalkO q loose XP YP l.row.toRowW d [] (fun f vs => PySem.call f vs) := by
 intro w s₀ s₁ mg mb G Y fa o pm cd doc dV kV ho hd hcd hD hmg hg args vals as hpre hlay hrd hwl hlo
 obtain rfl : dV = .none := Dflts.none hD hdf
 obtain rfl : kV = .none := Dflts.noKw hD
 obtain ⟨a, vs, ns, rfl, rfl, hobj, hints, hlen⟩ := yr hn hpre hwl
 refine enter_call (codeAny_mono (call w s₀ s₁ mg mb fa o pm cd doc a vs ns G Y ho (fd_plain hd) hcd hmg hobj hints hlen hg) fun r s' hq => ?_)
 obtain ⟨rfl, h2, h3, h4⟩ := hq
 exact ⟨.inl ⟨.bool true, .bool true, [], rfl, fun _ => rfl, .bool true, yK l _, fun _ => ⟨List.Pairwise.nil, fun _ hm => (nomatch hm)⟩⟩, h2, h3, h4⟩
section
variable {prog : Program} {w : World} {A : Around} {E : Value → Shared → Prop} {s : Shared} {K : Frag}
end
end Att
namespace L2
open PySem PySem.Spec PyProof.Rows
theorem pJ : ∀ {vs : List Value} {ns : List Int}, IntsAre vs ns → Vals (ns.map V.int) vs
 | _, _, .nil => .nil
 | _, _, .cons n t h => .cons ⟨t, rfl⟩ (pJ h)
def Only (H : Hp) : Prop := ∀ b, H b = none ∨ ∃ o xs, H b = some (.frz o (.lst xs))
theorem Dg {P : Program} {w : World} {K : PySem.W.Frag} {mg mb : Str → Option Value} {CX : CXT} {k : Nat} {fa a : Addr} {fd : FuncData} {x : Str} {sp : Sp} {s₁ : Shared} {vs : List Value} {ns : List Int}
  (KX : K.In s₁.heap) (hns : s₁.heap.Ns mainGlobals mg) (hb : s₁.heap.Ns builtinsNs mb) (hbb : ∀ x : Str, x ≠ "__name__" → mb x = bootBuiltins x) (hlim : s₁.heap.NoLimit) (hg : s₁.gens = #[])
  (ha : s₁.heap.get? a = some { cls := .type "list", data := .seq vs.toArray }) (hi : IntsAre vs ns) (hl : ns.length ≤ sizeLine) (hr : eY k callerA)
  (F : ∀ base : Heap, K.In base → base.Ns mainGlobals mg → dj P w K mg base CX k fa fd [x] sp) (hbind : ∀ (s : Shared) (u : Value), BindsTo s fd ⟨[u], []⟩ [(x, u)])
  (hsp : ∀ H : Hp, Only H → SqL K H a (ns.map V.int) → sp [.ref a] H (fun v _ => v = .bl true) fun _ _ _ => False)
  (hCX : ∀ H e s', CX [] H s₁ (fun _ _ _ => False) e s' → False) :
  codeAny (model P w) callerA (.call (.ref fa) ⟨[.ref a], []⟩) (fun r s' => r = .ok (.ret (.bool true)) ∧ OldK s₁.heap s'.heap ∧ s'.os = s₁.os ∧ AllBare s'.gens) s₁ := by
 have rv := pJ hi
 have lenV := hi.length
 -- from an abstract heap in which nothing but the script may be tracked
 have core : ∀ H : Hp, Only H → SqL K H a (ns.map V.int) → HOk P w H s₁.heap → (∀ b, H b ≠ none → b = a) → (H a ≠ none → K.lookup a = none) →
   codeAny (model P w) callerA (.call (.ref fa) ⟨[.ref a], []⟩) (fun r s' => r = .ok (.ret (.bool true)) ∧ OldK s₁.heap s'.heap ∧ s'.os = s₁.os ∧ AllBare s'.gens) s₁ := by
  intro H hO hS hok hA hK
  have base_of : ∀ {b : Addr} {o : Obj}, s₁.heap.get? b = some o → H b = none → (rR s₁.heap H).get? b = some o := fun e n => Du e n
  have noA : ∀ {b : Addr} {o : Obj} {es : Array DictEntry} {ep : Nat}, s₁.heap.get? b = some o → o.data = .dict es ep → H b = none := fun {b o es ep} e d => by
   cases q : H b with
   | none => rfl
   | some u =>
    have e' : b = a := hA b (by rw [q]; simp)
    subst e'
    rw [ha] at e; cases e
    have d' : Data.seq vs.toArray _ = Data.dict es ep := d
    cases d'
  have nsK : ∀ {b : Addr} {m : Str → Option Value}, s₁.heap.Ns b m → (rR s₁.heap H).Ns b m := fun {b m} ⟨o, es, ep, e, d, r⟩ => ⟨o, es, ep, base_of e (noA e d), d, r⟩
  have hKb : K.In (rR s₁.heap H) := fun b o e => base_of (KX b o e) (by
   cases q : H b with
   | none => rfl
   | some u =>
    have e' : b = a := hA b (by rw [q]; simp)
    subst e'
    rw [hK (by rw [q]; simp)] at e; cases e)
  have hM : Mod K mg (rR s₁.heap H) := ⟨hKb, nsK hns, ⟨mb, nsK hb, hbb⟩, let ⟨mc, h1, h2⟩ := hlim; ⟨mc, nsK h1, h2⟩⟩
  have e0 : Jc P w K mg (rR s₁.heap H) callerA [] s₁ H := ⟨rfl, hM, fun b o e => Hl e, Nat.le_of_eq (zq _ _), trivial, fun b hb => absurd (show b ∈ ([] : List Addr) from hb) (by simp), hok, .of_eq hg⟩
  refine codeAny_mono ((F _ hKb (nsK hns)).run callerA [] s₁ H ⟨[.ref a], []⟩ [.ref a] [.ref a] _ _ hr e0 (hbind s₁ (.ref a)) (.cons rfl .nil) (hsp H hO hS)) fun r s' h => ?_
  cases r with
  | error e => exact (hCX H e s' h).elim
  | ok fl =>
   cases fl with
   | next => exact False.elim h
   | brk => exact False.elim h
   | cont => exact False.elim h
   | ret u =>
    obtain ⟨v, H', os, bare, un, hok', r', q⟩ := h
    have q' : v = .bl true := q
    subst q'
    obtain rfl : u = Value.bool true := r'
    refine ⟨rfl, OldK.of_keep fun b o e => ?_, os, bare⟩
    cases q : H b with
    | none => exact un.keep b o e q (by intro z; exact absurd (show b ∈ ([] : List Addr) from z) (by simp)) (by simp)
    | some u =>
     rcases hO b with z | ⟨ob, xs, z⟩
     ·rw [q] at z; cases z
     ·have z2 := un.frzs b ob _ z
      obtain ⟨e1, _⟩ := hok b _ z
      obtain ⟨e2, _⟩ := hok' b _ z2
      rw [e] at e1; cases e1
      exact e2
 cases hk : K.lookup a with
 | some o =>
  -- the script is one of the module's own objects
  have e := KX a o hk
  rw [ha] at e
  cases e
  refine core (fun _ => none) (fun _ => .inl rfl) (.inr ⟨_, vs.toArray, _, hk, rfl, rfl, rfl, by rw [List.size_toArray, lenV]; exact hl, by simpa using rv⟩) (fun b u z => by have z' : (none : Option HO) = some u := z; cases z') (fun b z => absurd rfl z) fun z => absurd rfl z
 | none =>
  refine core (fun b => if b = a then some (.frz { cls := .type "list", data := .seq vs.toArray } (.lst (ns.map V.int))) else none) (fun b => ?_) (.inl (.inr ⟨{ cls := .type "list", data := .seq vs.toArray }, if_pos rfl⟩)) (fun b u z => ?_) (fun b z => ?_) fun _ => hk
  ·by_cases hb : b = a
   ·exact .inr ⟨_, _, if_pos hb⟩
   ·exact .inl (if_neg hb)
  ·by_cases hb : b = a
   ·have z' := (if_pos hb).symm.trans z
    cases z'
    subst hb
    exact ⟨ha, by rw [List.length_map]; exact hl, vs, _, rv, ha⟩
   ·have z' := (if_neg hb).symm.trans z
    cases z'
  ·by_cases hb : b = a
   ·exact hb
   ·exact absurd (if_neg hb) z
theorem Ej {l : PySem.W.OpenLaw} {n k : Nat} {q : Program} {loose : List Str} {XP : (Str → Option Value) → Heap → Prop} {YP : World → Heap → Prop} {d : DefRec} {K : Params → PySem.W.Frag} {CX : World → CXT} {sp : World → Sp} {x : Str}
  (hn : l.most = some n) (hn2 : n ≤ sizeLine) (hdf : d.params.defaults = []) (hr : eY k callerA)
  (hY : ∀ (w : World) (h : Heap), YP w h → (K w.params).In h)
  (F : ∀ (w : World) (mg : Str → Option Value) (fa : Addr) (h : Heap), (K w.params).In h → h.Ns mainGlobals mg → mg d.name = some (.ref fa) →
   ∃ fd : FuncData, (∀ (s : Shared) (u : Value), BindsTo s fd ⟨[u], []⟩ [(x, u)]) ∧
    ∀ base : Heap, (K w.params).In base → base.Ns mainGlobals mg → dj l.prog w (K w.params) mg base (CX w) k fa fd [x] (sp w))
  (hsp : ∀ (w : World) (H : Hp) (a : Addr) (ns : List Int), ns.length ≤ n → Only H → SqL (K w.params) H a (ns.map V.int) → sp w [.ref a] H (fun v _ => v = .bl true) fun _ _ _ => False)
  (hCX : ∀ (w : World) (H : Hp) (s : Shared) (e : Value) (s' : Shared), CX w [] H s (fun _ _ _ => False) e s' → False) :
  PySem.W.WalkO q loose XP YP l.row.toRowW d [] (fun f vs => PySem.call f vs) := by
 refine Att.uN hn hdf fun w s₀ s₁ mg mb fa o pm cd doc a vs ns G Y ho hd hcd hmg hobj hints hlen hg => ?_
 have KX := hY w _ Y
 obtain ⟨fd, hb, hF⟩ := F w mg fa _ KX G.T.g hmg
 exact Dg KX G.T.g G.T.b G.T.builtins G.T.nolimit hg hobj hints (Nat.le_trans hlen hn2) hr hF hb (fun H hO hS => hsp w H a ns hlen hO hS) fun H e s' => hCX w H s₁ e s'
def bA (s : Stmt) : Arguments := match s with
 | .FunctionDef _ a _ _ _ _ _ _ _ _ => a
 | _ => { posonlyargs := [], args := [], vararg := none, kwonlyargs := [], kw_defaults := [], kwarg := none, defaults := [] }
def aZ (s : Stmt) : List Stmt := match s with
 | .FunctionDef _ _ b _ _ _ _ _ _ _ => b
 | _ => []
def ak (s : Stmt) : Scope := match s with
 | .FunctionDef _ _ _ _ _ _ sc _ _ _ => sc
 | _ => { kind := .function, names := [], isGenerator := false, isCoroutine := false }
abbrev CX0 : CXT := fun _ _ _ _ _ _ => False
abbrev E0 : XK := fun _ _ _ => False
theorem Nr {X : Cx} : wk CX0 X E0 := fun _ _ _ _ _ _ _ h => h.elim
structure Fun (K : PySem.W.Frag) (x qual : Str) (st : Stmt) (f : Addr) (fd : FuncData) : Prop where
 ex : ∃ (oc : Value) (od : Option Addr) (kV doc pm : Value) (an : Option Addr) (cdv ct : Value) (osl : Array (Option Value)),
  fd = PySem.W.fnOf x qual (bA st) (aZ st) (ak st) .none kV doc pm an cdv ct ∧ K.lookup f = some ⟨oc, od, .func fd, osl⟩ ∧ PySem.W.codeIn K cdv qual = true
 kp : PySem.W.keepIn K (.ref f) = true
section
variable {P : Program} {w : World} {K : PySem.W.Frag} {mg : Str → Option Value} {base : Heap}
theorem Fun.ok {x qual : Str} {st : Stmt} {f : Addr} {fd : FuncData} {N ps : List Str} {k : Nat} {sp : Sp} (F : Fun K x qual st f fd) (S : bB N ps (ak st)) (len : ∀ vs H Q E, sp vs H Q E → vs.length = ps.length)
  (hbody : ∀ (cdv : Value) (A : Around) (outer : List Env) (s : Shared) (H : Hp) (vs : List V) (Q : VK) (E : XK), eY k (A.deeper (envOfC qual (ak st) s.heap.objs.size f cdv)) → sp vs H Q E →
   ∃ t, PSs (vV CX0 P w K mg base N qual (ak st) f cdv A outer s H E).nox (aZ st) t ∧ t { nx := fun _ H' => Q .non H', rt := Q } (start N vs) H) : dj P w K mg base CX0 (k + 1) f fd ps sp := by
 obtain ⟨oc, od, kV, doc, pm, an, cdv, ct, osl, rfl, lk, hcd⟩ := F.ex
 refine N6 lk hcd S len fun A outer s H vs Q E hr hsp => ?_
 obtain ⟨t, h, q⟩ := hbody cdv A outer s H vs Q E hr hsp
 exact ⟨t, h.nox, q⟩
theorem Fun.binds {x qual : Str} {st : Stmt} {f : Addr} {fd : FuncData} {ps : List Str} (F : Fun K x qual st f fd)
  (h : ∀ (kV doc pm : Value) (an : Option Addr) (cdv ct : Value) (us : List Value), us.length = ps.length → bindArgs (PySem.W.fnOf x qual (bA st) (aZ st) (ak st) .none kV doc pm an cdv ct) ⟨us, []⟩ = pure (ps.zip us)) : Binds K fd ps [] := by
 obtain ⟨oc, od, kV, doc, pm, an, cdv, ct, osl, rfl, lk, hcd⟩ := F.ex
 exact .all (h kV doc pm an cdv ct)
theorem aR {x qual : Str} {st : Stmt} {f : Addr} {oc : Value} {od an : Option Addr} {osl : Array (Option Value)} {kV doc pm cdv ct : Value} (l : K.lookup f = some ⟨oc, od, .func (PySem.W.fnOf x qual (bA st) (aZ st) (ak st) .none kV doc pm an cdv ct), osl⟩)
  (c : PySem.W.codeIn K cdv qual = true) (k : PySem.W.keepIn K (.ref f) = true) : Fun K x qual st f (PySem.W.fnOf x qual (bA st) (aZ st) (ak st) .none kV doc pm an cdv ct) := ⟨⟨oc, od, kV, doc, pm, an, cdv, ct, osl, rfl, l, c⟩, k⟩
end
section
variable {X : Cx}
end
def Same (H H' : Hp) : Prop := ∀ b o, H b = some o → H' b = some o
theorem Same.refl (H : Hp) : Same H H := fun _ _ h => h
theorem Same.trans {H H1 H2 : Hp} (a : Same H H1) (b : Same H1 H2) : Same H H2 := fun c o h => b c o (a c o h)
theorem Same.seq {K : PySem.W.Frag} {H H' : Hp} {a : Addr} {xs : List V} (e : Same H H') (h : SqL K H a xs) : SqL K H' a xs := by
 rcases h with (h | ⟨o, h⟩) | h
 ·exact .inl (.inl (e _ _ h))
 ·exact .inl (.inr ⟨o, e _ _ h⟩)
 ·exact .inr h
end L2
set_option maxHeartbeats 4000000
namespace L2
open PySem PySem.Spec PyProof.Rows
theorem oJ {env : Env} : ∀ (names : List (Str × NameKind)) (acc : List (Str × Addr)),
  (∀ y ∈ names, y.2 = .free → ∃ c, env.cells.lookup y.1 = some c) → (∀ x c, acc.lookup x = some c → env.cells.lookup x = some c) →
  ∃ cl, (forIn names acc fun (y : Str × NameKind) (r : List (Str × Addr)) => (match y with
   | (name, kind) => if (kind == .free) = true then (do let a ← cellOf env name; pure (ForInStep.yield ((name, a) :: r))) else pure (ForInStep.yield r) : Sem (ForInStep (List (Str × Addr))))) = pure cl ∧
   (∀ x c, cl.lookup x = some c → env.cells.lookup x = some c) ∧ (∀ y ∈ names, y.2 = .free → ∃ c, cl.lookup y.1 = some c) ∧ (∀ x c, acc.lookup x = some c → ∃ c', cl.lookup x = some c')
 | [], acc, _, ha => ⟨acc, rfl, ha, fun _ h => (nomatch h), fun x c h => ⟨c, h⟩⟩
 | (n, k) :: r, acc, hf, ha => by
  have hf' : ∀ y ∈ r, y.2 = .free → ∃ c, env.cells.lookup y.1 = some c := fun y hy => hf y (List.mem_cons_of_mem _ hy)
  by_cases hk : k = .free
  ·subst hk
   obtain ⟨c0, e0⟩ := hf (n, .free) List.mem_cons_self rfl
   have hce : cellOf env n = pure c0 := by unfold cellOf; rw [e0]
   have ha2 : ∀ x c, ((n, c0) :: acc).lookup x = some c → env.cells.lookup x = some c := fun x c h => by
    rw [List.lookup_cons] at h
    cases hx : x == n with
    | true =>
     rw [hx] at h
     have e1 : x = n := by simpa using hx
     rw [e1, e0]
     exact h
    | false =>
     rw [hx] at h
     exact ha x c h
   obtain ⟨cl, e, h1, h2, h3⟩ := oJ r ((n, c0) :: acc) hf' ha2
   refine ⟨cl, ?_, h1, fun y hy hz => ?_, fun x c h => ?_⟩
   ·rw [List.forIn_cons]
    simp only [beq_self_eq_true, if_true, hce]
    exact e
   ·rcases List.mem_cons.mp hy with q | q
    ·subst q
     exact h3 n c0 (by simp)
    ·exact h2 y q hz
   ·cases hx : x == n with
    | true => exact h3 x c0 (by rw [List.lookup_cons, hx])
    | false => exact h3 x c (by rw [List.lookup_cons, hx]; exact h)
  ·have hb : (k == NameKind.free) = false := by simpa using hk
   obtain ⟨cl, e, h1, h2, h3⟩ := oJ r acc hf' ha
   refine ⟨cl, ?_, h1, fun y hy hz => ?_, h3⟩
   ·rw [List.forIn_cons]
    simp only [hb, Bool.false_eq_true, if_false]
    exact e
   ·rcases List.mem_cons.mp hy with q | q
    ·subst q
     exact absurd hz hk
    ·exact h2 y q hz
theorem xW {env : Env} {scope : Scope} (hf : ∀ y ∈ scope.names, y.2 = .free → ∃ c, env.cells.lookup y.1 = some c) :
  ∃ cl, closureFor scope env = pure cl ∧ (∀ x c, cl.lookup x = some c → env.cells.lookup x = some c) ∧ (∀ y ∈ scope.names, y.2 = .free → ∃ c, cl.lookup y.1 = some c) := by
 obtain ⟨cl, e, h1, h2, _⟩ := oJ (env := env) scope.names [] hf (fun x c h => by simp at h)
 refine ⟨cl, ?_, h1, h2⟩
 unfold closureFor
 show (forIn scope.names [] _ >>= fun r => pure r) = _
 rw [show (forIn scope.names ([] : List (Str × Addr)) fun (y : Str × NameKind) (r : List (Str × Addr)) => (match y with
   | (name, kind) => if (kind == .free) = true then (do let a ← cellOf env name; pure (ForInStep.yield ((name, a) :: r))) else pure (ForInStep.yield r) : Sem (ForInStep (List (Str × Addr))))) = pure cl from e]
 rfl
section
variable {prog : Program} {w : World} {A : Around} {R : Result → Shared → Prop} {s : Shared}
theorem qu {elt tg iter : Expr} {ifs : List Expr} {scope : Scope} {pos : Pos} {it acc : Value} {env : Env} (J : Nat → Shared → Prop)
  (turn : ∀ n s, J n s → wpAny (model prog w) A (pyNext it) (fun r s1 => match r with
   | none => R (.ok .next) s1
   | some v => wpAny (model prog w) A (letOwnedTupleGo tg it v) (fun _ s1' => wpAny (model prog w) A (assign tg env v) (fun _ s2 =>
     wpAny (model prog w) A (forIn ifs true fun c r => if r = true then do let ok ← isTrue c env (eval c env); pure (ForInStep.yield ok) else pure (ForInStep.yield r)) (fun ok s3 =>
      if ok = true then wpAny (model prog w) A (eval elt env) (fun x s4 =>
       wpAny (model prog w) A (call (.builtin "list.append") [acc, x]) (fun _ s5 => ∃ m, m < n ∧ J m s5) (notedBy (model prog w) A env fun e z => R (.error e) z) s4) (notedBy (model prog w) A env fun e z => R (.error e) z) s3
      else ∃ m, m < n ∧ J m s3) (notedBy (model prog w) A env fun e z => R (.error e) z) s2) (notedBy (model prog w) A env fun e z => R (.error e) z) s1') (notedBy (model prog w) A env fun e z => R (.error e) z) s1) (notedBy (model prog w) A env fun e z => R (.error e) z) s)
  (n : Nat) (h : J n s) : codeAny (model prog w) A (.compLoop (.ListComp elt [⟨tg, iter, ifs, 0⟩] scope pos) 0 it acc env) R s := by
 refine codeAny_loop rfl J (fun n z hJ => ?_) n h
 show wpAny _ A ((compTurn (.ListComp elt [⟨tg, iter, ifs, 0⟩] scope pos) 0 it acc env).onRaise (fun y => do noteFrame y env; theTreesLotGoes y)) _ _ z
 refine wpAny_noted ?_
 rw [compTurn_list]
 refine wpAny_bind (wpAny_standAt (wpAny_bind (wpAny_mono (turn n z hJ) (fun r s1 h1 => ?_) fun _ _ q => q)))
 cases r with
 | none => exact wpAny_pure h1
 | some v =>
  refine wpAny_bind (wpAny_mono h1 (fun _ s1' h1' => ?_) fun _ _ q => q)
  refine wpAny_bind (wpAny_mono h1' (fun _ s2 h2 => wpAny_bind (wpAny_mono h2 (fun ok s3 h3 => ?_) fun _ _ q => q)) fun _ _ q => q)
  cases ok with
  | false => exact wpAny_pure ⟨rfl, h3⟩
  | true =>
   exact wpAny_bind (wpAny_bind (wpAny_mono h3 (fun x s4 h4 => wpAny_bind (wpAny_mono h4 (fun _ s5 h5 => wpAny_pure (wpAny_pure ⟨rfl, h5⟩)) fun _ _ q => q)) fun _ _ q => q))
end
def gj (mp : List (Option Nat)) (σ : St) : St := mp.map fun o => match o with
 | some j => (σ[j]?).join
 | none => none
def bD (X : Cx) (N : List Str) (scope : Scope) (cl : List (Str × Addr)) (C : Addr) (s : Shared) (H : Hp) (fp : List Addr) : Cx :=
 { X with N := N, s₀ := s, H₀ := H, env := compEnvC scope cl C X.env, outer := X.stack, stack := X.stack, ex := fp, fn := fun _ => false, pn := [], xe := fun _ _ => False }
def jg (NX : List Str) (names : List (Str × NameKind)) : List Str → List (Option Nat) → Bool
 | [], [] => true
 | x :: r, o :: q => (match o with
   | none => names.lookup x == some .local
   | some j => NX[j]? == some x && names.lookup x == some .free) && jg NX names r q
 | _, _ => false
theorem qg {NX : List Str} {names : List (Str × NameKind)} : ∀ {N : List Str} {mp : List (Option Nat)} {i j : Nat} {x : Str}, jg NX names N mp = true → N[i]? = some x → mp[i]? = some (some j) → NX[j]? = some x ∧ names.lookup x = some .free
 | [], _, i, _, _, _, h, _ => by simp at h
 | _ :: _, [], _, _, _, h, _, _ => by simp [jg] at h
 | y :: r, o :: q, 0, j, x, h, h1, h2 => by
  simp at h1 h2
  subst h1 h2
  unfold jg at h
  simp only [Bool.and_eq_true, beq_iff_eq] at h
  exact h.1
 | y :: r, o :: q, i + 1, j, x, h, h1, h2 => by
  unfold jg at h
  rw [Bool.and_eq_true] at h
  exact qg (i := i) h.2 (by simpa using h1) (by simpa using h2)
theorem qe {NX : List Str} {names : List (Str × NameKind)} : ∀ {N : List Str} {mp : List (Option Nat)}, jg NX names N mp = true → mp.length = N.length
 | [], [], _ => rfl
 | [], _ :: _, h => by simp [jg] at h
 | _ :: _, [], h => by simp [jg] at h
 | _ :: r, _ :: q, h => by
  unfold jg at h
  rw [Bool.and_eq_true] at h
  simp [qe h.2]
structure qG (NX : List Str) (kX : List (Str × NameKind)) (N : List Str) (mp : List (Option Nat)) (scope : Scope) : Prop where
 kind : scope.kind = .function
 nocell : ∀ y ∈ scope.names, y.2 ≠ .cell
 locs : ∀ y ∈ scope.names, y.2 = .local → scope.names.lookup y.1 = some .local
 fre : ∀ y ∈ scope.names, y.2 = .free → kX.lookup y.1 = some .cell ∨ kX.lookup y.1 = some .free
 map : jg NX scope.names N mp = true
def PTs (X : Cx) (cs : List Expr) (t : TT) : Prop :=
 ∀ (pins : List (Addr × Obj)) (s : Shared) (σ : St) (H : Hp) (Q : Bool → Hp → Prop), Inv X pins σ H s → t σ H Q →
  wpAny (model X.prog X.w) X.A (forIn cs true fun c r => if r = true then do let ok ← isTrue c X.env (eval c X.env); pure (ForInStep.yield ok) else pure (ForInStep.yield r)) (TP X pins σ Q) X.xe s
def Ep : TT := fun _ H Q => Q true H
theorem Gq {X : Cx} : PTs X [] Ep := fun _ _ _ H _ I h => wpAny_tests_nil ⟨H, I, h⟩
def pN (mp : List (Option Nat)) (wi : TI) (g : TG) (tc : TT) (te : TE) : TE := fun σ H Q => wi σ H fun J H1 =>
 ∃ W : Nat → Nat → List V → St → Hp → Prop, (∃ m, W 0 m [] (gj mp σ) H1) ∧ ∀ i m acc τ H2, W i m acc τ H2 →
  (J.stop i H2 ∧ ∀ d, H2 d = none → Q (.ref d) (upd H2 d (.lst acc))) ∨
  (J.go i H2 ∧ acc.length < sizeLine ∧ ∃ N : List V → St → Hp → Prop, (∀ acc' τ' H', N acc' τ' H' → ∃ m', m' < m ∧ W (i + 1) m' acc' τ' H') ∧ ∀ x H3, J.yld i H2 x H3 → g x τ H3 fun τ1 H4 => tc τ1 H4 fun b H5 =>
   if b = true then te τ1 H5 fun v H6 => N (acc ++ [v]) τ1 H6 else N acc τ1 H5)
theorem dJ {env : Env} : ∀ {names : List (Str × NameKind)} {x : Str} {k : NameKind}, (names.map fun (n, k) => if (k == NameKind.free && env.scope.kind == .function && env.kindOf n == some .cell) then (n, NameKind.cell) else (n, k)).lookup x = some k →
  names.lookup x = some k ∨ (k = .cell ∧ names.lookup x = some .free)
 | [], _, _, h => by simp at h
 | (n, k0) :: r, x, k, h => by
  have ih := @dJ env r x k
  rw [List.map_cons] at h
  by_cases hc : (k0 == NameKind.free && env.scope.kind == .function && env.kindOf n == some .cell) = true
  ·simp only [hc, if_true] at h
   cases hx : x == n with
   | true =>
    rw [List.lookup_cons, hx] at h
    have hk : k0 = .free := by
     rw [Bool.and_eq_true, Bool.and_eq_true] at hc
     simpa using hc.1.1
    right
    refine ⟨(Option.some.inj h).symm, ?_⟩
    rw [List.lookup_cons, hx, hk]
   | false =>
    rw [List.lookup_cons, hx] at h
    rw [List.lookup_cons, hx]
    exact ih h
  ·simp only [hc, if_false] at h
   cases hx : x == n with
   | true =>
    rw [if_neg (by simp), List.lookup_cons, hx] at h
    rw [List.lookup_cons, hx]
    exact .inl h
   | false =>
    rw [if_neg (by simp), List.lookup_cons, hx] at h
    rw [List.lookup_cons, hx]
    exact ih h
theorem na0 {b D E : Nat} (h : b < E) (hD : E = D) : b ≠ D := by omega
theorem na1 {b D E C : Nat} (h : b < E) (hD : E = D) (hC : C = D + 1) : b ≠ C := by omega
theorem na2 {C D : Nat} (hC : C = D + 1) : D ≠ C := by omega
theorem na3 {C D E : Nat} (hD : E = D) (hC : C = D + 1) : E ≤ C := by omega
theorem na4 {D E : Nat} (hD : E = D) : E ≤ D := by omega
section
variable {X : Cx} {NX N : List Str} {kX : List (Str × NameKind)} {mp : List (Option Nat)} {scope : Scope} {pins : List (Addr × Obj)} {σ : St} {s s' : Shared} {H : Hp} {fp : List Addr} {cl : List (Str × Addr)} {C : Addr}
theorem vX (hkX : X.env.scope.names = kX) (S : qG NX kX N mp scope) (I : Inv X pins σ H s) (hfp : ∀ b ∈ fp, kh X pins H b) (hold : ∀ b ∈ fp, b < s.heap.objs.size) (hC : s.heap.objs.size ≤ C)
  (hsub : ∀ x c, cl.lookup x = some c → X.env.cells.lookup x = some c) (hhas : ∀ y ∈ scope.names, y.2 = .free → ∃ c, cl.lookup y.1 = some c) : (bD X N scope cl C s H fp).Ok where
 mod := I.ok.mod
 kind := S.kind
 glob := I.ok.glob
 blt := I.ok.blt
 above := hC
 inj := fun x y c h1 h2 => I.ok.inj x y c (hsub x c h1) (hsub y c h2)
 has := fun x h => by
  have key : scope.names.lookup x = some .free := by
   rcases h with h | h
   ·rcases dJ (env := X.env) (names := scope.names) h with q | ⟨_, q⟩
    ·exact absurd rfl (S.nocell _ (PySem.mem_of_lookup q))
    ·exact q
   ·rcases dJ (env := X.env) (names := scope.names) h with q | ⟨q, _⟩
    ·exact q
    ·cases q
  exact hhas _ (PySem.mem_of_lookup key) rfl
 cab := fun x c h => by cases h
 hd := I.ok.hd
 frames := I.ok.frames
 stk := .inl rfl
 exf := fun b hb => ⟨Nat.ne_of_lt (Nat.lt_of_lt_of_le (hold b hb) hC), fun x c e => (hfp b hb).2.2.2.2.1 x c (hsub x c e)⟩
 bs := I.bs
 bsz := Nat.le_trans I.ok.bsz I.sz
 noex := fun b o e hb => by
  rcases (hfp b hb).2.2.2.1 with q | q
  ·exact I.ok.noex b o e q
  ·exact absurd (Nat.lt_of_lt_of_le (Nat.lt_of_lt_of_le (Heap.lt_size e) I.ok.bsz) q) (Nat.lt_irrefl _)
 exfs := fun b hb hz => by
  obtain ⟨_, h1, h2, _⟩ := hfp b hb
  rcases List.mem_cons.mp (I.mL b hz) with q | q
  ·exact h1 q
  ·exact h2 q
 lZ := I.stack
 frf := I.wB
theorem xV (hNX : X.N = NX) (hkX : X.env.scope.names = kX) (S : qG NX kX N mp scope) (I : Inv X pins σ H s) (hfp : ∀ b ∈ fp, kh X pins H b) (hold : ∀ b ∈ fp, b < s.heap.objs.size) (hC : s.heap.objs.size ≤ C)
  (hsub : ∀ x c, cl.lookup x = some c → X.env.cells.lookup x = some c) (hhas : ∀ y ∈ scope.names, y.2 = .free → ∃ c, cl.lookup y.1 = some c)
  (ho : s'.os = s.os) (hg : s'.gens = s.gens) (hn : ∃ m, s'.heap.Ns C m) (hk : ∀ b o, s.heap.get? b = some o → s'.heap.get? b = some o) {pl : List (Addr × Obj)}
  (hp : ∀ p ∈ pl, s'.heap.get? p.1 = some p.2 ∧ H p.1 = none ∧ p.1 ≠ C ∧ p.1 ∉ frs X.stack ∧ ∀ v, p.2.data ≠ .cell v) :
  Inv (bD X N scope cl C s H fp) pl (gj mp σ) H s' where
 ok := vX hkX S I hfp hold hC hsub hhas
 os := ho
 bare := by rw [hg]; exact I.bare
 base := Un.kept hk
 loc := by
  obtain ⟨m, hm⟩ := hn
  refine ⟨m, hm, fun i x v h1 h2 h3 => ?_⟩
  have h2' : (mp.map fun o => match o with | some j => (σ[j]?).join | none => none)[i]? = some (some v) := h2
  rw [List.getElem?_map] at h2'
  cases e : mp[i]? with
  | none => rw [e] at h2'; cases h2'
  | some o =>
   rw [e] at h2'
   cases o with
   | none => cases h2'
   | some j =>
    have h4 : (σ[j]?).join = some v := by simpa using h2'
    have h5 : σ[j]? = some (some v) := by
     cases q : σ[j]? with
     | none => rw [q] at h4; cases h4
     | some z => rw [q] at h4; rw [show z = some v from h4]
    obtain ⟨g1, g2⟩ := qg S.map h1 e
    have fk := S.fre _ (PySem.mem_of_lookup g2) rfl
    obtain ⟨m0, _, hl⟩ := I.loc
    have vis : Vis X.env.scope x := by
     rcases fk with q | q
     ·exact .inr (.inl (by rw [hkX]; exact q))
     ·exact .inr (.inr (by rw [hkX]; exact q))
    obtain ⟨u, r, l⟩ := hl j x v (by rw [hNX]; exact g1) h5 vis
    refine ⟨u, r, .inr ?_⟩
    have l' : ∃ c, X.env.cells.lookup x = some c ∧ s.heap.IsCell c (some u) := by
     rcases l with ⟨q, _⟩ | ⟨_, q⟩
     ·have q' : X.env.scope.names.lookup x = some .local := q
      rw [hkX] at q'
      rcases fk with z | z
      ·rw [q'] at z; cases z
      ·rw [q'] at z; cases z
     ·exact q
    obtain ⟨c, hc, oc, hoc, hd⟩ := l'
    obtain ⟨c', hc'⟩ := hhas _ (PySem.mem_of_lookup g2) rfl
    have ec : c' = c := by
     have := hsub x c' hc'
     rw [hc] at this
     exact (Option.some.inj this).symm
    subst ec
    refine ⟨?_, c', hc', oc, hk _ _ hoc, hd⟩
    rcases h3 with q | q | q
    ·rcases dJ (env := X.env) (names := scope.names) q with z | ⟨z, _⟩
     ·rw [g2] at z; cases z
     ·cases z
    ·exact .inl q
    ·exact .inr q
 cell := fun x c e => by
  obtain ⟨v, o, h1, h2⟩ := I.cell x c (hsub x c e)
  exact ⟨v, o, hk _ _ h1, h2⟩
 free := I.hok.fresh hC
 freeC := fun x c e => I.freeC x c (hsub x c e)
 pin := fun p hpp => hp p (by simpa [bD] using hpp)
 hok := I.hok.kept hk
 len := by
  show (mp.map _).length = N.length
  rw [List.length_map]
  exact qe S.map
set_option maxHeartbeats 8000000 in
theorem GQ {tg iter elt : Expr} {ifs : List Expr} {pos : Pos} {wi : TI} {g : TG} {tc : TT} {te : TE} (N : List Str) (mp : List (Option Nat)) (hNX : X.N = NX) (hkX : X.env.scope.names = kX) (S : qG NX kX N mp scope) (hc : X.calm = true)
  (hi : PI X tg iter wi) (hg : ∀ cl C s H fp, PG (bD X N scope cl C s H fp) tg g) (ht : ∀ cl C s H fp, PTs (bD X N scope cl C s H fp) ifs tc) (he : ∀ cl C s H fp, PE (bD X N scope cl C s H fp) elt te)
  (hs : ∀ x, foldedSetIterable iter X.env x = pure x := by intro _; rfl) : PE X (.ListComp elt [⟨tg, iter, ifs, 0⟩] scope pos) (pN mp wi g tc te) := by
 intro pins s σ H Q I h
 obtain ⟨cl, hcl, hsub, hhas⟩ := xW (env := X.env) (scope := scope) fun y hy hf => I.ok.has y.1 (by
  rcases S.fre y hy hf with q | q
  ·exact .inl (show X.env.scope.names.lookup y.1 = _ by rw [hkX]; exact q)
  ·exact .inr (show X.env.scope.names.lookup y.1 = _ by rw [hkX]; exact q))
 rw [eval_ListComp]
 refine wpAny_comprehension_free (use := none) rfl hs hcl S.kind S.locs ?_
 refine thn (hi pins s σ H _ I h) fun v s1 h1 => thn h1 fun itv s2 h2 => ?_
 obtain ⟨it, fp, tn, J, H2, e, I2, T, st2, f2, W, ⟨m0, w0⟩, turn⟩ := h2
 subst e
 refine wpAny_newObj_type (wpAny_newFunctionEnv S.nocell (by intro y hy; simp at hy) (fun h3 hns hsb => ?_) S.kind)
 dsimp only at hns hsb ⊢
 have hold : ∀ b ∈ fp, b < s2.heap.objs.size := fun b hb => by
  obtain ⟨o, q, _⟩ := T.obj _ _ st2 b hb
  exact Heap.lt_size q
 generalize hD : s2.heap.objs.size = D at hns hsb
 generalize hH2 : s2.heap.push { cls := .type "list", dict := none, data := .seq ([] : List Value).toArray } = P2 at hns hsb ⊢
 have hC : P2.objs.size = D + 1 := by rw [← hH2, Heap.size_push, hD]
 generalize hC' : P2.objs.size = C at hns hsb ⊢
 rw [hC'] at hC
 have old : ∀ b o, s2.heap.get? b = some o → h3.get? b = some o := fun b o q => by
  have hb := Heap.lt_size q
  exact hsb.extBut b o (na1 hb hD hC) (Heap.get?_push_of_some _ (hH2 ▸ Heap.get?_push_of_some _ q))
 have accD : h3.get? D = some { cls := .type "list", data := .seq ([] : List Value).toArray } :=
  hsb.extBut _ _ (na2 hC) (Heap.get?_push_of_some _ (by rw [← hH2, ← hD]; exact Heap.get?_push_size _ rfl))
 have hfr : D ∉ frs X.stack := fun z => by
  rcases List.mem_cons.mp (I2.mL D z) with q | q
  ·exact na0 I2.lt hD q.symm
  ·exact I2.K8 (na4 hD) q
 have I0 : Inv (bD X N scope cl C s2 H2 fp) [(D, { cls := .type "list", data := .seq ([] : List Value).toArray })] (gj mp σ) H2 { s2 with heap := h3, toks := s2.toks + ([] : List (Str × Value)).length } :=
  xV (s' := { s2 with heap := h3, toks := s2.toks + ([] : List (Str × Value)).length }) hNX hkX S I2 f2 hold (na3 hD hC) hsub hhas rfl rfl ⟨_, hns⟩ old fun p hp => by
   have ep := List.mem_singleton.mp hp
   subst ep
   exact ⟨accD, I2.hok.fresh (na4 hD), na2 hC, hfr, fun v z => by cases z⟩
 have T0 : tn 0 h3 := T.keep _ _ _ st2 fun b _ o q => old b o q
 have loop : ∀ z : Shared, z = { s2 with heap := h3, toks := s2.toks + ([] : List (Str × Value)).length } →
   codeAny (model X.prog X.w) X.A (.compLoop (.ListComp elt [⟨tg, iter, ifs, 0⟩] scope pos) 0 (.ref it) (.ref D) (compEnvC scope cl C X.env))
    (compPost (model X.prog X.w) X.A X.xe none (EP X pins σ Q) (.ref D) C) z := by
  rintro z rfl
  have stat : ∀ {H' : Hp} {pl : List (Addr × Obj)}, (∀ b ∈ fp, H' b = none) → (∀ p ∈ pl, p.1 = D) → ∀ b ∈ fp, kh (bD X N scope cl C s2 H2 fp) pl H' b := fun hn hp b hb => by
   have hb2 := hold b hb
   refine ⟨hn b hb, na1 hb2 hD hC, (vX hkX S I2 f2 hold (na3 hD hC) hsub hhas).exfs b hb, .inl hb, fun x c q => (f2 b hb).2.2.2.2.1 x c (hsub x c q), fun p hpp => ?_⟩
   have hpD := hp p (by simpa [bD] using hpp)
   rw [hpD]
   exact (na0 hb2 hD).symm
  refine qu (env := compEnvC scope cl C X.env) (fun n z => ∃ i acc τ H' its k, Inv (bD X N scope cl C s2 H2 fp) [(D, { cls := .type "list", data := .seq (List.toArray its) k })] τ H' z ∧ tn i z.heap ∧ (∀ b ∈ fp, H' b = none) ∧ Vals acc its ∧ acc.length ≤ sizeLine ∧ W i n acc τ H')
   ?_ m0 ⟨0, [], _, H2, [], 0, I0, T0, fun b hb => (f2 b hb).1, .nil, Nat.zero_le _, w0⟩
  rintro n s5 ⟨i, acc, τ, H5, its, k, I5, st5, fr5, va, hz, w5⟩
  rcases turn i n acc τ H5 w5 with ⟨stop, qn⟩ | ⟨go, hz2, N9, hN9, step⟩
  ·refine thn (T.done (bD X N scope cl C s2 H2 fp) rfl rfl rfl hc i _ s5 τ H5 _ I5 (stat fr5 (by simp)) st5 stop) fun r s6 ⟨hr, I6⟩ => ?_
   subst hr
   obtain ⟨m6, hn6, _⟩ := I6.loc
   refine ⟨m6, hn6, fun h' sb => ?_⟩
   obtain ⟨dD, nD, _, _, _⟩ := I6.pin (D, _) (List.mem_append_right _ (List.mem_singleton.mpr rfl))
   have U := I6.base
   have nC : H5 C = none := I6.free
   have ne : ∀ b o, s2.heap.get? b = some o → b ≠ C ∧ b ≠ D := fun b o q => by
    exact ⟨na1 (Heap.lt_size q) hD hC, na0 (Heap.lt_size q) hD⟩
   have keepC : ∀ b o, b ≠ C → s6.heap.get? b = some o → h'.get? b = some o := fun b o hb q => (sb.2 b hb).trans q
   have U' : Un (frs X.stack) fp H2 (upd H5 D (.lst acc)) s2.heap h' := by
    refine ⟨fun b o q n1 hb hx => keepC b o (ne b o q).1 (U.keep b o q n1 hb hx), fun b o q n1 hb hx => ?_, fun b o q n1 hx => ?_, fun b o q hx => ?_, fun b xs q => ?_, fun b o xs q => ?_, fun b ps q => ?_⟩
    ·obtain ⟨sl, z⟩ := U.slot b o q n1 hb hx
     exact ⟨sl, keepC b _ (ne b o q).1 z⟩
    ·rw [aJ (ne b o q).2]
     exact U.free b o q n1 hx
    ·obtain ⟨o', z⟩ := U.there b o q hx
     exact ⟨o', keepC b _ (ne b o q).1 z⟩
    ·have z := U.tups b xs q
     rw [aJ (aF z nD)]
     exact z
    ·have z := U.frzs b o xs q
     rw [aJ (aF z nD)]
     exact z
    ·obtain ⟨more, z⟩ := U.tbls b ps q
     exact ⟨more, by rw [aJ (aF z nD)]; exact z⟩
   have hok : HOk X.prog X.w (upd H5 D (.lst acc)) h' := fun b u q => by
    by_cases hb : b = D
    ·subst hb
     rw [aB] at q
     cases q
     exact ⟨hz, its, k, va, keepC _ _ (na2 hC) dD⟩
    ·rw [aJ hb] at q
     refine (I6.hok b u q).stay (fun c v hcc z => keepC c v ?_ z) (fun c z => by rw [aJ (aF z nD)]; exact z) fun c xs z => by rw [aJ (aF z nD)]; exact z
     rcases hcc with z1 | z1
     ·subst z1
      exact aF q nC
     ·exact aF z1 nC
   have I7 : Inv X pins σ (upd H5 D (.lst acc)) { s6 with heap := h' } := I2.call' (s' := { s6 with heap := h' }) (ch := fp) I6.os U' hok I6.bare fun b hb => by
    obtain ⟨_, a2, _, a4, a5, a6⟩ := f2 b hb
    exact ⟨a4, a2, a5, a6⟩
   exact ⟨.ref D, _, I7, rfl, qn D nD⟩
  ·refine thn (T.item (bD X N scope cl C s2 H2 fp) rfl rfl rfl hc i _ s5 τ H5 _ I5 (stat fr5 (by simp)) st5 go) fun r s6 ⟨u, hr, h6⟩ => ?_
   subst hr
   refine thn h6 fun _ s7 ⟨x, H7, I7, r7, y7, st7, fr7⟩ => ?_
   have I7' := I7.pinned (stat fr7 (by simp)) (T.obj _ _ st7)
   have no : ∀ {α : Type} {t : Sem α} {Q1 Q2 : α → Shared → Prop} {E : Value → Shared → Prop} {z : Shared}, wpAny (model X.prog X.w) X.A t Q1 (fun _ _ => False) z → (∀ a z, Q1 a z → Q2 a z) → wpAny (model X.prog X.w) X.A t Q2 E z :=
    fun q f => wpAny_mono q f fun _ _ z => z.elim
   refine no (hg cl C s2 H2 fp _ s7 τ H7 x u _ I7' r7 (step x H7 y7)) fun _ s8 ⟨τ1, H8, I8, q8⟩ => ?_
   refine no (ht cl C s2 H2 fp _ s8 τ1 H8 _ I8 q8) fun ok s9 ⟨H9, I9, q9⟩ => ?_
   have again : ∀ {H' : Hp} {z : Shared} {its' : List Value} {k' : Nat}, Inv (bD X N scope cl C s2 H2 fp) ([(D, { cls := .type "list", data := .seq (List.toArray its') k' })] ++ gb fp s7.heap) τ1 H' z →
     tn (i + 1) z.heap ∧ (∀ b ∈ fp, H' b = none) ∧ Inv (bD X N scope cl C s2 H2 fp) [(D, { cls := .type "list", data := .seq (List.toArray its') k' })] τ1 H' z := fun {H' z its' k'} Iz => by
    have get : ∀ b ∈ fp, ∀ o, s7.heap.get? b = some o → z.heap.get? b = some o ∧ H' b = none := fun b hb o q => by
     obtain ⟨a1, a2, _⟩ := Iz.pin (b, o) (List.mem_append_right _ (List.mem_append_right _ (gJ hb q)))
     exact ⟨a1, a2⟩
    refine ⟨T.keep _ _ _ st7 fun b hb o q => (get b hb o q).1, fun b hb => ?_, Iz.gU⟩
    obtain ⟨o, q, _⟩ := T.obj _ _ st7 b hb
    exact (get b hb o q).2
   cases ok with
   | false =>
    rw [if_neg Bool.false_ne_true] at q9 ⊢
    obtain ⟨m', hm, w9⟩ := hN9 _ _ _ q9
    obtain ⟨a1, a2, a3⟩ := again I9
    exact ⟨m', hm, i + 1, acc, τ1, H9, its, k, a3, a1, a2, va, hz, w9⟩
   | true =>
    rw [if_pos rfl] at q9 ⊢
    refine no (he cl C s2 H2 fp _ s9 τ1 H9 _ I9 q9) fun y s10 ⟨v, H10, I10, rv, q10⟩ => ?_
    obtain ⟨m', hm, w10⟩ := hN9 _ _ _ q10
    obtain ⟨a1, a2, a3⟩ := again I10
    obtain ⟨dD, nD, _, _, _⟩ := a3.pin (D, _) (List.mem_append_right _ (List.mem_singleton.mpr rfl))
    have hlen := va.length
    refine call_meets F.slot_list_append ⟨_, dD, rfl⟩ F.entry_list_append (F.args_list_append_2 _ _) (PySem.list_append D its.toArray k y (by rw [List.size_toArray]; omega)) ⟨dD, ?_⟩
    obtain ⟨k', q⟩ : ∃ k', (s10.heap.update D (Obj.mapSeq fun a => a.push y)).get? D = some { cls := .type "list", data := .seq (its ++ [y]).toArray k' } := by
     have q := PySem.IsL.update dD (fun a => a.push y)
     rw [show its.toArray.push y = (its ++ [y]).toArray by simp] at q
     exact ⟨_, q⟩
    have a4 : Inv (bD X N scope cl C s2 H2 fp) (gb fp s7.heap) τ1 H10 s10 := I10.iT fun p hp => I10.pin p (List.mem_append_right _ (List.mem_append_right _ hp))
    have a5 : Inv (bD X N scope cl C s2 H2 fp) (gb fp s7.heap) τ1 H10 { s10 with heap := s10.heap.update D (Obj.mapSeq fun a => a.push y), toks := s10.toks } :=
     a4.turned (it := D) (fun b o hb z => (Heap.get?_update_other _ _ (Ne.symm hb)).trans z) nD (na2 hC) (.inr (na4 hD))
      (fun x c z => by
       obtain ⟨_, o, h1, _⟩ := I2.cell x c (hsub x c z)
       exact na0 (Heap.lt_size h1) hD) fun p hp => by
       have hb := (lu (by simpa [bD] using hp)).1
       exact na0 (hold _ hb) hD
    obtain ⟨b1, b2, b3⟩ := (show tn (i + 1) (s10.heap.update D (Obj.mapSeq fun a => a.push y)) ∧ (∀ b ∈ fp, H10 b = none) ∧ True from
     ⟨T.keep _ _ _ a1 fun b hb o z => (Heap.get?_update_other _ _ (na0 (hold b hb) hD).symm).trans z, a2, trivial⟩)
    refine ⟨m', hm, i + 1, acc ++ [v], τ1, H10, its ++ [y], k', a5.iT fun p hp => ?_, b1, b2, va.append (.cons rv .nil), by rw [List.length_append, List.length_singleton]; omega, w10⟩
    have ep := List.mem_singleton.mp hp
    subst ep
    exact ⟨q, nD, na2 hC, hfr, fun v z => by cases z⟩
 have e1 : { newEnv scope C X.env.globals cl X.env.qual none .none (some X.env) X.env.builtins with scope := relabel scope X.env } = compEnvC scope cl C X.env := rfl
 exact codeAny_compStart_list (loop _ rfl) (T.self _ 0 _ _ _ T0 (loop _ rfl))
end
section
variable {X : Cx} {pins : List (Addr × Obj)} {σ : St} {H : Hp} {s : Shared}
theorem Inv.wz {ch : List Addr} {h' : Heap} {t' : Nat} (I : Inv X pins σ H s) (hf : ∀ b ∈ ch, kh X pins H b) (k : ∀ b o, b ∉ ch → s.heap.get? b = some o → h'.get? b = some o) : Inv X pins σ H { s with heap := h', toks := t' } := by
 have nit : ∀ b u, H b = some u → b ∉ ch := fun b u e z => by rw [(hf b z).1] at e; cases e
 refine I.step (g' := s.gens) (d' := s.drawn) (ch := ch) (fun b hb => ?_) (fun b o _ _ hc e _ => k b o hc e) (fun b o _ _ hc e _ => ⟨o.slots, k b o hc e⟩) (fun _ _ _ _ n => n)
  (fun b o hc e => ⟨o, k b o hc e⟩) (fun _ _ e => e) (fun _ _ _ e => e) (fun b ps e => ⟨#[], by rw [e]; simp⟩) (fun m hm => ?_) (fun b u e => ?_) I.bare
 ·obtain ⟨_, a2, _, a4, a5, a6⟩ := hf b hb
  exact ⟨a4, a2, a5, a6⟩
 ·obtain ⟨o, es, ep, ho, r⟩ := hm
  exact ⟨o, es, ep, k _ o (fun z => (hf _ z).2.1 rfl) ho, r⟩
 ·refine (I.hok b u e).stay (fun c v hc q => k c v ?_ q) (fun _ q => q) fun _ _ q => q
  rcases hc with z | z
  ·rw [z]; exact nit b u e
  ·exact nit c _ z
theorem Inv.wu {ch : List Addr} {h' : Heap} {t' : Nat} {p : Addr} {o : HO} (I : Inv X pins σ H s) (hf : ∀ b ∈ ch, kh X pins H b) (k : ∀ b o, b ∉ ch → s.heap.get? b = some o → h'.get? b = some o) (hp : s.heap.objs.size ≤ p)
  (new : bT X.prog X.w (upd H p o) h' p o) : Inv X pins σ (upd H p o) { s with heap := h', toks := t' } := by
 have hn : H p = none := I.hok.fresh hp
 have nit : ∀ b u, H b = some u → b ∉ ch := fun b u e z => by rw [(hf b z).1] at e; cases e
 have lt : ∀ b u, s.heap.get? b = some u → b ≠ p := fun b u e => Nat.ne_of_lt (Nat.lt_of_lt_of_le (Heap.lt_size e) hp)
 refine I.step (g' := s.gens) (d' := s.drawn) (ch := ch) (fun b hb => ?_) (fun b o _ _ hc e _ => k b o hc e) (fun b o _ _ hc e _ => ⟨o.slots, k b o hc e⟩) (fun b o _ e n => by rw [aJ (lt b o e)]; exact n)
  (fun b o hc e => ⟨o, k b o hc e⟩) (fun b xs e => by rw [aJ (aF e hn)]; exact e) (fun b u xs e => by rw [aJ (aF e hn)]; exact e) (fun b ps e => ⟨#[], by rw [aJ (aF e hn), e]; simp⟩) (fun m hm => ?_) (fun b u e => ?_) I.bare
 ·obtain ⟨_, a2, _, a4, a5, a6⟩ := hf b hb
  exact ⟨a4, a2, a5, a6⟩
 ·obtain ⟨o, es, ep, ho, r⟩ := hm
  exact ⟨o, es, ep, k _ o (fun z => (hf _ z).2.1 rfl) ho, r⟩
 ·by_cases hb : b = p
  ·subst hb
   rw [aB] at e
   cases e
   exact new
  ·rw [aJ hb] at e
   refine (I.hok b u e).stay (fun c v hc q => k c v ?_ q) (fun c q => by rw [aJ (aF q hn)]; exact q) fun c xs q => by rw [aJ (aF q hn)]; exact q
   rcases hc with z | z
   ·rw [z]; exact nit b u e
   ·exact nit c _ z
end
def Itz (K : PySem.W.Frag) (a b : Addr) : It :=
 ⟨fun i H => ∃ xs ys x y, SqL K H a xs ∧ SqL K H b ys ∧ xs[i]? = some x ∧ ys[i]? = some y,
  fun i H v H' => ∃ p x y, v = .ref p ∧ H p = none ∧ H' = upd H p (.tup [x, y]) ∧ (∀ xs, SqL K H a xs → xs[i]? = some x) ∧ ∀ ys, SqL K H b ys → ys[i]? = some y,
  fun i H => ∃ xs ys, SqL K H a xs ∧ SqL K H b ys ∧ (xs[i]? = none ∨ ys[i]? = none)⟩
theorem zX {P : Program} {w : World} {K : PySem.W.Frag} {es : List Expr} {kk : Nat} {tpos : Pos} {z TI TO i1 i2 l1 l2 : Addr} (D : ZipApart z TI TO i1 i2 l1 l2) :
  Turn P w K (.Tuple es kk tpos) (Itz K l1 l2) [z, TI, TO, i1, i2] z (fun i h => IsZip h z TI TO .none ∧ IsPair h TI (.ref i1) (.ref i2) ∧ (∃ a b, IsPair h TO a b) ∧ h.IsListIter i1 l1 i ∧ h.IsListIter i2 l2 i) where
 mem := by simp
 obj := fun i h st b hb => by
  obtain ⟨hz, hTI, ⟨a, b', hTO⟩, ⟨o1, e1, c1, d1⟩, ⟨o2, e2, c2, d2⟩⟩ := st
  simp only [List.mem_cons, List.not_mem_nil, or_false] at hb
  rcases hb with rfl | rfl | rfl | rfl | rfl
  ·exact ⟨_, hz, fun v q => by cases q⟩
  ·exact ⟨_, hTI, fun v q => by cases q⟩
  ·exact ⟨_, hTO, fun v q => by cases q⟩
  ·exact ⟨o1, e1, fun v q => by rw [d1] at q; cases q⟩
  ·exact ⟨o2, e2, fun v q => by rw [d2] at q; cases q⟩
 keep := fun i h h' st k => by
  obtain ⟨hz, hTI, ⟨a, b', hTO⟩, h1, h2⟩ := st
  exact ⟨k z (by simp) _ hz, k TI (by simp) _ hTI, ⟨a, b', k TO (by simp) _ hTO⟩, h1.at fun o e => k i1 (by simp) o e, h2.at fun o e => k i2 (by simp) o e⟩
 item := by
  intro X hP hw hK hc i pins s σ H E I hf st hg
  subst hP hw hK
  obtain ⟨xs, ys, x, y, q1, q2, hx, hy⟩ := hg
  obtain ⟨its1, rv1, p1, hz1⟩ := I.list q1
  obtain ⟨its2, rv2, p2, hz2⟩ := I.list q2
  obtain ⟨u1, hu1, ru1⟩ := rv1.get hx
  obtain ⟨u2, hu2, ru2⟩ := rv2.get hy
  obtain ⟨hz, hTI, ⟨a, b', hTO⟩, h1, h2⟩ := st
  refine wpAny_pyNext_zip_item D hz hTI hTO h1 h2 p1.isList p2.isList (x := u1) (y := u2) (by simpa using hu1) (by simpa using hu2) fun h' a1 a2 a3 a4 a5 a6 hk => ?_
  have new : bT X.prog X.w (upd H s.heap.objs.size (.tup [x, y])) h' s.heap.objs.size (.tup [x, y]) := ⟨by show 2 ≤ sizeLine; decide, [u1, u2], .cons ru1 (.cons ru2 .nil), _, a5, rfl, _, rfl⟩
  have I1 : Inv X pins σ (upd H s.heap.objs.size (.tup [x, y])) { s with heap := h' } := I.wu (t' := s.toks) (ch := [z, TO, i1, i2]) (fun b hb => hf b (by
   simp only [List.mem_cons, List.not_mem_nil, or_false] at hb ⊢
   rcases hb with r | r | r | r <;> simp [r]))
   (fun b o hb e => hk b o (fun q => hb (by simp [q])) (fun q => hb (by simp [q])) (fun q => hb (by simp [q])) (fun q => hb (by simp [q])) e) (Nat.le_refl _) new
  have hTI' : IsPair h' TI (.ref i1) (.ref i2) := hk _ _ D.TIz D.TITO D.TIi1 D.TIi2 hTI
  have hsz : ∀ b, b ∈ [z, TI, TO, i1, i2] → b ≠ s.heap.objs.size := fun b hb => by
   obtain ⟨_, _, hlt, _⟩ := hf b hb
   have lt : ∃ o, s.heap.get? b = some o := by
    simp only [List.mem_cons, List.not_mem_nil, or_false] at hb
    rcases hb with rfl | rfl | rfl | rfl | rfl
    ·exact ⟨_, hz⟩
    ·exact ⟨_, hTI⟩
    ·exact ⟨_, hTO⟩
    ·obtain ⟨o, e, _⟩ := h1; exact ⟨o, e⟩
    ·obtain ⟨o, e, _⟩ := h2; exact ⟨o, e⟩
   obtain ⟨o, e⟩ := lt
   exact Nat.ne_of_lt (Heap.lt_size e)
  refine ⟨_, rfl, wpAny_letOwnedTupleGo_zip (s := { s with heap := h' }) a1 fun h'' z2 sb => ?_⟩
  have fz := hf z (by simp)
  have I2 : Inv X pins σ (upd H s.heap.objs.size (.tup [x, y])) { s with heap := h'' } := Inv.turned (s := { s with heap := h' }) (it := z) (t' := s.toks) I1 (fun b o hb e => (sb.2 b hb).trans e) (by rw [aJ (hsz z (by simp))]; exact fz.1) fz.2.1 fz.2.2.2.1 fz.2.2.2.2.1 fz.2.2.2.2.2
  refine ⟨.ref s.heap.objs.size, _, I2, rfl, ⟨_, x, y, rfl, I.fresh, rfl, fun xs' q => by rw [I.jT q q1]; exact hx, fun ys' q => by rw [I.jT q q2]; exact hy⟩,
   ⟨z2, (sb.2 _ D.TIz).trans hTI', ⟨_, _, (sb.2 _ D.TOz).trans a2⟩, a3.extBut sb.extBut D.i1z, a4.extBut sb.extBut D.i2z⟩, fun b hb => by rw [aJ (hsz b hb)]; exact (hf b hb).1⟩
 done := by
  intro X hP hw hK hc i pins s σ H E I hf st hg
  subst hP hw hK
  obtain ⟨xs, ys, q1, q2, hx⟩ := hg
  obtain ⟨its1, rv1, p1, hz1⟩ := I.list q1
  obtain ⟨its2, rv2, p2, hz2⟩ := I.list q2
  obtain ⟨hz, hTI, ⟨a, b', hTO⟩, h1, h2⟩ := st
  have hend : its1.toArray[i]? = none ∨ its2.toArray[i]? = none := by
   rcases hx with r | r
   ·exact .inl (by simpa using rv1.none_of r)
   ·exact .inr (by simpa using rv2.none_of r)
  refine wpAny_pyNext_zip_end (I.ok.hd hc) D hz hTI hTO h1 h2 p1.isList p2.isList hend fun h' hk => ⟨rfl, ?_⟩
  exact I.wz (t' := s.toks) (ch := [z, TO, i1, i2]) (fun b hb => hf b (by
   simp only [List.mem_cons, List.not_mem_nil, or_false] at hb ⊢
   rcases hb with r | r | r | r <;> simp [r]))
   (fun b o hb e => hk b o (fun q => hb (by simp [q])) (fun q => hb (by simp [q])) (fun q => hb (by simp [q])) (fun q => hb (by simp [q])) e)
 self := fun _ _ _ _ _ st h => wpAny_pyIter_zip st.1 h
section
variable {X : Cx}
end
def Ite (K : PySem.W.Frag) (a : Addr) : It :=
 ⟨fun i H => ∃ xs x, SqL K H a xs ∧ xs[i]? = some x,
  fun i H v H' => ∃ p x, v = .ref p ∧ H p = none ∧ H' = upd H p (.tup [.int (i : Nat), x]) ∧ ∀ xs, SqL K H a xs → xs[i]? = some x,
  fun i H => ∃ xs, SqL K H a xs ∧ xs[i]? = none⟩
theorem ye {P : Program} {w : World} {K : PySem.W.Frag} {es : List Expr} {kk : Nat} {tpos : Pos} {e it l : Addr} (hne : e ≠ it) :
  Turn P w K (.Tuple es kk tpos) (Ite K l) [e, it] e (fun i h => (∃ old, IsEnum h e it ((i : Nat) : Int) old) ∧ h.IsListIter it l i) where
 mem := by simp
 obj := fun i h st b hb => by
  obtain ⟨⟨old, he⟩, ⟨o1, e1, c1, d1⟩⟩ := st
  simp only [List.mem_cons, List.not_mem_nil, or_false] at hb
  rcases hb with rfl | rfl
  ·exact ⟨_, he, fun v q => by cases q⟩
  ·exact ⟨o1, e1, fun v q => by rw [d1] at q; cases q⟩
 keep := fun i h h' st k => by
  obtain ⟨⟨old, he⟩, h1⟩ := st
  exact ⟨⟨old, k e (by simp) _ he⟩, h1.at fun o q => k it (by simp) o q⟩
 item := by
  intro X hP hw hK hc i pins s σ H E I hf st hg
  subst hP hw hK
  obtain ⟨xs, x, q1, hx⟩ := hg
  obtain ⟨its1, rv1, p1, hz1⟩ := I.list q1
  obtain ⟨u1, hu1, ru1⟩ := rv1.get hx
  obtain ⟨⟨old, he⟩, h1⟩ := st
  refine wpAny_pyNext_enum_item he h1 p1.isList (x := u1) (by simpa using hu1) hne fun h' a1 a2 a3 a4 hk => ?_
  have new : bT X.prog X.w (upd H s.heap.objs.size (.tup [.int (i : Nat), x])) h' s.heap.objs.size (.tup [.int (i : Nat), x]) := ⟨by show 2 ≤ sizeLine; decide, [.int (i : Nat) s.toks, u1], .cons ⟨_, rfl⟩ (.cons ru1 .nil), _, a3, rfl, _, rfl⟩
  have I1 : Inv X pins σ (upd H s.heap.objs.size (.tup [.int (i : Nat), x])) { s with heap := h', toks := s.toks + 1 } := I.wu (ch := [e, it]) hf
   (fun b o hb q => hk b o (fun z => hb (by simp [z])) (fun z => hb (by simp [z])) q) (Nat.le_refl _) new
  have hsz : ∀ b, b ∈ [e, it] → b ≠ s.heap.objs.size := fun b hb => by
   have lt : ∃ o, s.heap.get? b = some o := by
    simp only [List.mem_cons, List.not_mem_nil, or_false] at hb
    rcases hb with rfl | rfl
    ·exact ⟨_, he⟩
    ·obtain ⟨o, q, _⟩ := h1; exact ⟨o, q⟩
   obtain ⟨o, q⟩ := lt
   exact Nat.ne_of_lt (Heap.lt_size q)
  refine ⟨_, rfl, wpAny_letOwnedTupleGo_enum (s := { s with heap := h', toks := s.toks + 1 }) a1 fun h'' z2 sb => ?_⟩
  have fz := hf e (by simp)
  have I2 : Inv X pins σ (upd H s.heap.objs.size (.tup [.int (i : Nat), x])) { s with heap := h'', toks := s.toks + 1 } := Inv.turned (s := { s with heap := h', toks := s.toks + 1 }) (it := e) I1 (fun b o hb q => (sb.2 b hb).trans q) (by rw [aJ (hsz e (by simp))]; exact fz.1) fz.2.1 fz.2.2.2.1 fz.2.2.2.2.1 fz.2.2.2.2.2
  refine ⟨.ref s.heap.objs.size, _, I2, rfl, ⟨_, x, rfl, I.fresh, rfl, fun xs' q => by rw [I.jT q q1]; exact hx⟩,
   ⟨⟨_, by simpa using z2⟩, a2.extBut sb.extBut hne.symm⟩, fun b hb => by rw [aJ (hsz b hb)]; exact (hf b hb).1⟩
 done := by
  intro X hP hw hK hc i pins s σ H E I hf st hg
  subst hP hw hK
  obtain ⟨xs, q1, hx⟩ := hg
  obtain ⟨its1, rv1, p1, hz1⟩ := I.list q1
  obtain ⟨⟨old, he⟩, h1⟩ := st
  refine wpAny_pyNext_enum_end (I.ok.hd hc) he h1 p1.isList (by simpa using rv1.none_of hx) fun h' hk => ⟨rfl, ?_⟩
  exact I.wz (t' := s.toks) (ch := [e, it]) hf (fun b o hb q => hk b o (fun z => hb (by simp [z])) q)
 self := fun _ _ _ _ _ st h => by
  obtain ⟨⟨old, he⟩, _⟩ := st
  exact wpAny_pyIter_enum he h
section
variable {X : Cx}
end
theorem Vals.bools : ∀ {bs : List Bool} {us : List Value}, Vals (bs.map V.bl) us → us = bs.map Value.bool
 | [], _, .nil => rfl
 | _ :: _, _, .cons r t => by rw [Vals.bools t, (show _ = Value.bool _ from r)]; rfl
section
variable {X : Cx}
theorem zM (bs : List Bool) : ((List.range bs.length).all fun i => (bs[i]?).getD true) = bs.all id := by
 rw [Bool.eq_iff_iff, List.all_eq_true, List.all_eq_true]
 constructor
 ·intro h b hb
  obtain ⟨i, hi, rfl⟩ := List.getElem_of_mem hb
  have := h i (List.mem_range.mpr hi)
  rw [List.getElem?_eq_getElem hi] at this
  exact this
 ·intro h i hi
  have hi' := List.mem_range.mp hi
  rw [List.getElem?_eq_getElem hi']
  exact h _ (List.getElem_mem hi')
def J0 (K : PySem.W.Frag) (f : List Bool → Bool) : List V → Hp → VK → Prop := fun xs H Q => ∃ p bs, xs = [.ref p] ∧ SqL K H p (List.map V.bl bs) ∧ Q (.bl (f bs)) H
theorem DY (hc : X.calm = true) : cg X (.builtin "all") (J0 X.K fun bs => bs.all id) := by
 intro pins s σ H xs us Q I r h
 obtain ⟨p, bs, rfl, hq, q⟩ := h
 cases r with
 | cons r rr =>
  cases rr
  cases r
  obtain ⟨its, rv, pl, hz⟩ := I.list hq
  have e := rv.bools
  subst e
  have lt : p < s.heap.objs.size := by obtain ⟨_, e, _⟩ := pl.isList; exact Heap.lt_size e
  refine call_all_walk (wpAny_pyIter_list pl.isList ?_)
  refine ⟨s.heap.objs.size, [s.heap.objs.size, p], [s.heap.objs.size], (bs.map Value.bool).toArray.size, _, _, fun i => (bs[i]?).getD true, rfl, Walks.list (A := X.A.in1) (I.ok.hd hc) _ p (Nat.ne_of_lt lt) _,
   ⟨⟨_, Heap.get?_push_size _ rfl, rfl, rfl⟩, pl.isList.push _⟩, fun i v s' Q' E' hP hQ => ?_, fun h' tk hk => ?_⟩
  ·have e : (bs.map Value.bool)[i]? = some v := by simpa using hP
   rw [List.getElem?_map] at e
   cases z : bs[i]? with
   | none => rw [z] at e; cases e
   | some b =>
    rw [z] at e
    have e' : Value.bool b = v := Option.some.inj e
    subst e'
    dsimp only at hQ
    rw [z] at hQ
    exact wpAny_truthy_bool hQ
  ·rw [List.size_toArray, List.length_map, zM]
   refine ⟨.bl _, H, I.kept fun b o e => hk b o (fun hm => ?_) (Heap.get?_push_of_some _ e), rfl, q⟩
   rw [List.mem_singleton.mp hm] at e
   exact Nat.lt_irrefl _ (Heap.lt_size e)
def Om (K : PySem.W.Frag) : List V → Hp → VK → Prop := fun xs H Q => ∃ x T t b, xs = [x, .ty T] ∧ jd K H x t ∧ PySem.W.kitOne K t (.type T) = some b ∧ Q (.bl b) H
theorem DX : cg X (.builtin "isinstance") (Om X.K) := by
 intro pins s σ H xs us Q I r h
 obtain ⟨x, T, t, b, rfl, ty, e, q⟩ := h
 cases r with
 | cons r rr =>
  cases rr with
  | cons r' rr =>
   cases rr
   cases (show _ = Value.type T from r')
   exact zj I r ty e fun tk => ⟨.bl b, H, I.tok tk, rfl, q⟩
def MT (K : PySem.W.Frag) : List V → Hp → VK → Prop := fun xs H Q => ∃ x p Ts t b, xs = [x, .ref p] ∧ SqT K H p (List.map V.ty Ts) ∧ jd K H x t ∧ PySem.W.kitAny K t (Ts.map Value.type) = some b ∧ Q (.bl b) H
theorem Vals.types : ∀ {bs : List String} {us : List Value}, Vals (bs.map V.ty) us → us = bs.map Value.type
 | [], _, .nil => rfl
 | _ :: _, _, .cons r t => by rw [Vals.types t, (show _ = Value.type _ from r)]; rfl
theorem Ov {x : V} {u t : Value} {pins : List (Addr × Obj)} {σ : St} {H : Hp} {s : Shared} (I : Inv X pins σ H s) (rx : RelV x u) (ty : jd X.K H x t) (hl : ∀ a C dx fs, H a = some (.ins C dx fs) → x ≠ .ref a) :
  ∃ Hh : Heap → Prop, PySem.W.KitX X.K u t Hh ∧ Hh s.heap ∧ u ≠ .builtin "__main__.__loader__#opaque" := by
 cases ty with
 | non => cases (show u = Value.none from rx); exact ⟨_, PySem.W.kitx_none, True.intro, fun z => nomatch z⟩
 | bl y => cases (show u = Value.bool y from rx); exact ⟨_, PySem.W.kitx_bool, True.intro, fun z => nomatch z⟩
 | int i => obtain ⟨t, q⟩ := (show ∃ t, u = Value.int i t from rx); cases q; exact ⟨_, PySem.W.kitx_int, True.intro, fun z => nomatch z⟩
 | str y => obtain ⟨t, q⟩ := (show ∃ t, u = Value.str y t from rx); cases q; exact ⟨_, PySem.W.kitx_str, True.intro, fun z => nomatch z⟩
 | flt y => obtain ⟨t, q⟩ := (show ∃ t, u = Value.float y t from rx); cases q; exact ⟨_, PySem.W.kitx_float, True.intro, fun z => nomatch z⟩
 | @lst a xs ea =>
  cases (show u = Value.ref a from rx)
  obtain ⟨_, _, n, _, h1⟩ := (show bT X.prog X.w H s.heap a (.lst xs) from I.hok a _ ea)
  exact ⟨_, PySem.W.kitx_list, ⟨_, h1, rfl⟩, fun z => nomatch z⟩
 | @frz a ob xs ea =>
  cases (show u = Value.ref a from rx)
  obtain ⟨_, _, _, n, _, h1⟩ := (show bT X.prog X.w H s.heap a (.frz ob (.lst xs)) from I.hok a _ ea)
  exact ⟨_, PySem.W.kitx_list, ⟨_, h1, rfl⟩, fun z => nomatch z⟩
 | @tup a xs ea =>
  cases (show u = Value.ref a from rx)
  obtain ⟨_, _, _, p⟩ := (show bT X.prog X.w H s.heap a (.tup xs) from I.hok a _ ea)
  obtain ⟨o, h1, h2, _⟩ := p
  exact ⟨_, PySem.W.kitx_tuple, ⟨o, h1, h2⟩, fun z => nomatch z⟩
 | @dK a kvs ea =>
  cases (show u = Value.ref a from rx)
  obtain ⟨_, _, vs, _, p⟩ := (show bT X.prog X.w H s.heap a (.dK kvs) from I.hok a _ ea)
  obtain ⟨o, es, ep, h1, h2, _⟩ := p
  exact ⟨_, PySem.W.kitx_dict, ⟨o, h1, h2.1⟩, fun z => nomatch z⟩
 | @dT a kvs ea =>
  cases (show u = Value.ref a from rx)
  obtain ⟨_, _, xs, _, o, es, ep, h1, h2, _⟩ := (show bT X.prog X.w H s.heap a (.dT kvs) from I.hok a _ ea)
  exact ⟨_, PySem.W.kitx_dict, ⟨o, h1, h2.1⟩, fun z => nomatch z⟩
 | @ins a C dx fs ea cl ha hn htk hm => exact absurd rfl (hl a C dx fs ea)
theorem zF : cg X (.builtin "isinstance") (fun xs H Q => MT X.K xs H Q ∧ ∀ a C dx fs, H a = some (.ins C dx fs) → xs.head? ≠ some (.ref a)) := by
 intro pins s σ H xs us Q I r h
 obtain ⟨⟨x, p, Ts, t, b, rfl, hq, ty, e, q⟩, hl⟩ := h
 cases r with
 | cons r rr =>
  cases rr with
  | cons r' rr =>
   cases rr
   cases r'
   obtain ⟨Hh, Z, hh, ne⟩ := Ov I r ty fun a C dx fs z w' => hl a C dx fs z (by rw [w']; rfl)
   obtain ⟨its, rv, ⟨o, ho, hcl, n, hd⟩, hz⟩ := I.tuple hq
   have ei := rv.types
   subst ei
   obtain ⟨c0, d0, dt0, sl0⟩ := o
   cases (show c0 = Value.type "tuple" from hcl)
   cases (show dt0 = Data.seq (List.map Value.type Ts).toArray n from hd)
   exact PySem.W.kia_tup Z I.kIn hh ho e ne fun tk => ⟨.bl b, H, I.tok tk, rfl, q⟩
end
inductive Tn (H : Hp) : V → String → Prop where
 | non : Tn H .non "NoneType"
 | bl (b : Bool) : Tn H (.bl b) "bool"
 | int (i : Int) : Tn H (.int i) "int"
 | str (x : Str) : Tn H (.str x) "str"
 | lst {a : Addr} {xs : List V} (e : H a = some (.lst xs)) : Tn H (.ref a) "list"
 | tup {a : Addr} {xs : List V} (e : H a = some (.tup xs)) : Tn H (.ref a) "tuple"
theorem Tn.ty {K : PySem.W.Frag} {H : Hp} {x : V} {t : String} (h : Tn H x t) : jd K H x (.type t) := by
 cases h with
 | non => exact .non
 | bl b => exact .bl b
 | int i => exact .int i
 | str x => exact .str x
 | lst e => exact .lst e
 | tup e => exact .tup e
def cu (t T : String) : Bool := t == T || (t == "bool" && T == "int")
def cF : List String := ["NoneType", "bool", "int", "str", "list", "tuple"]
theorem xj (K : PySem.W.Frag) : ∀ t ∈ cF, ∀ T ∈ cF, PySem.W.kitOne K (.type t) (.type T) = some (cu t T) := by
 intro t ht T hT
 simp only [cF, List.mem_cons, List.not_mem_nil, or_false] at ht hT
 rcases ht with rfl | rfl | rfl | rfl | rfl | rfl <;> rcases hT with rfl | rfl | rfl | rfl | rfl | rfl <;> first | rfl | kernel_rfl
theorem Tn.known {H : Hp} {x : V} {t : String} (h : Tn H x t) : t ∈ cF := by cases h <;> decide
section
variable {X : Cx}
theorem zJ : cg X (.builtin "isinstance") (fun xs H Q => ∃ x T t, xs = [x, .ty T] ∧ Tn H x t ∧ T ∈ cF ∧ Q (.bl (cu t T)) H) := by
 intro pins s σ H xs us Q I r h
 obtain ⟨x, T, t, rfl, ty, hT, q⟩ := h
 exact DX pins s σ H _ us Q I r ⟨x, T, _, _, rfl, ty.ty, xj X.K t ty.known T hT, q⟩
theorem xq (K : PySem.W.Frag) {t : String} (ht : t ∈ cF) : ∀ Ts : List String, (∀ T ∈ Ts, T ∈ cF) → PySem.W.kitAny K (.type t) (Ts.map Value.type) = some (Ts.any fun T => cu t T)
 | [], _ => rfl
 | T :: r, h => by
  have e := xj K t ht T (h T List.mem_cons_self)
  have ih := xq K ht r fun T' h' => h T' (List.mem_cons_of_mem _ h')
  show (match PySem.W.kitOne K (.type t) (.type T) with | some true => some true | some false => PySem.W.kitAny K (.type t) (r.map Value.type) | none => none) = _
  rw [e, List.any_cons]
  cases cu t T with
  | true => rfl
  | false => exact ih
theorem zH : cg X (.builtin "isinstance") (fun xs H Q => ∃ x p Ts t, xs = [x, .ref p] ∧ H p = some (.tup (List.map V.ty Ts)) ∧ Tn H x t ∧ (∀ T ∈ Ts, T ∈ cF) ∧ Q (.bl (Ts.any fun T => cu t T)) H) := by
 intro pins s σ H xs us Q I r h
 obtain ⟨x, p, Ts, t, rfl, hp, ty, hT, q⟩ := h
 refine zF pins s σ H _ us Q I r ⟨⟨x, p, Ts, _, _, rfl, SqT.of hp, ty.ty, xq X.K ty.known Ts hT, q⟩, fun a C dx fs e z => ?_⟩
 have z' : x = .ref a := by simpa using z
 subst z'
 cases ty with
 | lst e' => rw [e] at e'; cases e'
 | tup e' => rw [e] at e'; cases e'
def Jl (i j : Int) : Prop := 0 < j ∧ j < 2 ^ 70
theorem jK : OpR X (binaryOp .FloorDiv) (rI Jl fun i j => .int (i / j)) := opI fun i j _ _ _ _ _ hc q => by
 have h1 : (0 : Int) < j := hc.1
 have h2 : j < 2 ^ 70 := hc.2
 refine floordiv_int (by omega) (by rw [Int.fdiv_eq_ediv_of_nonneg i (by omega)]; exact q) (.inl (PyProof.noPylong_of_log2 ?_))
 have h3 : j.natAbs ≠ 0 := by omega
 have h4 : j.natAbs.log2 < 70 := (Nat.log2_lt h3).mpr (by omega)
 omega
end
def bM (p : Addr) (H H' : Hp) : Prop := ∀ b o, b ≠ p → H b = some o → H' b = some o
theorem bM.refl (p : Addr) (H : Hp) : bM p H H := fun _ _ _ h => h
theorem bM.trans {p : Addr} {H H1 H2 : Hp} (a : bM p H H1) (b : bM p H1 H2) : bM p H H2 := fun c o n h => b c o n (a c o n h)
theorem bM.upd {p : Addr} {H : Hp} {o : HO} : bM p H (upd H p o) := fun b u n h => by rw [aJ n]; exact h
theorem Same.x {p : Addr} {H H' : Hp} (h : Same H H') : bM p H H' := fun b o _ q => h b o q
theorem au {H : Hp} {p : Addr} {o : HO} (h : H p = none) : Same H (upd H p o) := fun b u q => by rw [aJ (aF q h)]; exact q
structure Cal (P : Program) (w : World) (K : PySem.W.Frag) (mg : Str → Option Value) (base : Heap) (x : Str) (k : Nat) (ps : List Str) (sp : Sp) : Prop where
 ex : ∃ (f : Addr) (fd : FuncData), dj P w K mg base CX0 k f fd ps sp ∧ Binds K fd ps [] ∧ PySem.W.keepIn K (.ref f) = true ∧ mg x = some (.ref f)
section
variable {X : Cx} {k : Nat} {ps : List Str} {sp : Sp} {x : Str} {p pos : Pos} {e : Expr} {es : List Expr} {t : TA}
theorem KJ (C : Cal X.prog X.w X.K X.mg X.base x k ps sp) (hr : eY k X.A) (hg : Gl X x) (ha : PA X (e :: es) t) (hdb : (x == ("__debug__" : Str)) = false := by decide)
  (he : starEach (e :: es) X.env = (false, eval e X.env) :: starEach es X.env := by rfl) (hpl : (backTo pos (starEach es X.env)).any (·.1) = false := by rfl) : PE X (.Call (.Name x p) (e :: es) [] pos) (tK sp [] E0 t) := by
 obtain ⟨f, fd, F, b, kp, hm⟩ := C.ex
 exact GX F hr hg hm kp b .nil Nr ha hdb he hpl
end
structure gC (K : PySem.W.Frag) (mg : Str → Option Value) (x : Str) (st : Stmt) (ps : List Str) (f : Addr) (fd : FuncData) : Prop where
 fn : Fun K x x st f fd
 bd : Binds K fd ps []
 nm : mg x = some (.ref f)
theorem gC.cal {P : Program} {w : World} {K : PySem.W.Frag} {mg : Str → Option Value} {base : Heap} {x : Str} {st : Stmt} {ps : List Str} {f : Addr} {fd : FuncData} {k : Nat} {sp : Sp} (D : gC K mg x st ps f fd) (F : dj P w K mg base CX0 k f fd ps sp) : Cal P w K mg base x k ps sp :=
 ⟨f, fd, F, D.bd, D.fn.kp, D.nm⟩
theorem Bc (i j : Int) : lO (.int i) (.int j) = true := rfl
theorem Fl (i j : Bool) : lO (.bl i) (.bl j) = true := rfl
theorem Ba (i j : Str) : lO (.str i) (.str j) = true := rfl
theorem Bb : lO .non .non = true := rfl
theorem Fi (i : Int) : lO (.int i) .non = true := rfl
theorem Fe (i : Int) : lO .non (.int i) = true := rfl
theorem Fg (i : Int) (x : Str) : lO (.int i) (.str x) = true := rfl
theorem Fb (i : Int) (x : Str) : lO (.str x) (.int i) = true := rfl
theorem Oa {α : Type} (a : α) (r : List α) : atI (a :: r) 0 = some a := cj (j := 0) rfl
theorem N8 {α : Type} (a b : α) (r : List α) : atI (a :: b :: r) 1 = some b := cj (j := 1) rfl
theorem N7 {α : Type} (a b c : α) (r : List α) : atI (a :: b :: c :: r) 2 = some c := cj (j := 2) rfl
theorem Dl : ixN 3 0 = some 0 ∧ ixN 3 1 = some 1 ∧ ixN 3 2 = some 2 := ⟨by decide, by decide, by decide⟩
theorem aQ {n : Nat} (h : n ≤ 9000) : n ≤ sizeLine := Nat.le_trans h (by decide)
def ixq (o : Option HO) (i : Int) (H : Hp) (Q : VK) : Prop := match o with
 | some (.lst xs) => ∃ v, atI xs i = some v ∧ Q v H
 | some (.tup xs) => ∃ v, atI xs i = some v ∧ Q v H
 | _ => False
def stq (o : Option HO) (p : Addr) (k : Int) (v : V) (H : Hp) (Q : Hp → Prop) : Prop := match o with
 | some (.lst xs) => ∃ j, ixN xs.length k = some j ∧ Q (upd H p (.lst (xs.set j v)))
 | _ => False
def lnq (o : Option HO) (H : Hp) (Q : VK) : Prop := match o with
 | some (.lst ys) => Q (.int ys.length) H
 | some (.tup ys) => Q (.int ys.length) H
 | _ => False
def J6 : R2 := fun x y H Q => match x, y with
 | .ref p, .int i => ixq (H p) i H Q
 | _, _ => False
def Bo : V → V → V → Hp → (Hp → Prop) → Prop := fun o i v H Q => match o, i with
 | .ref p, .int k => stq (H p) p k v H Q
 | _, _ => False
def Bu : List V → Hp → VK → Prop := fun xs H Q => match xs with
 | [.ref p] => lnq (H p) H Q
 | _ => False
theorem Bw (p : Addr) (i : Int) (H : Hp) (Q : VK) : J6 (.ref p) (.int i) H Q = ixq (H p) i H Q := rfl
theorem yH (p : Addr) (k : Int) (v : V) (H : Hp) (Q : Hp → Prop) : Bo (.ref p) (.int k) v H Q = stq (H p) p k v H Q := rfl
theorem yJ (p : Addr) (H : Hp) (Q : VK) : Bu [.ref p] H Q = lnq (H p) H Q := rfl
theorem Hx (xs : List V) (i : Int) (H : Hp) (Q : VK) : ixq (some (.lst xs)) i H Q = ∃ v, atI xs i = some v ∧ Q v H := rfl
theorem Hw (xs : List V) (i : Int) (H : Hp) (Q : VK) : ixq (some (.tup xs)) i H Q = ∃ v, atI xs i = some v ∧ Q v H := rfl
theorem Eu (xs : List V) (p : Addr) (k : Int) (v : V) (H : Hp) (Q : Hp → Prop) : stq (some (.lst xs)) p k v H Q = ∃ j, ixN xs.length k = some j ∧ Q (upd H p (.lst (xs.set j v))) := rfl
theorem Ht (xs : List V) (H : Hp) (Q : VK) : lnq (some (.lst xs)) H Q = Q (.int xs.length) H := rfl
theorem Hs (xs : List V) (H : Hp) (Q : VK) : lnq (some (.tup xs)) H Q = Q (.int xs.length) H := rfl
section
variable {X : Cx}
theorem cU : IxR X J6 := by
 intro value slice pins s σ H x y v u Q I rx ry h hs
 unfold J6 at h
 split at h
 ·rename_i p i
  unfold ixq at h
  split at h
  ·rename_i xs e
   obtain ⟨z, hz, q⟩ := h
   exact xu value slice pins s σ H _ _ v u Q I rx ry ⟨p, xs, i, z, rfl, rfl, SqL.of e, hz, q⟩ hs
  ·rename_i xs e
   obtain ⟨z, hz, q⟩ := h
   exact Lq value slice pins s σ H _ _ v u Q I rx ry ⟨p, xs, i, z, rfl, rfl, SqT.of e, hz, q⟩ hs
  ·exact h.elim
 ·exact h.elim
theorem Az : Jb X Bo := by
 intro pins s σ H o i v ov iv u Q I ro ri rv h
 unfold Bo at h
 split at h
 ·rename_i p k
  unfold stq at h
  split at h
  ·rename_i xs e
   obtain ⟨j, hj, q⟩ := h
   exact set_list pins s σ H _ _ v ov iv u Q I ro ri rv ⟨p, xs, k, j, rfl, rfl, e, hj, q⟩
  ·exact h.elim
 ·exact h.elim
theorem cT : cg X (.builtin "len") Bu := by
 intro pins s σ H xs us Q I r h
 unfold Bu at h
 split at h
 ·rename_i p
  unfold lnq at h
  split at h
  ·rename_i ys e
   exact fj pins s σ H _ us Q I r ⟨p, ys, rfl, .inl (SqL.of e), h⟩
  ·rename_i ys e
   exact fj pins s σ H _ us Q I r ⟨p, ys, rfl, .inr (SqT.of e), h⟩
  ·exact h.elim
 ·exact h.elim
end
def wN : List V → Hp → VK → Prop := fun xs H Q => match xs with
 | [.int i] => Q (.int i) H
 | [.bl k] => Q (.int (if k then 1 else 0)) H
 | _ => False
theorem FN (i : Int) (H : Hp) (Q : VK) : wN [.int i] H Q = Q (.int i) H := rfl
theorem FP (k : Bool) (H : Hp) (Q : VK) : wN [.bl k] H Q = Q (.int (if k then 1 else 0)) H := rfl
theorem vY {X : Cx} : cg X (.type "int") wN := by
 intro pins s σ H xs us Q I r h
 unfold wN at h
 split at h
 ·exact qw pins s σ H _ us Q I r (.inl ⟨_, rfl, h⟩)
 ·exact qw pins s σ H _ us Q I r (.inr ⟨_, rfl, h⟩)
 ·exact h.elim
theorem bC {t u : TS} {D : Ends} {σ : St} {H : Hp} (h : ∀ k, k = u D → t { D with nx := k } σ H) : Es t u D σ H := h _ rfl
theorem xK {wi : TI} {g : TG} {tb : TS} {D : Ends} {σ : St} {H : Hp} (h : ∀ R : It → Hp → Prop, R = (fun J H1 => ∃ W : Nat → Nat → St → Hp → Prop, (∃ m, W 0 m σ H1) ∧ ∀ i m σ H, W i m σ H →
  (J.stop i H ∧ D.nx σ H) ∨ (J.go i H ∧ ∃ N : St → Hp → Prop, (∀ σ' H', N σ' H' → ∃ m', m' < m ∧ W (i + 1) m' σ' H') ∧ ∀ x H', J.yld i H x H' → g x σ H' fun σ2 H2 => tb { D with nx := N, ct := N, bk := D.nx } σ2 H2)) → wi σ H R) : JH wi g tb D σ H := h _ rfl
theorem Dz {lo : Int} {n : Nat} {g : TG} {tb : TS} {D : Ends} {σ : St} {H : Hp} {R : It → Hp → Prop} (hR : R = (fun J H1 => ∃ W : Nat → Nat → St → Hp → Prop, (∃ m, W 0 m σ H1) ∧ ∀ i m σ H, W i m σ H →
  (J.stop i H ∧ D.nx σ H) ∨ (J.go i H ∧ ∃ N : St → Hp → Prop, (∀ σ' H', N σ' H' → ∃ m', m' < m ∧ W (i + 1) m' σ' H') ∧ ∀ x H', J.yld i H x H' → g x σ H' fun σ2 H2 => tb { D with nx := N, ct := N, bk := D.nx } σ2 H2)))
  (Pv : Nat → St → Hp → Prop) (h0 : Pv 0 σ H) (hs : ∀ i σ H, i < n → Pv i σ H → g (.int (lo + i)) σ H fun σ2 H2 => tb { D with nx := Pv (i + 1), ct := Pv (i + 1), bk := D.nx } σ2 H2) (hd : ∀ σ H, Pv n σ H → D.nx σ H) : R (Itr lo n) H := by
 subst hR
 exact zx Pv h0 hs hd
def sZ (mp : List (Option Nat)) (g : TG) (tc : TT) (te : TE) (σ : St) (Q : VK) (J : It) (H1 : Hp) : Prop := ∃ W : Nat → Nat → List V → St → Hp → Prop, (∃ m, W 0 m [] (gj mp σ) H1) ∧ ∀ i m acc τ H2, W i m acc τ H2 →
  (J.stop i H2 ∧ ∀ d, H2 d = none → Q (.ref d) (upd H2 d (.lst acc))) ∨
  (J.go i H2 ∧ acc.length < sizeLine ∧ ∃ N : List V → St → Hp → Prop, (∀ acc' τ' H', N acc' τ' H' → ∃ m', m' < m ∧ W (i + 1) m' acc' τ' H') ∧ ∀ x H3, J.yld i H2 x H3 → g x τ H3 fun τ1 H4 => tc τ1 H4 fun b H5 =>
   if b = true then te τ1 H5 fun v H6 => N (acc ++ [v]) τ1 H6 else N acc τ1 H5)
theorem eX {mp : List (Option Nat)} {wi : TI} {g : TG} {tc : TT} {te : TE} {σ : St} {H : Hp} {Q : VK} (h : ∀ R : It → Hp → Prop, R = sZ mp g tc te σ Q → wi σ H R) : pN mp wi g tc te σ H Q := h _ rfl
theorem iV {J : It} {mp : List (Option Nat)} {g : TG} {tc : TT} {te : TE} {σ : St} {H : Hp} {Q : VK} {R : It → Hp → Prop} (hR : R = sZ mp g tc te σ Q) (n : Nat) (hz : n ≤ sizeLine) (Pv : Nat → List V → St → Hp → Prop) (h0 : Pv 0 [] (gj mp σ) H)
  (hl : ∀ i acc τ H, Pv i acc τ H → acc.length ≤ i) (hgo : ∀ i acc τ H, i < n → Pv i acc τ H → J.go i H) (hst : ∀ acc τ H, Pv n acc τ H → J.stop n H)
  (hs : ∀ i acc τ H x H3, i < n → Pv i acc τ H → J.yld i H x H3 → g x τ H3 fun τ1 H4 => tc τ1 H4 fun b H5 => if b = true then te τ1 H5 fun v H6 => Pv (i + 1) (acc ++ [v]) τ1 H6 else Pv (i + 1) acc τ1 H5)
  (hd : ∀ acc τ H d, Pv n acc τ H → H d = none → Q (.ref d) (upd H d (.lst acc))) : R J H := by
 subst hR
 refine ⟨fun i m acc τ H2 => m = n - i ∧ i ≤ n ∧ Pv i acc τ H2, ⟨_, rfl, Nat.zero_le _, h0⟩, ?_⟩
 rintro i m acc τ H2 ⟨rfl, hi, p⟩
 have q3 := hl i acc τ H2 p
 by_cases hlt : i < n
 ·exact .inr ⟨hgo i acc τ H2 hlt p, by omega, Pv (i + 1), fun acc' τ' H' q => ⟨_, by omega, rfl, hlt, q⟩, fun x H3 y => hs i acc τ H2 x H3 hlt p y⟩
 ·have e : i = n := by omega
  subst e
  exact .inl ⟨hst acc τ H2 p, fun d hd' => hd acc τ H2 d p hd'⟩
structure Nm (N : List Str) (sc : Scope) (i : Nat) (x : Str) : Prop where
 hN : N[i]? = some x
 hv : Loc sc x
 hd : (x == ("__debug__" : Str)) = false
 hcd : (x == ("__classdict__" : Str)) = false
def Nz (N : List Str) (sc : Scope) (i : Nat) (x : Str) : Bool := decide (N[i]? = some x) && (decide (sc.names.lookup x = some .local) || decide (sc.names.lookup x = some .cell)) && !(x == ("__debug__" : Str)) && !(x == ("__classdict__" : Str))
theorem Nm.of {N : List Str} {sc : Scope} {i : Nat} {x : Str} (h : Nz N sc i x = true) : Nm N sc i x := by
 unfold Nz at h
 rw [Bool.and_eq_true, Bool.and_eq_true, Bool.and_eq_true, Bool.or_eq_true] at h
 obtain ⟨⟨⟨h1, h2⟩, h3⟩, h4⟩ := h
 exact ⟨of_decide_eq_true h1, h2.elim (fun z => .inl (of_decide_eq_true z)) (fun z => .inr (of_decide_eq_true z)), by simpa using h3, by simpa using h4⟩
structure Bn (x : Str) : Prop where
 hn : x ≠ "__name__"
 hd : (x == ("__debug__" : Str)) = false
section
variable {X : Cx} {i : Nat} {x : Str} {pos pos' p : Pos} {e : Expr} {es : List Expr} {te : TE} {t : TA} {k : Nat} {ps : List Str} {sp : Sp} {id T : String} {r : List V → Hp → VK → Prop}
theorem pn (n : Nm X.N X.env.scope i x) : PE X (.Name x pos) (Ad i) := Cq n.hN (n.hv.elim .inl fun z => .inr (.inl z)) n.hd n.hcd
theorem M6 (n : Nm X.N X.env.scope i x) (hN : X.N.Nodup) (he : PE X e te) (hs : swapsWith e (some (.Name x pos')) pos.line X.env = pure false := by rfl) (hf : X.fn x = true ∨ X.env.scope.names.lookup x = some .local := by exact .inl rfl) :
  PS X (.Assign [.Name x pos'] e pos) (tL te (jj i)) := Kh hN n.hN n.hv he hs hf
theorem M8 (n : Nm X.N X.env.scope i x) (hN : X.N.Nodup) (hf : X.fn x = true ∨ X.env.scope.names.lookup x = some .local := by exact .inl rfl) : PG X (.Name x pos) (jj i) := wV hN n.hN n.hv hf
theorem Ni (C : Cal X.prog X.w X.K X.mg X.base x k ps sp) (hr : eY k X.A) (hg : Gl X x) (hdb : Bn x) (ha : PA X (e :: es) t)
  (he : starEach (e :: es) X.env = (false, eval e X.env) :: starEach es X.env := by rfl) (hpl : (backTo pos (starEach es X.env)).any (·.1) = false := by rfl) : PE X (.Call (.Name x p) (e :: es) [] pos) (tK sp [] E0 t) :=
 KJ C hr hg ha hdb.hd he hpl
theorem Nj (hc : cg X (.builtin id) r) (hg : Gl X x) (hm : X.mg x = none) (hv : bootBuiltins x = some (.builtin id)) (b : Bn x) (ha : PA X (e :: es) t)
  (he : starEach (e :: es) X.env = (false, eval e X.env) :: starEach es X.env := by rfl) (hpl : (backTo pos (starEach es X.env)).any (·.1) = false := by rfl) : PE X (.Call (.Name x p) (e :: es) [] pos) (tCB r t) := Cw hc hg hm hv ha b.hn b.hd he hpl
theorem Nh (hc : cg X (.type T) r) (hg : Gl X x) (hm : X.mg x = none) (hv : bootBuiltins x = some (.type T)) (b : Bn x) (ha : PA X (e :: es) t)
  (he : starEach (e :: es) X.env = (false, eval e X.env) :: starEach es X.env := by rfl) (hpl : (backTo pos (starEach es X.env)).any (·.1) = false := by rfl) : PE X (.Call (.Name x p) (e :: es) [] pos) (tCB r t) := yM hc hg hm hv ha b.hn b.hd he hpl
theorem Nk (n : String) (hg : Gl X x) (hm : X.mg x = none) (hv : bootBuiltins x = some (.type n)) (b : Bn x) : PE X (.Name x pos) (tC (.ty n)) := GZ hg hm hv rfl b.hn b.hd
end
theorem fP : Bn "len" := ⟨by decide +kernel, by decide +kernel⟩
theorem Ea : Bn "abs" := ⟨by decide +kernel, by decide +kernel⟩
theorem Mi : Bn "min" := ⟨by decide +kernel, by decide +kernel⟩
theorem sO : Bn "all" := ⟨by decide +kernel, by decide +kernel⟩
theorem aN : Bn "isinstance" := ⟨by decide +kernel, by decide +kernel⟩
theorem sJ : Bn "int" := ⟨by decide +kernel, by decide +kernel⟩
theorem j9 : Bn "list" := ⟨by decide +kernel, by decide +kernel⟩
theorem eH : Bn "tuple" := ⟨by decide +kernel, by decide +kernel⟩
theorem jy : Bn "str" := ⟨by decide +kernel, by decide +kernel⟩
theorem mF : Bn "bool" := ⟨by decide +kernel, by decide +kernel⟩
theorem xY : Bn "repr" := ⟨by decide +kernel, by decide +kernel⟩
def tyO : Option HO → Option String
 | some (.lst _) => some "list"
 | some (.tup _) => some "tuple"
 | _ => none
def tyN (x : V) (H : Hp) : Option String := match x with
 | .non => some "NoneType"
 | .bl _ => some "bool"
 | .int _ => some "int"
 | .str _ => some "str"
 | .ref a => tyO (H a)
 | _ => none
theorem Tn.of {x : V} {H : Hp} {t : String} (h : tyN x H = some t) : Tn H x t := by
 cases x with
 | non => cases h; exact .non
 | bl b => cases h; exact .bl b
 | int i => cases h; exact .int i
 | str s => cases h; exact .str s
 | ref a =>
  have h' : tyO (H a) = some t := h
  cases e : H a with
  | none => rw [e] at h'; cases h'
  | some o =>
   rw [e] at h'
   cases o with
   | lst xs => cases h'; exact .lst e
   | tup xs => cases h'; exact .tup e
   | _ => cases h'
 | _ => cases h
def BL : List V → Hp → VK → Prop := fun xs H Q => match xs with
 | [x, .ty T] => ∃ t, tyN x H = some t ∧ cF.contains T = true ∧ Q (.bl (cu t T)) H
 | _ => False
def i2q (o : Option HO) (x : V) (H : Hp) (Q : VK) : Prop := match o with
 | some (.tup [.ty T, .ty U]) => ∃ t, tyN x H = some t ∧ cF.contains T = true ∧ cF.contains U = true ∧ Q (.bl (cu t T || cu t U)) H
 | _ => False
def BJ : List V → Hp → VK → Prop := fun xs H Q => match xs with
 | [x, .ref p] => i2q (H p) x H Q
 | _ => False
theorem bF {X : Cx} : cg X (.builtin "isinstance") BL := by
 intro pins s σ H xs us Q I r h
 unfold BL at h
 split at h
 ·obtain ⟨t, e, k, q⟩ := h
  exact zJ pins s σ H _ us Q I r ⟨_, _, t, rfl, Tn.of e, by simpa using k, q⟩
 ·exact h.elim
theorem zG {X : Cx} : cg X (.builtin "isinstance") BJ := by
 intro pins s σ H xs us Q I r h
 unfold BJ at h
 split at h
 ·rename_i x p
  unfold i2q at h
  split at h
  ·rename_i T U e
   obtain ⟨t, e1, k1, k2, q⟩ := h
   refine zH pins s σ H _ us Q I r ⟨x, p, [T, U], t, rfl, e, Tn.of e1, fun z hz => ?_, by simpa using q⟩
   rcases List.mem_cons.mp hz with rfl | hz
   ·simpa using k1
   ·obtain rfl := List.mem_singleton.mp hz
    simpa using k2
  ·exact h.elim
 ·exact h.elim
theorem BK (x : V) (T : String) (H : Hp) (Q : VK) : BL [x, .ty T] H Q = ∃ t, tyN x H = some t ∧ cF.contains T = true ∧ Q (.bl (cu t T)) H := rfl
theorem Bx (x : V) (p : Addr) (H : Hp) (Q : VK) : BJ [x, .ref p] H Q = i2q (H p) x H Q := rfl
theorem Ly (x : V) (T U : String) (H : Hp) (Q : VK) : i2q (some (.tup [.ty T, .ty U])) x H Q = ∃ t, tyN x H = some t ∧ cF.contains T = true ∧ cF.contains U = true ∧ Q (.bl (cu t T || cu t U)) H := rfl
theorem Hu : cF.contains "list" = true := by decide
theorem Di : cF.contains "tuple" = true := by decide
theorem Lp : cF.contains "int" = true := by decide
theorem Ln : cF.contains "str" = true := by decide
theorem kc_bool : cF.contains "bool" = true := by decide
theorem ty_int (i : Int) (H : Hp) : tyN (.int i) H = some "int" := rfl
theorem Mu (i : Bool) (H : Hp) : tyN (.bl i) H = some "bool" := rfl
theorem ty_str (i : Str) (H : Hp) : tyN (.str i) H = some "str" := rfl
theorem Js (H : Hp) : tyN .non H = some "NoneType" := rfl
theorem Jr (p : Addr) (H : Hp) : tyN (.ref p) H = tyO (H p) := rfl
theorem El (xs : List V) : tyO (some (.lst xs)) = some "list" := rfl
theorem Ek (xs : List V) : tyO (some (.tup xs)) = some "tuple" := rfl
theorem kY : cu "NoneType" "bool" = false := by decide
theorem lR : cu "NoneType" "int" = false := by decide
theorem lQ : cu "NoneType" "str" = false := by decide
theorem kW : cu "NoneType" "list" = false := by decide
theorem jF : cu "NoneType" "tuple" = false := by decide
theorem rz : cu "bool" "bool" = true := by decide
theorem t6 : cu "bool" "int" = true := by decide
theorem tZ : cu "bool" "str" = false := by decide
theorem rm : cu "bool" "list" = false := by decide
theorem oX : cu "bool" "tuple" = false := by decide
theorem tY : cu "int" "bool" = false := by decide
theorem vm : cu "int" "int" = true := by decide
theorem vh : cu "int" "str" = false := by decide
theorem tX : cu "int" "list" = false := by decide
theorem qZ : cu "int" "tuple" = false := by decide
theorem tU : cu "str" "bool" = false := by decide
theorem vg : cu "str" "int" = false := by decide
theorem vf : cu "str" "str" = true := by decide
theorem tR : cu "str" "list" = false := by decide
theorem qW : cu "str" "tuple" = false := by decide
theorem qY : cu "list" "bool" = false := by decide
theorem tW : cu "list" "int" = false := by decide
theorem tV : cu "list" "str" = false := by decide
theorem qX : cu "list" "list" = true := by decide
theorem oW : cu "list" "tuple" = false := by decide
theorem oV : cu "tuple" "bool" = false := by decide
theorem qU : cu "tuple" "int" = false := by decide
theorem qT : cu "tuple" "str" = false := by decide
theorem oU : cu "tuple" "list" = false := by decide
theorem mZ : cu "tuple" "tuple" = true := by decide
def gtq (o : Option HO) (n : Nat) (t : TGs) (σ : St) (H : Hp) (Q : St → Hp → Prop) : Prop := match o with
 | some (.tup xs) => xs.length = n ∧ t xs σ H Q
 | _ => False
def xJ (n : Nat) (t : TGs) : TG := fun v σ H Q => match v with
 | .ref a => gtq (H a) n t σ H Q
 | _ => False
theorem zu (n : Nat) (t : TGs) (a : Addr) (σ : St) (H : Hp) (Q : St → Hp → Prop) : xJ n t (.ref a) σ H Q = gtq (H a) n t σ H Q := rfl
theorem Ii (xs : List V) (n : Nat) (t : TGs) (σ : St) (H : Hp) (Q : St → Hp → Prop) : gtq (some (.tup xs)) n t σ H Q = (xs.length = n ∧ t xs σ H Q) := rfl
def qtq (o : Option HO) (f : List Bool → Bool) (H : Hp) (Q : VK) : Prop := match o with
 | some (.lst xs) => ∃ bs, xs = List.map V.bl bs ∧ Q (.bl (f bs)) H
 | _ => False
def rC (f : List Bool → Bool) : List V → Hp → VK → Prop := fun xs H Q => match xs with
 | [.ref p] => qtq (H p) f H Q
 | _ => False
theorem ud (f : List Bool → Bool) (p : Addr) (H : Hp) (Q : VK) : rC f [.ref p] H Q = qtq (H p) f H Q := rfl
theorem Gk (f : List Bool → Bool) (xs : List V) (H : Hp) (Q : VK) : qtq (some (.lst xs)) f H Q = ∃ bs, xs = List.map V.bl bs ∧ Q (.bl (f bs)) H := rfl
section
variable {X : Cx} {es : List Expr} {k : Nat} {t : TGs} {n : Nat} {pos : Pos}
theorem GK (hc : X.calm = true) (h : PGs X es t) (hn : (assignEach es X.env).length = n := by rfl) (hst : (assignEach es X.env).findIdx? (·.1) = none := by rfl) : PG X (.Tuple es k pos) (xJ n t) := by
 intro pins s σ H v u Q I r hw
 unfold xJ at hw
 split at hw
 ·rename_i a
  unfold gtq at hw
  split at hw
  ·rename_i xs e
   exact Ks hc h hn hst pins s σ H _ u Q I r ⟨a, xs, rfl, SqT.of e, hw.1, hw.2⟩
  ·exact hw.elim
 ·exact hw.elim
theorem iY (hc : X.calm = true) : cg X (.builtin "all") (rC fun bs => bs.all id) := by
 intro pins s σ H xs us Q I r h
 unfold rC at h
 split at h
 ·rename_i p
  unfold qtq at h
  split at h
  ·rename_i ys e
   obtain ⟨bs, rfl, q⟩ := h
   exact DY hc pins s σ H _ us Q I r ⟨p, bs, rfl, SqL.of e, q⟩
  ·exact h.elim
 ·exact h.elim
end
def Bq : List V → Hp → VK → Prop := fun xs H Q => match xs with
 | [.int i, .int j] => Q (.int (if j < i then j else i)) H
 | _ => False
def MN : List V → Hp → VK → Prop := fun xs H Q => match xs with
 | [.int i, .int j] => Q (.int (if j > i then j else i)) H
 | _ => False
theorem Bp (i j : Int) (H : Hp) (Q : VK) : Bq [.int i, .int j] H Q = Q (.int (if j < i then j else i)) H := rfl
theorem Br (i j : Int) (H : Hp) (Q : VK) : MN [.int i, .int j] H Q = Q (.int (if j > i then j else i)) H := rfl
theorem zA {X : Cx} (hc : X.calm = true) : cg X (.builtin "min") Bq := by
 intro pins s σ H xs us Q I r h
 unfold Bq at h
 split at h
 ·exact zB hc pins s σ H _ us Q I r ⟨_, _, rfl, h⟩
 ·exact h.elim
structure QE (X : Cx) (e : Expr) (t : TE) : Prop where
 h : PE X e t
structure QT (X : Cx) (e : Expr) (t : TT) : Prop where
 h : PT X e t
structure QW (X : Cx) (e : Expr) (t : TT) : Prop where
 h : PW X e t
structure QA (X : Cx) (es : List Expr) (t : TA) : Prop where
 h : PA X es t
structure QS (X : Cx) (st : Stmt) (t : TS) : Prop where
 h : PS X st t
structure QB (X : Cx) (st : List Stmt) (t : TS) : Prop where
 h : PSs X st t
structure QG (X : Cx) (e : Expr) (t : TG) : Prop where
 h : PG X e t
structure QGs (X : Cx) (es : List Expr) (t : TGs) : Prop where
 h : PGs X es t
structure QI (X : Cx) (tg e : Expr) (t : TI) : Prop where
 h : PI X tg e t
structure QC (X : Cx) (cs : List Expr) (t : TT) : Prop where
 h : PTs X cs t
section
variable {X : Cx} {i : Nat} {x : Str} {pos pos' p tpos : Pos} {e a b c o : Expr} {es rest : List Expr} {te ta tb tc to ti : TE} {tA tB' : TT} {t : TA} {k n kk : Nat} {ps : List Str} {sp : Sp} {id T : String} {r : List V → Hp → VK → Prop} {st : Stmt} {sts : List Stmt} {ts us : TS} {tg iter : Expr} {wi : TI} {g : TG} {gs : TGs}
theorem aA (h : Nm X.N X.env.scope i x) : QE X (.Name x pos) (Ad i) := ⟨pn h⟩
theorem gW (i : Nat) {x : Str} {pos : Pos} (hN : X.N[i]? = some x := by rfl) (hv : Vis X.env.scope x := by first | exact Or.inl rfl | exact Or.inr (Or.inl rfl) | exact Or.inr (Or.inr rfl)) (hd : (x == ("__debug__" : Str)) = false := by decide)
  (hcd : (x == ("__classdict__" : Str)) = false := by decide) : QE X (.Name x pos) (Ad i) := ⟨Cq hN hv hd hcd⟩
theorem ao {i j pos} : QE X (.Constant (.int i) j pos) (tC (.int i)) := ⟨KH⟩
theorem jf {b j pos} : QE X (.Constant (.bool b) j pos) (tC (.bl b)) := ⟨Nq⟩
theorem jo {j pos} : QE X (.Constant .none j pos) (tC .non) := ⟨KC⟩
theorem bh {x j pos} : QE X (.Constant (.str x) j pos) (tC (.str x)) := ⟨Kw⟩
theorem aO {op : Operator} {r : R2} (ho : OpR X (binaryOp op) r) (ha : QE X a ta) (hb : QE X b tb) : QE X (.BinOp a op b pos) (tOp r ta tb) := ⟨Nf ho ha.h hb.h⟩
theorem wR {op : UnaryOp} {r : V → Hp → VK → Prop} (ho : UnR X (unaryOp op) r) (ha : QE X a ta) : QE X (.UnaryOp op a pos) (tUn r ta) := ⟨M9 ho ha.h⟩
theorem Ce (ha : QE X a ta) : QE X (.UnaryOp .Not a pos) (Ag ta) := ⟨Kz ha.h⟩
theorem dU {op : CmpOp} {r : R2} (ho : OpR X (compareOp op) r) (ha : QE X a ta) (hb : QE X b tb) (hm : behindInMarks op b = false) : QE X (.Compare a [op] [b] pos) (tOp r ta tb) := ⟨GR ho ha.h hb.h hm⟩
theorem bK {op : CmpOp} {r : R2} (ho : OpR X (compareOp op) r) (ha : QE X a ta) (hb : QE X b tb) (hm : behindInMarks op b = false) : QT X (.Compare a [op] [b] pos) (tH (tOp r ta tb)) := ⟨Gr ho ha.h hb.h hm⟩
theorem nG {op op' : CmpOp} {r r' : R2} (ho : OpR X (compareOp op) r) (ho' : OpR X (compareOp op') r') (ha : QE X a ta) (hb : QE X b tb) (hc : QE X c tc)
  (hm : lastMarks [op, op'] [b, c] = false := by with_unfolding_all rfl) : QE X (.Compare a [op, op'] [b, c] pos) (mJ r r' ta tb tc) := ⟨Cv ho ho' ha.h hb.h hc.h hm⟩
theorem BX {op op' : CmpOp} {r r' : R2} (ho : OpR X (compareOp op) r) (ho' : OpR X (compareOp op') r') (ha : QE X a ta) (hb : QE X b tb) (hc : QE X c tc)
  (hm : lastMarks [op, op'] [b, c] = false := by with_unfolding_all rfl) : QT X (.Compare a [op, op'] [b, c] pos) (tH (mJ r r' ta tb tc)) := ⟨Cg ho ho' ha.h hb.h hc.h hm⟩
theorem gF {op} (h : QE X a ta) : QE X (.BoolOp op [a] pos) ta := ⟨Ky h.h⟩
theorem fG (ha : QE X a ta) (hb : QE X (.BoolOp .And (b :: rest) pos) tb) : QE X (.BoolOp .And (a :: b :: rest) pos) (Am ta tb) := ⟨KN ha.h hb.h⟩
theorem wU (hc : QT X c tA) (ha : QE X a ta) (hb : QE X b tb) : QE X (.IfExp c a b pos) (tIf tA ta tb) := ⟨Cu hc.h ha.h hb.h⟩
theorem bG {r : R2} (hr : IxR X r) (ha : QE X a ta) (hb : QE X b tb) (hs : xZ b) : QE X (.Subscript a b pos) (tOp r ta tb) := ⟨Ng hr ha.h hb.h hs⟩
theorem fZ (h : QA X es t) : QE X (.List es pos) (JD t) := ⟨KD h.h⟩
theorem cP {x1} (h : QA X es t) : QE X (.Tuple es x1 pos) (Jv t) := ⟨Kv h.h⟩
theorem aq : QA X [] JC := ⟨KQ⟩
theorem aj (ha : QE X e te) (hr : QA X es t) (hs : starEach (e :: es) X.env = (false, eval e X.env) :: starEach es X.env := by rfl) : QA X (e :: es) (Aj te t) := ⟨G4 ha.h hr.h hs⟩
theorem bH (C : Cal X.prog X.w X.K X.mg X.base x k ps sp) (hr : eY k X.A) (hg : Gl X x) (hdb : Bn x) (ha : QA X (e :: es) t)
  (he : starEach (e :: es) X.env = (false, eval e X.env) :: starEach es X.env := by rfl) (hpl : (backTo pos (starEach es X.env)).any (·.1) = false := by rfl) : QE X (.Call (.Name x p) (e :: es) [] pos) (tK sp [] E0 t) := ⟨Ni C hr hg hdb ha.h he hpl⟩
theorem bI (hc : cg X (.builtin id) r) (hg : Gl X x) (hm : X.mg x = none) (hv : bootBuiltins x = some (.builtin id)) (b : Bn x) (ha : QA X (e :: es) t)
  (he : starEach (e :: es) X.env = (false, eval e X.env) :: starEach es X.env := by rfl) (hpl : (backTo pos (starEach es X.env)).any (·.1) = false := by rfl) : QE X (.Call (.Name x p) (e :: es) [] pos) (tCB r t) := ⟨Nj hc hg hm hv b ha.h he hpl⟩
theorem gY (hc : cg X (.type T) r) (hg : Gl X x) (hm : X.mg x = none) (hv : bootBuiltins x = some (.type T)) (b : Bn x) (ha : QA X (e :: es) t)
  (he : starEach (e :: es) X.env = (false, eval e X.env) :: starEach es X.env := by rfl) (hpl : (backTo pos (starEach es X.env)).any (·.1) = false := by rfl) : QE X (.Call (.Name x p) (e :: es) [] pos) (tCB r t) := ⟨Nh hc hg hm hv b ha.h he hpl⟩
theorem d9 (n : String) (hg : Gl X x) (hm : X.mg x = none) (hv : bootBuiltins x = some (.type n)) (b : Bn x) : QE X (.Name x pos) (tC (.ty n)) := ⟨Nk n hg hm hv b⟩
theorem eU (ha : QT X a tA) : QT X (.UnaryOp .Not a pos) (JB tA) := ⟨Kg ha.h⟩
theorem dR (h : QE X e te) (he : ∀ whole, isTrue e X.env whole = (do let v ← whole; standAt e.pos; holding [v] (truthy v)) := by intro _; rfl) : QT X e (tB te) := ⟨Ke h.h he⟩
theorem wQ (ha : QT X a tA) : QW X (.BoolOp .And [a] pos) tA := ⟨Gp ha.h⟩
theorem jn (ha : QT X a tA) : QW X (.BoolOp .Or [a] pos) tA := ⟨Kc ha.h⟩
theorem BW (ha : QT X a tA) (hb : QW X (.BoolOp .And (b :: rest) pos) tB') : QW X (.BoolOp .And (a :: b :: rest) pos) (JL tA tB') := ⟨Kd ha.h hb.h⟩
theorem nu (ha : QT X a tA) (hb : QW X (.BoolOp .Or (b :: rest) pos) tB') : QW X (.BoolOp .Or (a :: b :: rest) pos) (tOr tA tB') := ⟨M5 ha.h hb.h⟩
theorem rD (h : QW X e tA) : QT X e tA := ⟨h.h.pt⟩
theorem bO : QB X [] Ah := ⟨Gu⟩
theorem aH (h : QS X st ts) : QB X [st] ts := ⟨Gs h.h⟩
theorem aD (h : QS X st ts) (h2 : QB X sts us) : QB X (st :: sts) (Es ts us) := ⟨Ci h.h h2.h⟩
theorem aP (he : QE X e te) : QS X (.Return (some e) pos) (Jy te) := ⟨Kl he.h⟩
theorem b7 {c : Expr} {a b : List Stmt} {tc : TT} (hc : QT X c tc) (ha : QB X a ts) (hb : QB X b us) : QS X (.If c a b pos) (JG tc ts us) := ⟨M7 hc.h ha.h hb.h⟩
theorem fQ (he : QE X e te) (hs : swapsWith e none pos.line X.env = pure false := by rfl) : QS X (.Expr e pos) (Ai te) := ⟨Gw he.h hs⟩
theorem cX (h : Nm X.N X.env.scope i x) (hN : X.N.Nodup) (he : QE X e te) (hs : swapsWith e (some (.Name x pos')) pos.line X.env = pure false := by rfl) (hf : X.fn x = true ∨ X.env.scope.names.lookup x = some .local := by exact .inl rfl) :
  QS X (.Assign [.Name x pos'] e pos) (tL te (jj i)) := ⟨M6 h hN he.h hs hf⟩
theorem nF (he : QE X e te) (hg : QG X tg g) (hs : swapsWithSole [tg] e pos.line X.env = pure false := by rfl) (hw : swappedStores [tg] e X.env = pure none := by rfl)
  (h1 : (assignEach [tg] X.env).map (·.2) = [assign tg X.env] := by rfl) : QS X (.Assign [tg] e pos) (tL te g) := ⟨Kp he.h hg.h hs hw h1⟩
theorem BZ {i j : Nat} {x y : Str} {a b : Expr} {ta : TA} {px py pt : Pos} {kt k2 pt2} (hc : X.calm = true) (hN : X.N.Nodup) (hi : X.N[i]? = some x) (hj : X.N[j]? = some y) (hij : i ≠ j)
  (hx : X.env.scope.names.lookup x = some .local) (hy : X.env.scope.names.lookup y = some .local) (ha : QA X [a, b] ta)
  (hw : swappedStores [.Tuple [.Name x px, .Name y py] kt pt] (.Tuple [a, b] k2 pt2) X.env = pure (some [x, y]))
  (hs : swapsWithSole [.Tuple [.Name x px, .Name y py] kt pt] (.Tuple [a, b] k2 pt2) pos.line X.env = pure false := by rfl) :
  QS X (.Assign [.Tuple [.Name x px, .Name y py] kt pt] (.Tuple [a, b] k2 pt2) pos) (Jz i j ta) := ⟨Km hc hN hi hj hij hx hy ha.h hw hs⟩
theorem rE {body : List Stmt} (hp : PassesOwn (model X.prog X.w) X.A X.env X.xe) (hc : X.calm = true) (hi : QI X tg iter wi) (hg : QG X tg g) (hb : QB X body ts)
  (hs : ∀ x, foldedSetIterable iter X.env x = pure x := by intro _; rfl) : QS X (.For tg iter body [] pos) (JH wi g ts) := ⟨Ko hp hc hi.h hg.h hb.h hs⟩
theorem jH (h : Nm X.N X.env.scope i x) (hN : X.N.Nodup) (hf : X.fn x = true ∨ X.env.scope.names.lookup x = some .local := by exact .inl rfl) : QG X (.Name x pos) (jj i) := ⟨M8 h hN hf⟩
theorem dh (i : Nat) (hN : X.N.Nodup) (hi : X.N[i]? = some x) (hx : Loc X.env.scope x) (hf : X.fn x = true ∨ X.env.scope.names.lookup x = some .local := by first | exact .inl rfl | exact .inr rfl) : QG X (.Name x pos) (jj i) := ⟨wV hN hi hx hf⟩
theorem mC : QGs X [] LK := ⟨GJ⟩
theorem d8 (h1 : QG X e g) (h2 : QGs X es gs) (hs : (assignEach (e :: es) X.env).map (·.2) = assign e X.env :: (assignEach es X.env).map (·.2) := by rfl) : QGs X (e :: es) (Dy g gs) := ⟨Cp h1.h h2.h hs⟩
theorem rF {n : Nat} (hc : X.calm = true) (h : QGs X es gs) (hn : (assignEach es X.env).length = n := by rfl) (hst : (assignEach es X.env).findIdx? (·.1) = none := by rfl) : QG X (.Tuple es k pos) (xJ n gs) := ⟨GK hc h.h hn hst⟩
theorem Ef (o : Expr) (c j) (p pos : Pos) (env : Env) (v : Value) : assign (.Subscript o (.Constant c j p) pos) env v = (do
   let ov ← holding [v] (eval o env)
   let iv ← holding [v, ov] (eval (.Constant c j p) env)
   standAt pos
   holding [v, ov, iv] (setItem ov iv v)
   release [v, ov, iv] []) := rfl
theorem rG {c j} {t : Ja} (ho : QE X o to) (hi : QE X (.Constant c j p) ti) (hs : Jb X t) : QG X (.Subscript o (.Constant c j p) pos) (Lz to ti t) := ⟨Ku ho.h hi.h hs (fun v => Ef o c j p pos X.env v)⟩
theorem iR (hg : Gl X "range") (hm : X.mg "range" = none) (ha : QA X [a] t) (hs : starEach [a] X.env = [(false, eval a X.env)] := by rfl) : QI X tg (.Call (.Name "range" p) [a] [] pos) (ql t) := ⟨yL hg hm ha.h hs⟩
theorem fH : QC X [] Ep := ⟨Gq⟩
theorem dZ {NX : List Str} {kX : List (Str × NameKind)} {scope : Scope} {elt : Expr} {ifs : List Expr} {tc : TT} (N : List Str) (mp : List (Option Nat)) (hNX : X.N = NX) (hkX : X.env.scope.names = kX) (S : qG NX kX N mp scope) (hc : X.calm = true)
  (hi : QI X tg iter wi) (hg : ∀ cl C s H fp, QG (bD X N scope cl C s H fp) tg g) (ht : ∀ cl C s H fp, QC (bD X N scope cl C s H fp) ifs tc) (he : ∀ cl C s H fp, QE (bD X N scope cl C s H fp) elt te)
  (hs : ∀ x, foldedSetIterable iter X.env x = pure x := by intro _; rfl) : QE X (.ListComp elt [⟨tg, iter, ifs, 0⟩] scope pos) (pN mp wi g tc te) :=
 ⟨GQ N mp hNX hkX S hc hi.h (fun cl C s H fp => (hg cl C s H fp).h) (fun cl C s H fp => (ht cl C s H fp).h) (fun cl C s H fp => (he cl C s H fp).h) hs⟩
end
section
variable {P : Program} {w : World} {K : PySem.W.Frag} {mg : Str → Option Value} {base : Heap}
theorem Fun.okq {x qual : Str} {st : Stmt} {f : Addr} {fd : FuncData} {N ps : List Str} {k : Nat} {sp : Sp} (F : Fun K x qual st f fd) (S : bB N ps (ak st)) (len : ∀ vs H Q E, sp vs H Q E → vs.length = ps.length)
  (hbody : ∀ (cdv : Value) (A : Around) (outer : List Env) (s : Shared) (H : Hp) (vs : List V) (Q : VK) (E : XK), eY k (A.deeper (envOfC qual (ak st) s.heap.objs.size f cdv)) → sp vs H Q E →
   ∃ t, QB (vV CX0 P w K mg base N qual (ak st) f cdv A outer s H E).nox (aZ st) t ∧ t { nx := fun _ H' => Q .non H', rt := Q } (L2.start N vs) H) : dj P w K mg base CX0 (k + 1) f fd ps sp :=
 F.ok S len fun cdv A outer s H vs Q E hr hsp => by
  obtain ⟨t, h, q⟩ := hbody cdv A outer s H vs Q E hr hsp
  exact ⟨t, h.h, q⟩
end
def smq (o : Option HO) (H : Hp) (Q : VK) : Prop := match o with
 | some (.lst xs) => ∃ ns : List Int, xs = ns.map V.int ∧ Q (.int ns.sum) H
 | _ => False
def MK : List V → Hp → VK → Prop := fun xs H Q => match xs with
 | [.ref p] => smq (H p) H Q
 | _ => False
theorem yF (p : Addr) (H : Hp) (Q : VK) : MK [.ref p] H Q = smq (H p) H Q := rfl
theorem Ew (xs : List V) (H : Hp) (Q : VK) : smq (some (.lst xs)) H Q = ∃ ns : List Int, xs = ns.map V.int ∧ Q (.int ns.sum) H := rfl
section
variable {X : Cx}
def MJ (i : Int) (n : Nat) : List V := (List.range n).map fun k => V.int (i + (k : Nat))
def Mz (ta : TA) : TE := fun σ H Q => ta σ H fun vs H1 => ∃ i j : Int, vs = [.int i, .int j] ∧ (-(2 ^ 62) ≤ i ∧ i < 2 ^ 62 ∧ -(2 ^ 62) ≤ j ∧ j < 2 ^ 62) ∧ (j - i).toNat ≤ sizeLine ∧ ∀ p, H1 p = none → Q (.ref p) (upd H1 p (.lst (MJ i (j - i).toNat)))
def adq (a b : Option HO) (H : Hp) (Q : VK) : Prop := match a, b with
 | some (.lst xs), some (.lst zs) => xs.length + zs.length ≤ sizeLine ∧ ∀ p, H p = none → Q (.ref p) (upd H p (.lst (xs ++ zs)))
 | _, _ => False
def wO : R2 := fun x y H Q => match x, y with
 | .int i, .int j => Q (.int (i + j)) H
 | .ref p, .ref q => adq (H p) (H q) H Q
 | _, _ => False
theorem Gj (i j : Int) (H : Hp) (Q : VK) : wO (.int i) (.int j) H Q = Q (.int (i + j)) H := rfl
theorem Gi (p q : Addr) (H : Hp) (Q : VK) : wO (.ref p) (.ref q) H Q = adq (H p) (H q) H Q := rfl
theorem wg (xs zs : List V) (H : Hp) (Q : VK) : adq (some (.lst xs)) (some (.lst zs)) H Q = (xs.length + zs.length ≤ sizeLine ∧ ∀ p, H p = none → Q (.ref p) (upd H p (.lst (xs ++ zs)))) := rfl
theorem bJ : OpR X (binaryOp .Add) wO := by
 intro pins s σ H x y v u Q I rx ry h
 unfold wO at h
 split at h
 ·exact K5 pins s σ H _ _ v u Q I rx ry ⟨_, _, rfl, rfl, h⟩
 ·rename_i p q
  unfold adq at h
  split at h
  ·rename_i xs zs e1 e2
   exact K4 pins s σ H _ _ v u Q I rx ry ⟨p, q, xs, zs, rfl, rfl, e1, e2, h.1, h.2⟩
  ·exact h.elim
 ·exact h.elim
def eqL : List V → List V → Bool
 | [], [] => true
 | x :: xs, y :: ys => eqV x y && eqL xs ys
 | _, _ => false
def Hq (a b : Option HO) (H : Hp) (Q : VK) : Prop := match a, b with
 | some (.lst xs), some (.lst zs) => xs.all cW = true ∧ zs.all cW = true ∧ Q (.bl (!eqL xs zs)) H
 | _, _ => False
def yI : R2 := fun x y H Q => match x, y with
 | .ref p, .ref q => Hq (H p) (H q) H Q
 | x, y => rNe x y H Q
theorem J2 (p q : Addr) (H : Hp) (Q : VK) : yI (.ref p) (.ref q) H Q = Hq (H p) (H q) H Q := rfl
theorem J3 (i j : Int) (H : Hp) (Q : VK) : yI (.int i) (.int j) H Q = rNe (.int i) (.int j) H Q := rfl
theorem J4 (i j : Bool) (H : Hp) (Q : VK) : yI (.bl i) (.bl j) H Q = rNe (.bl i) (.bl j) H Q := rfl
theorem J1 (i j : Str) (H : Hp) (Q : VK) : yI (.str i) (.str j) H Q = rNe (.str i) (.str j) H Q := rfl
theorem Ho (xs zs : List V) (H : Hp) (Q : VK) : Hq (some (.lst xs)) (some (.lst zs)) H Q = (xs.all cW = true ∧ zs.all cW = true ∧ Q (.bl (!eqL xs zs)) H) := rfl
theorem xO : ∀ (xs zs : List V), xs.length = zs.length → ((List.range xs.length).all fun j => match xs[j]?, zs[j]? with | some a, some b => eqV a b | _, _ => true) = eqL xs zs
 | [], [], _ => rfl
 | [], _ :: _, h => by cases h
 | _ :: _, [], h => by cases h
 | x :: xs, z :: zs, h => by
  have ih := xO xs zs (by simpa using h)
  rw [List.length_cons, List.range_succ_eq_map, List.all_cons, List.all_map]
  show (eqV x z && _) = (eqV x z && eqL xs zs)
  rw [← ih]
  rfl
theorem xM : ∀ (xs zs : List V), xs.length ≠ zs.length → eqL xs zs = false
 | [], [], h => absurd rfl h
 | [], _ :: _, _ => rfl
 | _ :: _, [], _ => rfl
 | x :: xs, z :: zs, h => by
  show (eqV x z && eqL xs zs) = false
  rw [xM xs zs (by simpa using h), Bool.and_false]
theorem lg (hu : X.A.units < cLine) : OpR X (compareOp .NotEq) yI := by
 intro pins s σ H x y v u Q I rx ry h
 unfold yI at h
 split at h
 ·rename_i p q
  unfold Hq at h
  split at h
  ·rename_i xs zs e1 e2
   obtain ⟨f1, f2, q⟩ := h
   cases rx
   cases ry
   obtain ⟨its1, r1, pl1, hz1⟩ := I.list (SqL.of e1)
   obtain ⟨its2, r2, pl2, hz2⟩ := I.list (SqL.of e2)
   have l1 := r1.length
   have l2 := r2.length
   by_cases hl : xs.length = zs.length
   ·refine SeqAt.RcNeAt.lists (e := fun j => match xs[j]?, zs[j]? with | some a, some b => eqV a b | _, _ => true) pl1.isList pl2.isList (by simp only [List.size_toArray]; omega) hu (fun j h1 h2 => ?_) X.prog X.w X.xe (EP X pins σ Q) ?_
    ·have j1 : j < xs.length := by simp only [List.size_toArray] at h1; omega
     have j2 : j < zs.length := by omega
     have g1 : xs[j]? = some xs[j] := List.getElem?_eq_getElem j1
     have g2 : zs[j]? = some zs[j] := List.getElem?_eq_getElem j2
     obtain ⟨u1, hu1, ru1⟩ := r1.get g1
     obtain ⟨u2, hu2, ru2⟩ := r2.get g2
     have k1 : its1.toArray[j] = u1 := by
      have := List.getElem?_eq_some_iff.mp hu1
      obtain ⟨_, z⟩ := this
      simpa using z
     have k2 : its2.toArray[j] = u2 := by
      have := List.getElem?_eq_some_iff.mp hu2
      obtain ⟨_, z⟩ := this
      simpa using z
     rw [k1, k2, g1, g2]
     exact DP ru1 ru2 (List.all_eq_true.mp f1 _ (List.getElem_mem j1)) (List.all_eq_true.mp f2 _ (List.getElem_mem j2))
    ·rw [show its1.toArray.size = xs.length by simp only [List.size_toArray]; omega, xO xs zs hl]
     exact ⟨.bl _, H, I, rfl, q⟩
   ·rw [xM xs zs hl] at q
    refine SeqAt.RcNeAt.lists_lengths pl1.isList pl2.isList (by simp only [List.size_toArray, bne_iff_ne, ne_eq]; omega) hu X.prog X.w X.xe (EP X pins σ Q) ⟨.bl _, H, I, rfl, q⟩
  ·exact h.elim
 ·exact Nt pins s σ H _ _ v u Q I rx ry h
def inq (neg : Bool) (o : Option HO) (x : V) (H : Hp) (Q : VK) : Prop := match o with
 | some (.lst xs) => cW x = true ∧ xs.all cW = true ∧ Q (.bl (if neg then !inV x xs else inV x xs)) H
 | some (.tup xs) => cW x = true ∧ xs.all cW = true ∧ Q (.bl (if neg then !inV x xs else inV x xs)) H
 | _ => False
def J9 (neg : Bool) : R2 := fun x y H Q => match y with
 | .ref p => inq neg (H p) x H Q
 | _ => False
theorem J8 (neg : Bool) (x : V) (p : Addr) (H : Hp) (Q : VK) : J9 neg x (.ref p) H Q = inq neg (H p) x H Q := rfl
theorem NZ (neg : Bool) (x : V) (xs : List V) (H : Hp) (Q : VK) : inq neg (some (.lst xs)) x H Q = (cW x = true ∧ xs.all cW = true ∧ Q (.bl (if neg then !inV x xs else inV x xs)) H) := rfl
theorem NT (neg : Bool) (x : V) (xs : List V) (H : Hp) (Q : VK) : inq neg (some (.tup xs)) x H Q = (cW x = true ∧ xs.all cW = true ∧ Q (.bl (if neg then !inV x xs else inV x xs)) H) := rfl
theorem Lw {neg : Bool} {o : Option HO} {x : V} {H : Hp} {Q : VK} {p : Addr} {K : PySem.W.Frag} (e : H p = o) (h : inq neg o x H Q) : rIn K neg x (.ref p) H Q := by
 unfold inq at h
 split at h
 ·rename_i xs
  exact ⟨p, xs, rfl, .inl (SqL.of e), h.1, h.2.1, h.2.2⟩
 ·rename_i xs
  exact ⟨p, xs, rfl, .inr (SqT.of e), h.1, h.2.1, h.2.2⟩
 ·exact h.elim
theorem K3 : OpR X (compareOp .In) (J9 false) := by
 intro pins s σ H x y v u Q I rx ry h
 unfold J9 at h
 split at h
 ·exact yO pins s σ H _ _ v u Q I rx ry (Lw rfl h)
 ·exact h.elim
end
theorem Ed {α : Type} (a b : α) : atI [a, b] (-1) = some b := rfl
theorem Ec {α : Type} (a b c : α) : atI [a, b, c] (-1) = some c := rfl
structure bW (H : Hp) (p : Addr) (B : Int) : Prop where
 ex : ∃ a b c : Int, H p = some (.lst [.int a, .int b, .int c]) ∧ 0 ≤ a ∧ 0 ≤ b ∧ b < 2147483629 ∧ 0 ≤ c ∧ c ≤ B
theorem bW.same {H H' : Hp} {p : Addr} {B : Int} (h : bW H p B) (s : Same H H') : bW H' p B := by
 obtain ⟨a, b, c, e, r⟩ := h
 exact ⟨a, b, c, s _ _ e, r⟩
theorem bW.le {H : Hp} {p : Addr} {B B' : Int} (h : bW H p B) (l : B ≤ B') : bW H p B' := by
 obtain ⟨a, b, c, e, r1, r2, r3, r4, r5⟩ := h
 exact ⟨a, b, c, e, r1, r2, r3, r4, by omega⟩
theorem bW.ne {H : Hp} {p q : Addr} {B : Int} (h : bW H p B) (n : H q = none) : q ≠ p := by
 obtain ⟨a, b, c, e, _⟩ := h
 exact (aF e n).symm
theorem two_pow_pos (k : Nat) : (0 : Int) < 2 ^ k := Int.pow_pos (by decide)
def Ax (K : PySem.W.Frag) : Sp := fun vs H Q _ => ∃ (a : Addr) (ns : List Int) (k : Int), vs = [.ref a, .int k] ∧ SqL K H a (ns.map V.int) ∧ 0 ≤ k ∧ ∀ v : Int, Q (.int v) H
def Aq (K : PySem.W.Frag) : Sp := fun vs H Q _ => ∃ (a : Addr) (ns : List Int) (k : Int), vs = [.ref a, .int k] ∧ SqL K H a (ns.map V.int) ∧ 0 ≤ k ∧ k ≤ 100 ∧ ∀ p H', H p = none → Same H H' → bW H' p 0 → Q (.ref p) H'
def kE (n : Nat) : Sp := fun vs H Q _ => ∃ (p : Addr) (m B : Int), vs = [.ref p, .int m] ∧ bW H p B ∧ B + (n : Int) ≤ 1000100 ∧ 0 < m ∧ m < 2 ^ 70 ∧ 1 ≤ n ∧ (1000000 ≤ m → 2 ≤ n) ∧
 ∀ r H', 0 ≤ r → r < m → bM p H H' → bW H' p (B + n) → Q (.int r) H'
theorem Kq (c : Int) : ∃ v : Int, atI [V.int 2147483587, V.int 2147483579, V.int 2147483563, V.int 2147483549, V.int 2147483543, V.int 2147483497, V.int 2147483489] (c % 7) = some (.int v) ∧ 0 < v := by
 have h1 : 0 ≤ c % 7 := Int.emod_nonneg _ (by decide)
 have h2 : c % 7 < 7 := Int.emod_lt_of_pos _ (by decide)
 generalize c % 7 = d at h1 h2
 have h3 : d = 0 ∨ d = 1 ∨ d = 2 ∨ d = 3 ∨ d = 4 ∨ d = 5 ∨ d = 6 := by omega
 rcases h3 with rfl | rfl | rfl | rfl | rfl | rfl | rfl
 ·exact ⟨_, cj (j := 0) rfl, by decide⟩
 ·exact ⟨_, cj (j := 1) rfl, by decide⟩
 ·exact ⟨_, cj (j := 2) rfl, by decide⟩
 ·exact ⟨_, cj (j := 3) rfl, by decide⟩
 ·exact ⟨_, cj (j := 4) rfl, by decide⟩
 ·exact ⟨_, cj (j := 5) rfl, by decide⟩
 ·exact ⟨_, cj (j := 6) rfl, by decide⟩
theorem Io {a b : V} {P : V → V → Prop} : (∃ v w, (a = v ∧ b = w) ∧ P v w) = P a b := propext ⟨fun ⟨_, _, ⟨h1, h2⟩, h⟩ => h1 ▸ h2 ▸ h, fun h => ⟨a, b, ⟨rfl, rfl⟩, h⟩⟩
inductive It1 where
 | one (a : Int)
 | rng (a b : Int)
 | bits (m v : Nat)
def itV : It1 → List V
 | .one a => [.str "is", .int a]
 | .rng a b => [.str "from", .int a, .int b]
 | .bits m v => [.str "bits", .int m, .int v]
theorem HS (a : Int) : itV (.one a) = [.str "is", .int a] := rfl
theorem HN (a b : Int) : itV (.rng a b) = [.str "from", .int a, .int b] := rfl
theorem Dm (m v : Nat) : itV (.bits m v) = [.str "bits", .int m, .int v] := rfl
section
variable {mp : List (Option Nat)} {g : TG} {tc : TT} {te : TE} {σ : St} {H : Hp} {Q : VK} {R : It → Hp → Prop} {K : PySem.W.Frag}
theorem Mh {lo : Int} {n : Nat} (hR : R = sZ mp g tc te σ Q) (hz : n ≤ sizeLine) (Pv : Nat → List V → St → Hp → Prop) (h0 : Pv 0 [] (gj mp σ) H) (hl : ∀ i acc τ H, Pv i acc τ H → acc.length ≤ i)
  (hs : ∀ i acc τ H, i < n → Pv i acc τ H → g (.int (lo + i)) τ H fun τ1 H4 => tc τ1 H4 fun b H5 => if b = true then te τ1 H5 fun v H6 => Pv (i + 1) (acc ++ [v]) τ1 H6 else Pv (i + 1) acc τ1 H5)
  (hd : ∀ acc τ H d, Pv n acc τ H → H d = none → Q (.ref d) (upd H d (.lst acc))) : R (Itr lo n) H := by
 refine iV hR n hz Pv h0 hl (fun i acc τ H hi _ => hi) (fun acc τ H _ => Nat.le_refl n) (fun i acc τ H x H3 hi p y => ?_) hd
 obtain ⟨rfl, rfl⟩ := y
 exact hs i acc τ _ hi p
theorem sE {a : Addr} {xs : List V} (hR : R = sZ mp g tc te σ Q) (hz : xs.length ≤ sizeLine) (Pv : Nat → List V → St → Hp → Prop) (h0 : Pv 0 [] (gj mp σ) H) (hl : ∀ i acc τ H, Pv i acc τ H → acc.length ≤ i)
  (hq : ∀ i acc τ H, Pv i acc τ H → SqL K H a xs)
  (hs : ∀ i x acc τ H, xs[i]? = some x → Pv i acc τ H → g x τ H fun τ1 H4 => tc τ1 H4 fun b H5 => if b = true then te τ1 H5 fun v H6 => Pv (i + 1) (acc ++ [v]) τ1 H6 else Pv (i + 1) acc τ1 H5)
  (hd : ∀ acc τ H d, Pv xs.length acc τ H → H d = none → Q (.ref d) (upd H d (.lst acc))) : R (Itl K a) H := by
 refine iV hR xs.length hz Pv h0 hl (fun i acc τ H hi p => ⟨xs, xs[i], hq i acc τ H p, List.getElem?_eq_getElem hi⟩) (fun acc τ H p => ⟨xs, hq _ acc τ H p, Nat.le_refl _⟩) (fun i acc τ H x H3 hi p y => ?_) hd
 obtain ⟨rfl, hx⟩ := y
 exact hs i x acc τ _ (hx xs (hq i acc τ _ p)) p
end
section
variable {X : Cx} {pos : Pos}
def Mx (i j k : Nat) (ta : TA) : TS := fun D σ H => ta σ H fun vs H1 => ∃ u v w, vs = [u, v, w] ∧ D.nx (((σ.set i (some u)).set j (some v)).set k (some w)) H1
end
theorem Ij (g : TG) (gs : TGs) (x : V) (xs : List V) (σ : St) (H : Hp) (Q : St → Hp → Prop) : Dy g gs (x :: xs) σ H Q = g x σ H fun σ1 H1 => gs xs σ1 H1 Q :=
 propext ⟨fun ⟨_, _, e, h⟩ => by cases e; exact h, fun h => ⟨x, xs, rfl, h⟩⟩
theorem LC (σ : St) (H : Hp) (Q : St → Hp → Prop) : LK [] σ H Q = Q σ H := propext ⟨fun h => h.2, fun h => ⟨rfl, h⟩⟩
theorem DK {a b : Int} {P : Int → Int → Prop} : (∃ v w, (a = v ∧ b = w) ∧ P v w) = P a b := propext ⟨fun ⟨_, _, ⟨h1, h2⟩, h⟩ => h1 ▸ h2 ▸ h, fun h => ⟨a, b, ⟨rfl, rfl⟩, h⟩⟩
theorem Im {a b c : V} {P : V → V → V → Prop} : (∃ u v w, (a = u ∧ b = v ∧ c = w) ∧ P u v w) = P a b c := propext ⟨fun ⟨_, _, _, ⟨h1, h2, h3⟩, h⟩ => h1 ▸ h2 ▸ h3 ▸ h, fun h => ⟨a, b, c, ⟨rfl, rfl, rfl⟩, h⟩⟩
theorem uW : ((("from" : Str) : Str) = ("is" : Str)) = False := eq_false (by decide +kernel)
theorem uX : (("bits" : Str) = ("is" : Str)) = False := eq_false (by decide +kernel)
theorem qL : (("bits" : Str) = ("from" : Str)) = False := eq_false (by decide +kernel)
theorem uU : (("is" : Str) = ("from" : Str)) = False := eq_false (by decide +kernel)
theorem uV : (("is" : Str) = ("bits" : Str)) = False := eq_false (by decide +kernel)
theorem qK : (("from" : Str) = ("bits" : Str)) = False := eq_false (by decide +kernel)
theorem rA {p : Addr} {H H' : Hp} (h : bM p H H') (e : H p = none) : Same H H' := fun b o hb => h b o (aF hb e) hb
section
variable {X : Cx} {e o : Expr} {te to : TE} {pos : Pos}
def apq (ob : Option HO) (l : Addr) (y : V) (H : Hp) (Q : VK) : Prop := match ob with
 | some (.lst xs) => xs.length < sizeLine ∧ Q .non (upd H l (.lst (xs ++ [y])))
 | _ => False
def isq (ob : Option HO) : Prop := match ob with
 | some (.lst _) => True
 | _ => False
theorem HX (xs : List V) : isq (some (.lst xs)) = True := rfl
theorem sW (xs : List V) (l : Addr) (y : V) (H : Hp) (Q : VK) : apq (some (.lst xs)) l y H Q = (xs.length < sizeLine ∧ Q .non (upd H l (.lst (xs ++ [y])))) := rfl
def Ml (x : V) (te : TE) (σ : St) (H1 : Hp) (Q : VK) : Prop := match x with
 | .ref l => isq (H1 l) ∧ te σ H1 fun y H2 => apq (H2 l) l y H2 Q
 | _ => False
def Al (to te : TE) : TE := fun σ H Q => to σ H fun x H1 => Ml x te σ H1 Q
theorem Ak (to te : TE) (σ : St) (H : Hp) (Q : VK) : Al to te σ H Q = to σ H fun x H1 => Ml x te σ H1 Q := rfl
theorem Eg (l : Addr) (te : TE) (σ : St) (H1 : Hp) (Q : VK) : Ml (.ref l) te σ H1 Q = (isq (H1 l) ∧ te σ H1 fun y H2 => apq (H2 l) l y H2 Q) := rfl
theorem G3 {apos cpos : Pos} (ho : PE X o to) (he : PE X e te)
  (hbase : attributeBase o "append" X.env (eval o X.env) = eval o X.env := by rfl)
  (hfew : ((backTo cpos (starEach [e] X.env)).all (fun x => !x.1) && (backToKw cpos (keywordEach [] X.env)).all (fun x => x.1.isSome)
   && decide ([e].length + ([] : List Keyword).length + (if ([] : List Keyword).isEmpty then 0 else 1) < 30)) = true := by rfl)
  (hline : (apos.endLine == cpos.line) = true := by rfl) (hs : starEach [e] X.env = (false, eval e X.env) :: starEach [] X.env := by rfl) (hplain : (backTo cpos (starEach [] X.env)).any (·.1) = false := by rfl) :
  PE X (.Call (.Attribute o "append" apos) [e] [] cpos) (Al to te) := by
 intro pins s σ H Q I h
 refine wpAny_Call_method_late hbase hfew hline rfl (thE (ho pins s σ H _ I h) fun v s1 x H1 I1 r1 q => ?_)
 cases x with
 | ref l =>
  obtain ⟨q1, q2⟩ := q
  cases el : H1 l with
  | none => rw [el] at q1; exact q1.elim
  | some ob =>
   cases ob with
   | lst xs =>
    obtain ⟨h1, h2⟩ := zW (T := "list") I1 r1 (.inl ⟨rfl, xs, SqL.of el⟩)
    refine ⟨"list", "list.append", PySem.F.plainAttrs_list, PySem.F.slot_list_append, PySem.F.type_list_append, h1, h2, ?_⟩
    rw [hs]
    refine Calls.callWith_builtin (by show (false || (backTo cpos (starEach [] X.env)).any (·.1)) = false; rw [hplain] <;> rfl) (Calls.evalArgs_plain ?_)
    refine Calls.spliced_cons (thE (he pins s1 σ H1 _ I1 q2) fun u s2 y H2 I2 r2 q3 => Calls.spliced_nil ?_)
    replace q3 : apq (H2 l) l y H2 Q := q3
    cases el2 : H2 l with
    | none => rw [el2] at q3; exact q3.elim
    | some ob2 =>
     cases ob2 with
     | lst ys =>
      rw [el2] at q3
      exact zb pins s2 σ H2 (.ref l) [y] v [u] Q I2 r1 (.cons r2 .nil) ⟨l, ys, y, rfl, rfl, el2, q3.1, q3.2⟩
     | _ => rw [el2] at q3; exact q3.elim
   | _ => rw [el] at q1; exact q1.elim
 | _ => exact q.elim
theorem fV {apos cpos : Pos} (ho : QE X o to) (he : QE X e te)
  (hbase : attributeBase o "append" X.env (eval o X.env) = eval o X.env := by rfl)
  (hfew : ((backTo cpos (starEach [e] X.env)).all (fun x => !x.1) && (backToKw cpos (keywordEach [] X.env)).all (fun x => x.1.isSome)
   && decide ([e].length + ([] : List Keyword).length + (if ([] : List Keyword).isEmpty then 0 else 1) < 30)) = true := by rfl)
  (hline : (apos.endLine == cpos.line) = true := by rfl) (hs : starEach [e] X.env = (false, eval e X.env) :: starEach [] X.env := by rfl) (hplain : (backTo cpos (starEach [] X.env)).any (·.1) = false := by rfl) :
  QE X (.Call (.Attribute o "append" apos) [e] [] cpos) (Al to te) := ⟨G3 ho.h he.h hbase hfew hline hs hplain⟩
def slq (ob : Option HO) (lo hi : Option Int) (H : Hp) (Q : VK) : Prop := match ob with
 | some (.lst xs) => ∀ p, H p = none → Q (.ref p) (upd H p (.lst (jc xs lo hi)))
 | some (.tup xs) => ¬ (HT.sIx xs.length 0 lo = 0 ∧ HT.sIx xs.length xs.length hi = xs.length) ∧ ∀ p, H p = none → Q (.ref p) (upd H p (.tup (jc xs lo hi)))
 | _ => False
def JX : V → Option Int → Option Int → Hp → VK → Prop := fun x lo hi H Q => match x with
 | .ref p => slq (H p) lo hi H Q
 | _ => False
theorem Bm (p : Addr) (lo hi : Option Int) (H : Hp) (Q : VK) : JX (.ref p) lo hi H Q = slq (H p) lo hi H Q := rfl
theorem Ez (xs : List V) (lo hi : Option Int) (H : Hp) (Q : VK) : slq (some (.lst xs)) lo hi H Q = ∀ p, H p = none → Q (.ref p) (upd H p (.lst (jc xs lo hi))) := rfl
theorem Ey (xs : List V) (lo hi : Option Int) (H : Hp) (Q : VK) : slq (some (.tup xs)) lo hi H Q = (¬ (HT.sIx xs.length 0 lo = 0 ∧ HT.sIx xs.length xs.length hi = xs.length) ∧ ∀ p, H p = none → Q (.ref p) (upd H p (.tup (jc xs lo hi)))) := rfl
theorem JS : SlR X JX := by
 intro pins s σ H x v vl vu lo hi sl Q I rx hs pl pu h
 unfold JX at h
 split at h
 ·rename_i p
  unfold slq at h
  split at h
  ·rename_i xs e
   exact EY pins s σ H _ v vl vu lo hi sl Q I rx hs pl pu ⟨p, xs, rfl, SqL.of e, h⟩
  ·rename_i xs e
   exact JQ pins s σ H _ v vl vu lo hi sl Q I rx hs pl pu ⟨p, xs, rfl, SqT.of e, h.1, h.2⟩
  ·exact h.elim
 ·exact h.elim
structure QO (X : Cx) (e : Option Expr) (t : TO) : Prop where
 h : PO X e t
theorem mz : QO X none qJ := ⟨GC⟩
theorem mq (h : QE X e te) : QO X (some e) (Af te) := ⟨Gz h.h⟩
theorem jJ {r : V → Option Int → Option Int → Hp → VK → Prop} {lo hi : Option Expr} {tl th : TO} {p2 : Pos} (hr : SlR X r) (he : QE X e te) (hl : QO X lo tl) (hu : QO X hi th) : QE X (.Subscript e (.Slice lo hi none p2) pos) (tSl r te tl th) := ⟨Cr hr he.h hl.h hu.h⟩
def rpq (ob : Option HO) (k : Int) (H : Hp) (Q : VK) : Prop := match ob with
 | some (.lst xs) => -(2 ^ 63) ≤ k ∧ k < 2 ^ 63 ∧ xs.length * k.toNat ≤ sizeLine ∧ ∀ p, H p = none → Q (.ref p) (upd H p (.lst (List.replicate k.toNat xs).flatten))
 | _ => False
def wM : R2 := fun x y H Q => match x, y with
 | .ref p, .int k => rpq (H p) k H Q
 | x, y => rI zT (fun i j => .int (i * j)) x y H Q
theorem Fy (p : Addr) (k : Int) (H : Hp) (Q : VK) : wM (.ref p) (.int k) H Q = rpq (H p) k H Q := rfl
theorem Fz (i j : Int) (H : Hp) (Q : VK) : wM (.int i) (.int j) H Q = rI zT (fun i j => .int (i * j)) (.int i) (.int j) H Q := rfl
theorem Fp (xs : List V) (k : Int) (H : Hp) (Q : VK) : rpq (some (.lst xs)) k H Q = (-(2 ^ 63) ≤ k ∧ k < 2 ^ 63 ∧ xs.length * k.toNat ≤ sizeLine ∧ ∀ p, H p = none → Q (.ref p) (upd H p (.lst (List.replicate k.toNat xs).flatten))) := rfl
theorem eZ : OpR X (binaryOp .Mult) wM := by
 intro pins s σ H x y v u Q I rx ry h
 unfold wM at h
 split at h
 ·rename_i p k
  unfold rpq at h
  split at h
  ·rename_i xs e
   exact KR pins s σ H _ _ v u Q I rx ry ⟨p, k, xs, rfl, rfl, e, h.1, h.2.1, h.2.2.1, h.2.2.2⟩
  ·exact h.elim
 ·exact KY pins s σ H _ _ v u Q I rx ry h
def eqo (ob : Option HO) (H : Hp) (Q : VK) : Prop := match ob with
 | some (.lst _) => Q (.bl false) H
 | some (.tup _) => Q (.bl false) H
 | _ => False
def nq : R2 := fun x y H Q => match x, y with
 | .ref p, .str _ => eqo (H p) H Q
 | x, y => rEq x y H Q
theorem FW (p : Addr) (z : Str) (H : Hp) (Q : VK) : nq (.ref p) (.str z) H Q = eqo (H p) H Q := rfl
theorem Gd (i j : Int) (H : Hp) (Q : VK) : nq (.int i) (.int j) H Q = rEq (.int i) (.int j) H Q := rfl
theorem Gf (i j : Bool) (H : Hp) (Q : VK) : nq (.bl i) (.bl j) H Q = rEq (.bl i) (.bl j) H Q := rfl
theorem FT (i j : Str) (H : Hp) (Q : VK) : nq (.str i) (.str j) H Q = rEq (.str i) (.str j) H Q := rfl
theorem Gb (i : Int) (j : Str) (H : Hp) (Q : VK) : nq (.int i) (.str j) H Q = rEq (.int i) (.str j) H Q := rfl
theorem Ge (i : Bool) (j : Str) (H : Hp) (Q : VK) : nq (.bl i) (.str j) H Q = rEq (.bl i) (.str j) H Q := rfl
theorem FZ (j : Str) (H : Hp) (Q : VK) : nq .non (.str j) H Q = rEq .non (.str j) H Q := rfl
theorem Ga (H : Hp) (Q : VK) : nq .non .non H Q = rEq .non .non H Q := rfl
theorem Ir (xs : List V) (H : Hp) (Q : VK) : eqo (some (.lst xs)) H Q = Q (.bl false) H := rfl
theorem Ip (xs : List V) (H : Hp) (Q : VK) : eqo (some (.tup xs)) H Q = Q (.bl false) H := rfl
theorem Fd (j : Str) : lO .non (.str j) = true := rfl
theorem Fj (i : Bool) (j : Str) : lO (.bl i) (.str j) = true := rfl
theorem cL (hu : X.A.units < cLine) : OpR X (compareOp .Eq) nq := by
 intro pins s σ H x y v u Q I rx ry h
 unfold nq at h
 split at h
 ·rename_i p z
  cases rx
  obtain ⟨t, rfl⟩ := ry
  unfold eqo at h
  split at h
  ·rename_i xs e
   obtain ⟨its, r, pl, hz⟩ := I.list (SqL.of e)
   exact SeqAt.RcAt.list_str z t pl.isList hu X.prog X.w X.xe (EP X pins σ Q) ⟨.bl false, H, I, rfl, h⟩
  ·rename_i xs e
   obtain ⟨its, r, pl, hz⟩ := I.tuple (SqT.of e)
   exact SeqAt.RcAt.tuple_str z t pl hu X.prog X.w X.xe (EP X pins σ Q) ⟨.bl false, H, I, rfl, h⟩
  ·exact h.elim
 ·exact Nv pins s σ H _ _ v u Q I rx ry h
theorem rH {x : Str} {v : V} {u : Value} (hg : Gl X x) (hm : X.mg x = some u) (r : RelV v u) (b : Bn x) : QE X (.Name x pos) (tC v) := ⟨GP hg hm r b.hd⟩
end
section
variable {X : Cx} {a b c d : Expr} {ta tb tc td : TE} {pos : Pos}
def Et (r r' r'' : R2) (ta tb tc td : TE) : TE := fun σ H Q => ta σ H fun x H1 => tb σ H1 fun y H2 => r x y H2 fun z H3 => ∃ k, z = .bl k ∧
 (if k = true then tc σ H3 fun w H4 => r' y w H4 fun z' H5 => ∃ k', z' = .bl k' ∧ (if k' = true then td σ H5 fun w' H6 => r'' w w' H6 Q else Q (.bl false) H5) else Q (.bl false) H3)
end
mutual
inductive aK (ok : Addr → Prop) (H : Hp) : V → PyData → Prop
 | non : aK ok H .non .none
 | bl (b : Bool) : aK ok H (.bl b) (.bool b)
 | int (i : Int) : aK ok H (.int i) (.int i)
 | str (x : Str) : aK ok H (.str x) (.str x)
 | lst {p : Addr} {xs : List V} {ds : List PyData} : ok p → H p = some (.lst xs) → xs.length ≤ 9000 → aG ok H xs ds → aK ok H (.ref p) (.list ds)
 | tup {p : Addr} {xs : List V} {ds : List PyData} : ok p → H p = some (.tup xs) → xs.length ≤ 9000 → aG ok H xs ds → aK ok H (.ref p) (.tuple ds)
inductive aG (ok : Addr → Prop) (H : Hp) : List V → List PyData → Prop
 | nil : aG ok H [] []
 | cons {x : V} {d : PyData} {xs : List V} {ds : List PyData} : aK ok H x d → aG ok H xs ds → aG ok H (x :: xs) (d :: ds)
end
mutual
theorem aK.keep {ok ok' : Addr → Prop} {H H' : Hp} (k : ∀ a o, ok a → H a = some o → ok' a ∧ H' a = some o) : ∀ {v : V} {d : PyData}, aK ok H v d → aK ok' H' v d
 | _, _, .non => .non
 | _, _, .bl b => .bl b
 | _, _, .int i => .int i
 | _, _, .str x => .str x
 | _, _, .lst o e z t => .lst (k _ _ o e).1 (k _ _ o e).2 z (aG.keep k t)
 | _, _, .tup o e z t => .tup (k _ _ o e).1 (k _ _ o e).2 z (aG.keep k t)
theorem aG.keep {ok ok' : Addr → Prop} {H H' : Hp} (k : ∀ a o, ok a → H a = some o → ok' a ∧ H' a = some o) : ∀ {vs : List V} {ds : List PyData}, aG ok H vs ds → aG ok' H' vs ds
 | _, _, .nil => .nil
 | _, _, .cons t r => .cons (aK.keep k t) (aG.keep k r)
end
theorem aK.same {ok : Addr → Prop} {H H' : Hp} {v : V} {d : PyData} (t : aK ok H v d) (s : Same H H') : aK ok H' v d := t.keep fun a o h e => ⟨h, s a o e⟩
theorem aG.same {ok : Addr → Prop} {H H' : Hp} {v : List V} {d : List PyData} (t : aG ok H v d) (s : Same H H') : aG ok H' v d := t.keep fun a o h e => ⟨h, s a o e⟩
theorem aK.Bg {p : Addr} {H H' : Hp} {v : V} {d : PyData} (t : aK (· ≠ p) H v d) (s : bM p H H') : aK (· ≠ p) H' v d := t.keep fun a o h e => ⟨h, s a o h e⟩
theorem aG.Bg {p : Addr} {H H' : Hp} {v : List V} {d : List PyData} (t : aG (· ≠ p) H v d) (s : bM p H H') : aG (· ≠ p) H' v d := t.keep fun a o h e => ⟨h, s a o h e⟩
theorem aG.length {ok : Addr → Prop} {H : Hp} : ∀ {vs : List V} {ds : List PyData}, aG ok H vs ds → vs.length = ds.length
 | _, _, .nil => rfl
 | _, _, .cons _ r => by rw [List.length_cons, List.length_cons, r.length]
theorem aG.append {ok : Addr → Prop} {H : Hp} : ∀ {vs ws : List V} {ds es : List PyData}, aG ok H vs ds → aG ok H ws es → aG ok H (vs ++ ws) (ds ++ es)
 | _, _, _, _, .nil, t => t
 | _, _, _, _, .cons h r, t => .cons h (r.append t)
theorem aG.get {ok : Addr → Prop} {H : Hp} : ∀ {vs : List V} {ds : List PyData} {i : Nat} {v : V}, aG ok H vs ds → vs[i]? = some v → ∃ d, ds[i]? = some d ∧ aK ok H v d
 | _, _, 0, _, .cons h _, e => by cases e; exact ⟨_, rfl, h⟩
 | _, _, i + 1, _, .cons _ r, e => aG.get r (i := i) e
section
variable {X : Cx} {pins : List (Addr × Obj)} {σ : St} {H : Hp} {s : Shared} {ok : Addr → Prop}
mutual
theorem aK.reads (I : Inv X pins σ H s) : ∀ {v : V} {d : PyData} {u : Value}, aK ok H v d → RelV v u → ∃ as, Reads s.heap u d as
 | _, _, _, .non, r => by cases r; exact ⟨_, .none⟩
 | _, _, _, .bl b, r => by cases r; exact ⟨_, .bool b⟩
 | _, _, _, .int i, r => by obtain ⟨t, rfl⟩ := r; exact ⟨_, .int i t⟩
 | _, _, _, .str x, r => by obtain ⟨t, rfl⟩ := r; exact ⟨_, .str x t⟩
 | _, _, _, .lst o e z t, r => by
  cases r
  obtain ⟨its, rv, pl, hz⟩ := I.list (SqL.of e)
  obtain ⟨ob, h1, h2, n, h3⟩ := pl.isList
  obtain ⟨as, h4⟩ := aG.reads I t rv
  exact ⟨_, .list h1 h2 h3 (by simpa using h4)⟩
 | _, _, _, .tup o e z t, r => by
  cases r
  obtain ⟨its, rv, pl, hz⟩ := I.tuple (SqT.of e)
  obtain ⟨ob, h1, h2, n, h3⟩ := pl
  obtain ⟨as, h4⟩ := aG.reads I t rv
  exact ⟨_, .tuple h1 h2 h3 (by simpa using h4)⟩
theorem aG.reads (I : Inv X pins σ H s) : ∀ {vs : List V} {ds : List PyData} {us : List Value}, aG ok H vs ds → Vals vs us → ∃ as, ReadsAll s.heap us ds as
 | _, _, _, .nil, r => by cases r; exact ⟨_, .nil⟩
 | _, _, _, .cons h t, r => by
  cases r with
  | cons r1 r2 =>
   obtain ⟨as, h1⟩ := aK.reads I h r1
   obtain ⟨bs, h2⟩ := aG.reads I t r2
   exact ⟨_, .cons h1 h2⟩
end
end
mutual
def nodes : PyData → Nat
 | .list ds => 1 + nJ ds
 | .tuple ds => 1 + nJ ds
 | _ => 1
def nJ : List PyData → Nat
 | [] => 0
 | d :: ds => nodes d + nJ ds
end
mutual
def smD : PyData → Bool
 | .none => true
 | .bool _ => true
 | .int i => decide (i.natAbs < 2 ^ 50 ∨ i.natAbs = 10 ^ 20 ∨ i.natAbs < 2 ^ 55)
 | .str x => decide ((reprText x).length ≤ 50)
 | .list ds => Ay ds
 | .tuple ds => Ay ds
 | .dict _ => false
def Ay : List PyData → Bool
 | [] => true
 | d :: ds => smD d && Ay ds
end
structure Tell (d : PyData) : Prop where
 sm : smD d = true
 nd : nodes d ≤ 200000
 dp : d.depth ≤ 100
section
variable {X : Cx} {tg l : Expr} {tl : TE}
def itq (K : PySem.W.Frag) (ob : Option HO) (a : Addr) (H : Hp) (R : It → Hp → Prop) : Prop := match ob with
 | some (.lst _) => R (Itl K a) H
 | some (.tup _) => R (Itt K a) H
 | _ => False
def itK (K : PySem.W.Frag) (x : V) (H : Hp) (R : It → Hp → Prop) : Prop := match x with
 | .ref a => itq K (H a) a H R
 | _ => False
def Dt (K : PySem.W.Frag) (tl : TE) : TI := fun σ H R => tl σ H fun x H1 => itK K x H1 R
theorem Ds (K : PySem.W.Frag) (tl : TE) (σ : St) (H : Hp) (R : It → Hp → Prop) : Dt K tl σ H R = tl σ H fun x H1 => itK K x H1 R := rfl
theorem HW (K : PySem.W.Frag) (a : Addr) (H : Hp) (R : It → Hp → Prop) : itK K (.ref a) H R = itq K (H a) a H R := rfl
theorem HJ (K : PySem.W.Frag) (xs : List V) (a : Addr) (H : Hp) (R : It → Hp → Prop) : itq K (some (.lst xs)) a H R = R (Itl K a) H := rfl
theorem HF (K : PySem.W.Frag) (xs : List V) (a : Addr) (H : Hp) (R : It → Hp → Prop) : itq K (some (.tup xs)) a H R = R (Itt K a) H := rfl
theorem GF (hl : PE X l tl) : PI X tg l (Dt X.K tl) := by
 intro pins s σ H R I h
 refine thn (hl pins s σ H _ I h) fun v s1 ⟨x, H1, I1, r1, q1⟩ => ?_
 cases x with
 | ref a =>
  replace q1 : itq X.K (H1 a) a H1 R := q1
  cases r1
  unfold itq at q1
  split at q1
  ·rename_i xs e
   obtain ⟨its, rv, p, hz⟩ := I1.list (SqL.of e)
   refine wpAny_pyIter_list p.isList ?_
   refine ⟨s1.heap.objs.size, [s1.heap.objs.size], _, _, H1, rfl, I1.kept (t' := s1.toks) fun b o e => Heap.get?_push_of_some _ e, yd a _, ⟨_, Heap.get?_push_size _ rfl, rfl, rfl⟩, fun b hb => ?_, q1⟩
   have e : b = s1.heap.objs.size := by simpa using hb
   subst e
   exact I1.vU (Nat.le_refl _) (I1.hok.fresh (Nat.le_refl _))
  ·rename_i xs e
   obtain ⟨its, rv, p, hz⟩ := I1.tuple (SqT.of e)
   refine wpAny_pyIter_tuple (show s1.heap.IsTuple a its.toArray from p) ?_
   refine ⟨s1.heap.objs.size, [s1.heap.objs.size], _, _, H1, rfl, I1.kept (t' := s1.toks) fun b o e => Heap.get?_push_of_some _ e, uP a _, ⟨_, Heap.get?_push_size _ rfl, rfl, rfl⟩, fun b hb => ?_, q1⟩
   have e : b = s1.heap.objs.size := by simpa using hb
   subst e
   exact I1.vU (Nat.le_refl _) (I1.hok.fresh (Nat.le_refl _))
  ·exact q1.elim
 | _ => exact q1.elim
theorem fU (hl : QE X l tl) : QI X tg l (Dt X.K tl) := ⟨GF hl.h⟩
end
section
variable {mp : List (Option Nat)} {g : TG} {tc : TT} {te : TE} {σ : St} {H : Hp} {Q : VK} {R : It → Hp → Prop} {K : PySem.W.Frag}
theorem vW {a : Addr} {xs : List V} (hR : R = sZ mp g tc te σ Q) (hz : xs.length ≤ sizeLine) (Pv : Nat → List V → St → Hp → Prop) (h0 : Pv 0 [] (gj mp σ) H) (hl : ∀ i acc τ H, Pv i acc τ H → acc.length ≤ i)
  (hq : ∀ i acc τ H, Pv i acc τ H → SqT K H a xs)
  (hs : ∀ i x acc τ H, xs[i]? = some x → Pv i acc τ H → g x τ H fun τ1 H4 => tc τ1 H4 fun b H5 => if b = true then te τ1 H5 fun v H6 => Pv (i + 1) (acc ++ [v]) τ1 H6 else Pv (i + 1) acc τ1 H5)
  (hd : ∀ acc τ H d, Pv xs.length acc τ H → H d = none → Q (.ref d) (upd H d (.lst acc))) : R (Itt K a) H := by
 refine iV hR xs.length hz Pv h0 hl (fun i acc τ H hi p => ⟨xs, xs[i], hq i acc τ H p, List.getElem?_eq_getElem hi⟩) (fun acc τ H p => ⟨xs, hq _ acc τ H p, Nat.le_refl _⟩) (fun i acc τ H x H3 hi p y => ?_) hd
 obtain ⟨rfl, hx⟩ := y
 exact hs i x acc τ _ (hx xs (hq i acc τ _ p)) p
def BoolsTo (H0 : Hp) (f : V → Bool) (xs : List V) (i : Nat) (acc : List V) (H' : Hp) : Prop := Same H0 H' ∧ acc = ((xs.take i).map f).map V.bl
end
def Jk (ok : Addr → Prop) (H0 : Hp) : Prop := ∀ H p, Same H0 H → H p = none → ok p
theorem CT {H0 : Hp} {p : Addr} {o : HO} (h : H0 p = some o) : Jk (· ≠ p) H0 := fun H q s hq => (aF (s _ _ h) hq).symm
section
variable {ok : Addr → Prop} {σ : St} {H0 : Hp} {ta tb : TE} {tr : TA} {d e : PyData} {ds es : List PyData}
end
def rd0 := And.intro @Es.eq_1 (And.intro @JG.eq_1 (And.intro @tH.eq_1 (And.intro @tOp.eq_1 (And.intro @rI.eq_1 (And.intro @rI0.eq_1 (And.intro @rU.eq_1 (And.intro @tUn.eq_1 (And.intro @Ad.eq_1 (And.intro @tC.eq_1 (And.intro @Jy.eq_1 (And.intro @Mv.eq_1 (And.intro @Ah.eq_1 (And.intro @tK.eq_1 (And.intro @Aj.eq_1 (And.intro @JC.eq_1 (And.intro @tCB.eq_1 (And.intro @tIf.eq_1 (And.intro @JB.eq_1 (And.intro @tB.eq_1 (And.intro @JL.eq_1 (And.intro @tOr.eq_1 (And.intro @Am.eq_1 (And.intro @Ob.eq_1 (And.intro @Ag.eq_1 (And.intro @JD.eq_1 (And.intro @Jv.eq_1 (And.intro @tL.eq_1 (And.intro @jj.eq_1 (And.intro @Lz.eq_1 (And.intro @zu (And.intro @Ii (And.intro @ud (And.intro @Bp (And.intro @Br (And.intro @Gk (And.intro @Ep.eq_1 (And.intro @Ij (And.intro @LC (@Jf.eq_1)))))))))))))))))))))))))))))))))))))))
def rd1 := And.intro @Bw (And.intro @yH (And.intro @yJ (And.intro @FN (And.intro @FP (And.intro @Hx (And.intro @Hw (And.intro @Eu (And.intro @Ht (And.intro @Hs (And.intro Dl.1 (And.intro Dl.2.1 (And.intro Dl.2.2 (And.intro @Oa (And.intro @N8 (And.intro @N7 (And.intro @aB (And.intro @BK (And.intro @Bx (And.intro @Ly (And.intro @Hu (And.intro @Di (And.intro @Lp (And.intro @Ln (And.intro @kc_bool (And.intro @ty_int (And.intro @Mu (And.intro @ty_str (And.intro @Js (And.intro @Jr (And.intro @El (And.intro @Ek (And.intro @kY (And.intro @lR (And.intro @lQ (And.intro @kW (And.intro @jF (And.intro @rz (And.intro @t6 (@tZ)))))))))))))))))))))))))))))))))))))))
def rd2 := And.intro @rm (And.intro @oX (And.intro @tY (And.intro @vm (And.intro @vh (And.intro @tX (And.intro @qZ (And.intro @tU (And.intro @vg (And.intro @vf (And.intro @tR (And.intro @qW (And.intro @qY (And.intro @tW (And.intro @tV (And.intro @qX (And.intro @oW (And.intro @oV (And.intro @qU (And.intro @qT (And.intro @oU (And.intro @mZ (And.intro @Bool.or_false (And.intro @Bool.false_or (And.intro @Bool.or_self (And.intro @Bool.true_or (And.intro @Bool.or_true (And.intro @Bool.not_true (And.intro @Bool.not_false (And.intro @Bool.false_eq_true (And.intro @if_true.{0} (And.intro @if_true.{1} (And.intro @if_false.{0} (And.intro @if_false.{1} (And.intro @decide_true (And.intro @decide_false (And.intro @Ai.eq_1 (And.intro @rEq.eq_1 (And.intro @rNe.eq_1 (@Gj)))))))))))))))))))))))))))))))))))))))
def rd3 := And.intro @Gi (And.intro @wg (And.intro @J2 (And.intro @J3 (And.intro @J4 (And.intro @J1 (And.intro @Ho (And.intro @J8 (And.intro @NZ (And.intro @NT (And.intro @yF (And.intro @Ew (And.intro @Mz.eq_1 (And.intro @Ed (And.intro @Ec (And.intro @Jz.eq_1 (And.intro @mJ.eq_1 (And.intro @Bc (And.intro @Fl (And.intro @Ba (And.intro @Bb (And.intro @Fi (And.intro @Fe (And.intro @Fg (And.intro @Fb (And.intro @zT.eq_1 (And.intro @Ms.eq_1 (And.intro @Jl.eq_1 (And.intro @L2.start.eq_1 (And.intro @List.map_cons.{0,0} (And.intro @List.map_nil.{0,0} (And.intro @List.length_cons.{0} (And.intro @List.length_nil.{0} (And.intro @List.cons_append.{0} (And.intro @List.nil_append.{0} (And.intro @List.replicate_succ.{0} (And.intro @List.replicate_zero.{0} (And.intro @List.append_nil.{0} (And.intro @List.getElem?_cons_zero.{0} (@List.getElem?_cons_succ.{0})))))))))))))))))))))))))))))))))))))))
def rd4 := And.intro @List.set_cons_zero.{0} (And.intro @List.set_cons_succ.{0} (And.intro @Nat.sub_self (And.intro @Option.some.injEq.{0} (And.intro @exists_eq_left'.{1} (And.intro @exists_eq_left.{1} (And.intro @Io (And.intro @DK (And.intro @Im (And.intro @Mx.eq_1 (And.intro @V.int.injEq (And.intro @V.str.injEq (And.intro @uW (And.intro @uX (And.intro @qL (And.intro @uU (And.intro @uV (And.intro @qK (And.intro @HS (And.intro @HN (And.intro @Dm (And.intro @V.bl.injEq (And.intro @V.ref.injEq (And.intro @List.cons.injEq.{0} (And.intro @and_true (And.intro @true_and (And.intro @exists_and_left.{1} (And.intro @exists_and_right.{1} (And.intro @decide_eq_true_eq (And.intro @Ak (And.intro @Eg (And.intro @HX (And.intro @sW (And.intro @Bm (And.intro @Ez (And.intro @Ey (And.intro @tSl.eq_1 (And.intro @qJ.eq_1 (And.intro @Af.eq_1 (@Fy)))))))))))))))))))))))))))))))))))))))
def rd5 := And.intro @Fz (And.intro @Fp (And.intro @FW (And.intro @Gd (And.intro @Gf (And.intro @FT (And.intro @Gb (And.intro @Ge (And.intro @FZ (And.intro @Ga (And.intro @Ir (And.intro @Ip (And.intro @Fd (And.intro @Fj (And.intro @Et.eq_1 (And.intro @Ds (And.intro @HW (And.intro @HJ (@HF))))))))))))))))))
def bV : PyData → Bool
 | .int _ => true
 | _ => false
def qN : Sp := fun vs H Q _ => ∃ v ok d, vs = [v] ∧ aK ok H v d ∧ Q (.bl (bV d)) H
section
variable {X : Cx} {NX N : List Str} {kX : List (Str × NameKind)} {mp : List (Option Nat)} {scope : Scope}
set_option maxHeartbeats 8000000 in
theorem Gv {tg iter elt : Expr} {ifs : List Expr} {pos pos' pos2 : Pos} {wi : TI} {g : TG} {tc : TT} {te : TE} {i : Nat} {x : Str} (N : List Str) (mp : List (Option Nat)) (hn : Nm X.N X.env.scope i x) (hNd : X.N.Nodup) (hNX : X.N = NX) (hkX : X.env.scope.names = kX) (S : qG NX kX N mp scope) (hc : X.calm = true)
  (hi : PI X tg iter wi) (hg : ∀ cl C s H fp, PG (bD X N scope cl C s H fp) tg g) (ht : ∀ cl C s H fp, PTs (bD X N scope cl C s H fp) ifs tc) (he : ∀ cl C s H fp, PE (bD X N scope cl C s H fp) elt te)
  (hf : X.fn x = true ∨ X.env.scope.names.lookup x = some .local := by exact .inl rfl)
  (hsw : swapsWithSole [.Name x pos'] (.ListComp elt [⟨tg, iter, ifs, 0⟩] scope pos) pos2.line X.env = pure true := by rfl)
  (h1 : (assignEach [.Name x pos'] X.env).map (·.2) = [assign (.Name x pos') X.env] := by rfl)
  (hs : ∀ x, foldedSetIterable iter X.env x = pure x := by intro _; rfl) : PS X (.Assign [.Name x pos'] (.ListComp elt [⟨tg, iter, ifs, 0⟩] scope pos) pos2) (tL (pN mp wi g tc te) (jj i)) := by
 intro pins s σ H Dn I h
 rw [exec_Assign_arm]
 refine wpAny_bind (wpAny_standAt ?_)
 rw [hsw]
 refine wpAny_bind (wpAny_pure ?_)
 rw [if_pos rfl, h1]
 replace h : pN mp wi g tc te σ H (fun v H1 => Dn.nx (σ.set i (some v)) H1) := h
 obtain ⟨cl, hcl, hsub, hhas⟩ := xW (env := X.env) (scope := scope) fun y hy hf => I.ok.has y.1 (by
  rcases S.fre y hy hf with q | q
  ·exact .inl (show X.env.scope.names.lookup y.1 = _ by rw [hkX]; exact q)
  ·exact .inr (show X.env.scope.names.lookup y.1 = _ by rw [hkX]; exact q))
 generalize hQ : (fun (v : V) (H1 : Hp) => Dn.nx (σ.set i (some v)) H1) = Q at h
 let QQ : Value → Shared → Prop := fun _ s' => ∃ τ H', Inv X pins τ H' s' ∧ Dn.nx τ H'
 refine wpAny_bind (wpAny_bind (thn (Q := QQ) (wpAny_comprehension_free (e := .ListComp elt [⟨tg, iter, ifs, 0⟩] scope pos) (use := some fun v => assignAll v [assign (.Name x pos') X.env]) rfl hs hcl S.kind S.locs ?_) fun _ s' ⟨τ, H', I', q'⟩ => wpAny_pure (wpAny_pure ⟨τ, H', I', q'⟩)))
 refine thn (hi pins s σ H _ I h) fun v s1 h1 => thn h1 fun itv s2 h2 => ?_
 obtain ⟨it, fp, tn, J, H2, e, I2, T, st2, f2, W, ⟨m0, w0⟩, turn⟩ := h2
 subst e
 refine wpAny_newObj_type (wpAny_newFunctionEnv S.nocell (by intro y hy; simp at hy) (fun h3 hns hsb => ?_) S.kind)
 dsimp only at hns hsb ⊢
 have hold : ∀ b ∈ fp, b < s2.heap.objs.size := fun b hb => by
  obtain ⟨o, q, _⟩ := T.obj _ _ st2 b hb
  exact Heap.lt_size q
 generalize hD : s2.heap.objs.size = D at hns hsb
 generalize hH2 : s2.heap.push { cls := .type "list", dict := none, data := .seq ([] : List Value).toArray } = P2 at hns hsb ⊢
 have hC : P2.objs.size = D + 1 := by rw [← hH2, Heap.size_push, hD]
 generalize hC' : P2.objs.size = C at hns hsb ⊢
 rw [hC'] at hC
 have old : ∀ b o, s2.heap.get? b = some o → h3.get? b = some o := fun b o q => by
  have hb := Heap.lt_size q
  exact hsb.extBut b o (na1 hb hD hC) (Heap.get?_push_of_some _ (hH2 ▸ Heap.get?_push_of_some _ q))
 have accD : h3.get? D = some { cls := .type "list", data := .seq ([] : List Value).toArray } :=
  hsb.extBut _ _ (na2 hC) (Heap.get?_push_of_some _ (by rw [← hH2, ← hD]; exact Heap.get?_push_size _ rfl))
 have hfr : D ∉ frs X.stack := fun z => by
  rcases List.mem_cons.mp (I2.mL D z) with q | q
  ·exact na0 I2.lt hD q.symm
  ·exact I2.K8 (na4 hD) q
 have I0 : Inv (bD X N scope cl C s2 H2 fp) [(D, { cls := .type "list", data := .seq ([] : List Value).toArray })] (gj mp σ) H2 { s2 with heap := h3, toks := s2.toks + ([] : List (Str × Value)).length } :=
  xV (s' := { s2 with heap := h3, toks := s2.toks + ([] : List (Str × Value)).length }) hNX hkX S I2 f2 hold (na3 hD hC) hsub hhas rfl rfl ⟨_, hns⟩ old fun p hp => by
   have ep := List.mem_singleton.mp hp
   subst ep
   exact ⟨accD, I2.hok.fresh (na4 hD), na2 hC, hfr, fun v z => by cases z⟩
 have T0 : tn 0 h3 := T.keep _ _ _ st2 fun b _ o q => old b o q
 have loop : ∀ z : Shared, z = { s2 with heap := h3, toks := s2.toks + ([] : List (Str × Value)).length } →
   codeAny (model X.prog X.w) X.A (.compLoop (.ListComp elt [⟨tg, iter, ifs, 0⟩] scope pos) 0 (.ref it) (.ref D) (compEnvC scope cl C X.env))
    (compPost (model X.prog X.w) X.A X.xe (some fun v => assignAll v [assign (.Name x pos') X.env]) QQ (.ref D) C) z := by
  rintro z rfl
  have stat : ∀ {H' : Hp} {pl : List (Addr × Obj)}, (∀ b ∈ fp, H' b = none) → (∀ p ∈ pl, p.1 = D) → ∀ b ∈ fp, kh (bD X N scope cl C s2 H2 fp) pl H' b := fun hn hp b hb => by
   have hb2 := hold b hb
   refine ⟨hn b hb, na1 hb2 hD hC, (vX hkX S I2 f2 hold (na3 hD hC) hsub hhas).exfs b hb, .inl hb, fun x c q => (f2 b hb).2.2.2.2.1 x c (hsub x c q), fun p hpp => ?_⟩
   have hpD := hp p (by simpa [bD] using hpp)
   rw [hpD]
   exact (na0 hb2 hD).symm
  refine qu (env := compEnvC scope cl C X.env) (fun n z => ∃ i acc τ H' its k, Inv (bD X N scope cl C s2 H2 fp) [(D, { cls := .type "list", data := .seq (List.toArray its) k })] τ H' z ∧ tn i z.heap ∧ (∀ b ∈ fp, H' b = none) ∧ Vals acc its ∧ acc.length ≤ sizeLine ∧ W i n acc τ H')
   ?_ m0 ⟨0, [], _, H2, [], 0, I0, T0, fun b hb => (f2 b hb).1, .nil, Nat.zero_le _, w0⟩
  rintro n s5 ⟨i, acc, τ, H5, its, k, I5, st5, fr5, va, hz, w5⟩
  rcases turn i n acc τ H5 w5 with ⟨stop, qn⟩ | ⟨go, hz2, N9, hN9, step⟩
  ·refine thn (T.done (bD X N scope cl C s2 H2 fp) rfl rfl rfl hc i _ s5 τ H5 _ I5 (stat fr5 (by simp)) st5 stop) fun r s6 ⟨hr, I6⟩ => ?_
   subst hr
   obtain ⟨m6, hn6, _⟩ := I6.loc
   obtain ⟨dD, nD, _, _, _⟩ := I6.pin (D, _) (List.mem_append_right _ (List.mem_singleton.mpr rfl))
   have U := I6.base
   have nC : H5 C = none := I6.free
   have ne : ∀ b o, s2.heap.get? b = some o → b ≠ C ∧ b ≠ D := fun b o q => by
    exact ⟨na1 (Heap.lt_size q) hD hC, na0 (Heap.lt_size q) hD⟩
   have key : ∀ h', Heap.SameBut C s6.heap h' → Inv X pins σ (upd H5 D (.lst acc)) { s6 with heap := h' } := fun h' sb => by
    have keepC : ∀ b o, b ≠ C → s6.heap.get? b = some o → h'.get? b = some o := fun b o hb q => (sb.2 b hb).trans q
    have U' : Un (frs X.stack) fp H2 (upd H5 D (.lst acc)) s2.heap h' := by
     refine ⟨fun b o q n1 hb hx => keepC b o (ne b o q).1 (U.keep b o q n1 hb hx), fun b o q n1 hb hx => ?_, fun b o q n1 hx => ?_, fun b o q hx => ?_, fun b xs q => ?_, fun b o xs q => ?_, fun b ps q => ?_⟩
     ·obtain ⟨sl, z⟩ := U.slot b o q n1 hb hx
      exact ⟨sl, keepC b _ (ne b o q).1 z⟩
     ·rw [aJ (ne b o q).2]
      exact U.free b o q n1 hx
     ·obtain ⟨o', z⟩ := U.there b o q hx
      exact ⟨o', keepC b _ (ne b o q).1 z⟩
     ·have z := U.tups b xs q
      rw [aJ (aF z nD)]
      exact z
     ·have z := U.frzs b o xs q
      rw [aJ (aF z nD)]
      exact z
     ·obtain ⟨more, z⟩ := U.tbls b ps q
      exact ⟨more, by rw [aJ (aF z nD)]; exact z⟩
    have hok : HOk X.prog X.w (upd H5 D (.lst acc)) h' := fun b u q => by
     by_cases hb : b = D
     ·subst hb
      rw [aB] at q
      cases q
      exact ⟨hz, its, k, va, keepC _ _ (na2 hC) dD⟩
     ·rw [aJ hb] at q
      refine (I6.hok b u q).stay (fun c v hcc z => keepC c v ?_ z) (fun c z => by rw [aJ (aF z nD)]; exact z) fun c xs z => by rw [aJ (aF z nD)]; exact z
      rcases hcc with z1 | z1
      ·subst z1
       exact aF q nC
      ·exact aF z1 nC
    have I7 : Inv X pins σ (upd H5 D (.lst acc)) { s6 with heap := h' } := I2.call' (s' := { s6 with heap := h' }) (ch := fp) I6.os U' hok I6.bare fun b hb => by
     obtain ⟨_, a2, _, a4, a5, a6⟩ := f2 b hb
     exact ⟨a4, a2, a5, a6⟩
    exact I7
   have I7 : Inv X pins σ (upd H5 D (.lst acc)) s6 := key s6.heap (Heap.SameBut.refl _ _)
   have lC : X.env.locals ≠ C := na1 I2.lt hD hC
   have cC : ∀ y c, X.env.cells.lookup y = some c → c ≠ C := fun y c z => by
    obtain ⟨_, o, h1, _⟩ := I2.cell y c z
    exact na1 (Heap.lt_size h1) hD hC
   show wpAny _ _ (assign (.Name x pos') X.env (.ref D)) _ _ s6
   refine wpAny_assign_Name (pQ (v := .ref D) I7 hNd hn.hN hn.hv rfl (fun s7 I8 ⟨a, sa, ha⟩ => ?_) hf)
   have aC : a ≠ C := by
    rcases ha with rfl | ha
    ·exact lC
    ·exact cC _ _ ha
   obtain ⟨o6, es6, ep6, g1, g2, g3, g4⟩ := hn6
   refine ⟨m6, ⟨o6, es6, ep6, (sa.2 C (Ne.symm aC)).trans g1, g2, g3, g4⟩, fun h' sb => ?_⟩
   have q9 := qn D nD
   rw [← hQ] at q9
   refine ⟨_, _, I8.turned (it := C) (t' := s7.toks) (fun b o hb q => (sb.2 b hb).trans q) ?_ (Ne.symm lC) (.inr (Nat.le_trans I2.sz (na3 hD hC))) cC (fun p hp => ?_), q9⟩
   ·rw [aJ (Ne.symm (na2 hC))]
    exact nC
   ·obtain ⟨h1, _⟩ := I2.pin p hp
    exact na1 (Heap.lt_size h1) hD hC
  ·refine thn (T.item (bD X N scope cl C s2 H2 fp) rfl rfl rfl hc i _ s5 τ H5 _ I5 (stat fr5 (by simp)) st5 go) fun r s6 ⟨u, hr, h6⟩ => ?_
   subst hr
   refine thn h6 fun _ s7 ⟨x, H7, I7, r7, y7, st7, fr7⟩ => ?_
   have I7' := I7.pinned (stat fr7 (by simp)) (T.obj _ _ st7)
   have no : ∀ {α : Type} {t : Sem α} {Q1 Q2 : α → Shared → Prop} {E : Value → Shared → Prop} {z : Shared}, wpAny (model X.prog X.w) X.A t Q1 (fun _ _ => False) z → (∀ a z, Q1 a z → Q2 a z) → wpAny (model X.prog X.w) X.A t Q2 E z :=
    fun q f => wpAny_mono q f fun _ _ z => z.elim
   refine no (hg cl C s2 H2 fp _ s7 τ H7 x u _ I7' r7 (step x H7 y7)) fun _ s8 ⟨τ1, H8, I8, q8⟩ => ?_
   refine no (ht cl C s2 H2 fp _ s8 τ1 H8 _ I8 q8) fun ok s9 ⟨H9, I9, q9⟩ => ?_
   have again : ∀ {H' : Hp} {z : Shared} {its' : List Value} {k' : Nat}, Inv (bD X N scope cl C s2 H2 fp) ([(D, { cls := .type "list", data := .seq (List.toArray its') k' })] ++ gb fp s7.heap) τ1 H' z →
     tn (i + 1) z.heap ∧ (∀ b ∈ fp, H' b = none) ∧ Inv (bD X N scope cl C s2 H2 fp) [(D, { cls := .type "list", data := .seq (List.toArray its') k' })] τ1 H' z := fun {H' z its' k'} Iz => by
    have get : ∀ b ∈ fp, ∀ o, s7.heap.get? b = some o → z.heap.get? b = some o ∧ H' b = none := fun b hb o q => by
     obtain ⟨a1, a2, _⟩ := Iz.pin (b, o) (List.mem_append_right _ (List.mem_append_right _ (gJ hb q)))
     exact ⟨a1, a2⟩
    refine ⟨T.keep _ _ _ st7 fun b hb o q => (get b hb o q).1, fun b hb => ?_, Iz.gU⟩
    obtain ⟨o, q, _⟩ := T.obj _ _ st7 b hb
    exact (get b hb o q).2
   cases ok with
   | false =>
    rw [if_neg Bool.false_ne_true] at q9 ⊢
    obtain ⟨m', hm, w9⟩ := hN9 _ _ _ q9
    obtain ⟨a1, a2, a3⟩ := again I9
    exact ⟨m', hm, i + 1, acc, τ1, H9, its, k, a3, a1, a2, va, hz, w9⟩
   | true =>
    rw [if_pos rfl] at q9 ⊢
    refine no (he cl C s2 H2 fp _ s9 τ1 H9 _ I9 q9) fun y s10 ⟨v, H10, I10, rv, q10⟩ => ?_
    obtain ⟨m', hm, w10⟩ := hN9 _ _ _ q10
    obtain ⟨a1, a2, a3⟩ := again I10
    obtain ⟨dD, nD, _, _, _⟩ := a3.pin (D, _) (List.mem_append_right _ (List.mem_singleton.mpr rfl))
    have hlen := va.length
    refine call_meets F.slot_list_append ⟨_, dD, rfl⟩ F.entry_list_append (F.args_list_append_2 _ _) (PySem.list_append D its.toArray k y (by rw [List.size_toArray]; omega)) ⟨dD, ?_⟩
    obtain ⟨k', q⟩ : ∃ k', (s10.heap.update D (Obj.mapSeq fun a => a.push y)).get? D = some { cls := .type "list", data := .seq (its ++ [y]).toArray k' } := by
     have q := PySem.IsL.update dD (fun a => a.push y)
     rw [show its.toArray.push y = (its ++ [y]).toArray by simp] at q
     exact ⟨_, q⟩
    have a4 : Inv (bD X N scope cl C s2 H2 fp) (gb fp s7.heap) τ1 H10 s10 := I10.iT fun p hp => I10.pin p (List.mem_append_right _ (List.mem_append_right _ hp))
    have a5 : Inv (bD X N scope cl C s2 H2 fp) (gb fp s7.heap) τ1 H10 { s10 with heap := s10.heap.update D (Obj.mapSeq fun a => a.push y), toks := s10.toks } :=
     a4.turned (it := D) (fun b o hb z => (Heap.get?_update_other _ _ (Ne.symm hb)).trans z) nD (na2 hC) (.inr (na4 hD))
      (fun x c z => by
       obtain ⟨_, o, h1, _⟩ := I2.cell x c (hsub x c z)
       exact na0 (Heap.lt_size h1) hD) fun p hp => by
       have hb := (lu (by simpa [bD] using hp)).1
       exact na0 (hold _ hb) hD
    obtain ⟨b1, b2, b3⟩ := (show tn (i + 1) (s10.heap.update D (Obj.mapSeq fun a => a.push y)) ∧ (∀ b ∈ fp, H10 b = none) ∧ True from
     ⟨T.keep _ _ _ a1 fun b hb o z => (Heap.get?_update_other _ _ (na0 (hold b hb) hD).symm).trans z, a2, trivial⟩)
    refine ⟨m', hm, i + 1, acc ++ [v], τ1, H10, its ++ [y], k', a5.iT fun p hp => ?_, b1, b2, va.append (.cons rv .nil), by rw [List.length_append, List.length_singleton]; omega, w10⟩
    have ep := List.mem_singleton.mp hp
    subst ep
    exact ⟨q, nD, na2 hC, hfr, fun v z => by cases z⟩
 have e1 : { newEnv scope C X.env.globals cl X.env.qual none .none (some X.env) X.env.builtins with scope := relabel scope X.env } = compEnvC scope cl C X.env := rfl
 exact codeAny_compStart_list (loop _ rfl) (T.self _ 0 _ _ _ T0 (loop _ rfl))
theorem Gm {tg iter elt : Expr} {ifs : List Expr} {pos pos' pos2 : Pos} {wi : TI} {g : TG} {tc : TT} {te : TE} {i : Nat} {x : Str} (N : List Str) (mp : List (Option Nat)) (hn : Nm X.N X.env.scope i x) (hNd : X.N.Nodup) (hNX : X.N = NX) (hkX : X.env.scope.names = kX) (S : qG NX kX N mp scope) (hc : X.calm = true)
  (hi : QI X tg iter wi) (hg : ∀ cl C s H fp, QG (bD X N scope cl C s H fp) tg g) (ht : ∀ cl C s H fp, QC (bD X N scope cl C s H fp) ifs tc) (he : ∀ cl C s H fp, QE (bD X N scope cl C s H fp) elt te)
  (hf : X.fn x = true ∨ X.env.scope.names.lookup x = some .local := by exact .inl rfl)
  (hsw : swapsWithSole [.Name x pos'] (.ListComp elt [⟨tg, iter, ifs, 0⟩] scope pos) pos2.line X.env = pure true := by rfl)
  (h1 : (assignEach [.Name x pos'] X.env).map (·.2) = [assign (.Name x pos') X.env] := by rfl)
  (hs : ∀ x, foldedSetIterable iter X.env x = pure x := by intro _; rfl) : QS X (.Assign [.Name x pos'] (.ListComp elt [⟨tg, iter, ifs, 0⟩] scope pos) pos2) (tL (pN mp wi g tc te) (jj i)) :=
 ⟨Gv N mp hn hNd hNX hkX S hc hi.h (fun cl C s H fp => (hg cl C s H fp).h) (fun cl C s H fp => (ht cl C s H fp).h) (fun cl C s H fp => (he cl C s H fp).h) hf hsw h1 hs⟩
end
def tD (H0 : Hp) (f : PyData → Bool) (ds : List PyData) (ok : St → Prop) (i : Nat) (acc : List V) (τ : St) (H' : Hp) : Prop := Same H0 H' ∧ ok τ ∧ acc = ((ds.take i).map f).map V.bl
section
variable {mp : List (Option Nat)} {g : TG} {te : TE} {σ : St} {H : Hp} {Q : VK} {R : It → Hp → Prop} {K : PySem.W.Frag} {a : Addr} {xs : List V} {ds : List PyData} {ok : Addr → Prop}
theorem take_snoc {α : Type} {l : List α} {i : Nat} {x : α} (h : l[i]? = some x) : l.take (i + 1) = l.take i ++ [x] := by
 rw [List.take_add_one, h]
 rfl
theorem vZ {f : PyData → Bool} {d : PyData} {i : Nat} (h : ds[i]? = some d) : ((ds.take (i + 1)).map f).map V.bl = ((ds.take i).map f).map V.bl ++ [V.bl (f d)] := by
 rw [take_snoc h, List.map_append, List.map_append]
 rfl
theorem zL (f : PyData → Bool) (ds : List PyData) (i : Nat) : (((ds.take i).map f).map V.bl).length ≤ i := by
 simp only [List.length_map, List.length_take]
 omega
theorem j7 (f : PyData → Bool) (okT : St → Prop) (hR : R = sZ mp g Ep te σ Q) (tr : aG ok H xs ds) (e : H a = some (.tup xs)) (hz : xs.length ≤ 9000) (h0 : okT (gj mp σ))
  (hs : ∀ x d τ H1 (Qn : V → St → Hp → Prop), d ∈ ds → Same H H1 → aK ok H1 x d → okT τ → (∀ τ1 H6, okT τ1 → Same H1 H6 → Qn (.bl (f d)) τ1 H6) → g x τ H1 fun τ1 H4 => te τ1 H4 fun v H6 => Qn v τ1 H6)
  (hd : ∀ H2 d, Same H H2 → H2 d = none → Q (.ref d) (upd H2 d (.lst ((ds.map f).map V.bl)))) : R (Itt K a) H := by
 have hl := tr.length
 refine vW hR (aQ hz) (tD H f ds okT) ⟨Same.refl _, h0, rfl⟩ (fun i acc τ H1 ⟨_, _, e⟩ => by rw [e]; exact zL f ds i) (fun i acc τ H1 ⟨s, _, _⟩ => SqT.of (s _ _ e)) (fun i x acc τ H1 hx ⟨s, k, ea⟩ => ?_) (fun acc τ H1 d ⟨s, k, ea⟩ hn => ?_)
 ·obtain ⟨d, hd2, td⟩ := tr.get hx
  have z := hs x d τ H1 (fun v τ1 H6 => tD H f ds okT (i + 1) (acc ++ [v]) τ1 H6) (List.mem_of_getElem? hd2) s (td.same s) k fun τ1 H6 k1 s6 => ⟨s.trans s6, k1, by rw [ea, vZ hd2]⟩
  show g x τ H1 fun τ1 H4 => if true = true then te τ1 H4 fun v H6 => tD H f ds okT (i + 1) (acc ++ [v]) τ1 H6 else tD H f ds okT (i + 1) acc τ1 H4
  simp only [if_true]
  exact z
 ·rw [ea, hl, List.take_length]
  exact hd H1 d s hn
end
theorem oM (f : PyData → Bool) (ds : List PyData) : (ds.map f).all id = ds.all f := by rw [List.all_map]; rfl
theorem aG.three {ok : Addr → Prop} {H : Hp} {xs : List V} {ds : List PyData} (t : aG ok H xs ds) (h : xs.length = 3) : ∃ x y z d e f, xs = [x, y, z] ∧ ds = [d, e, f] ∧ aK ok H x d ∧ aK ok H y e ∧ aK ok H z f := by
 cases t with
 | nil => cases h
 | cons t1 t =>
  cases t with
  | nil => cases h
  | cons t2 t =>
   cases t with
   | nil => cases h
   | cons t3 t =>
    cases t with
    | nil => exact ⟨_, _, _, _, _, _, rfl, rfl, t1, t2, t3⟩
    | cons _ _ => simp at h
def bw (d : PyData) (z : Str) : Bool := match d with
 | .str x => decide (x = z)
 | _ => false
theorem j4 {ok : Addr → Prop} {H : Hp} {x : V} {d : PyData} {z : Str} {Q : VK} (t : aK ok H x d) (q : Q (.bl (bw d z)) H) : nq x (.str z) H Q := by
 cases t with
 | non => exact ⟨rfl, q⟩
 | bl b => exact ⟨rfl, q⟩
 | int i => exact ⟨rfl, q⟩
 | str y => exact ⟨rfl, by rw [show decide (V.str y = V.str z) = decide (y = z) by simp]; exact q⟩
 | lst o e z t => show eqo _ _ _; rw [e]; exact q
 | tup o e z t => show eqo _ _ _; rw [e]; exact q
theorem yu {p c : Addr} {H H' : Hp} {o : HO} (s : bM p H H') (h : H c = none) : bM p H (upd H' c o) := fun b u n e => by
 rw [aJ (aF e h)]
 exact s b u n e
theorem bW.upd {H : Hp} {p c : Addr} {B : Int} {o : HO} (t : bW H p B) (n : c ≠ p) : bW (upd H c o) p B := by
 obtain ⟨a, b, c', e, r⟩ := t
 exact ⟨a, b, c', by rw [aJ (Ne.symm n)]; exact e, r⟩
section
variable {ok : Addr → Prop} {σ : St} {H0 H : Hp} {ta tb te : TE} {tr : TA} {d e : PyData} {ds es : List PyData} {D : Ends} {i : Nat}
end
theorem eY.Jd {k : Nat} {A : Around} (r : eY k A) : A.units + 200 < cLine := by have := r.un; omega
theorem Hz {n : Nat} {i : Int} (h0 : 0 ≤ i) (h : i < n) : ixN n i = some i.toNat := by
 unfold ixN
 rw [if_pos h0, if_pos h]
theorem zy (t : Addr) (items : Array Value) : Meets (Builtin.«enumerate.__new__» { pos := [Value.type "enumerate", Value.ref t] }) fun _ R s =>
  s.heap.IsTuple t items ∧ R (.ok (.ret (.ref (s.heap.objs.size + 1)))) { s with heap := (s.heap.push { cls := .type "tuple_iterator", data := .fields #[.ref t, .int 0 0] }).push { cls := .type "enumerate", data := .fields #[.none, .bool false, .ref s.heap.objs.size, rawInt 0, .none, .none] } } := by
 refine Meets.of_wp fun prog w A R s h => ?_
 obtain ⟨ht, hR⟩ := h
 unfold Builtin.«enumerate.__new__» Builtin.SmallTypes.newClass
 refine wpAny_bind (wpAny_bind (wpAny_pure (wpAny_ite_false rfl (wpAny_bind (wpAny_of_eq sub_enumerate (wpAny_ite_false rfl (wpAny_pure (wpAny_ite_true rfl (wpAny_bind ?_)))))))))
 unfold Builtin.SmallTypes.calledThroughType
 refine wpAny_bind (wpAny_stack_any fun st => wpAny_pure ?_)
 have fin : wpAny (model prog w) A.in1 (do
   let it ← pyIter (Value.ref t)
   let r ← Builtin.SmallTypes.newRecord (Value.type "enumerate") (Builtin.SmallTypes.ownedTupleFields ++ [it, rawInt 0, Value.none, Value.none])
   ret r) (fun fin s' => ∃ v, fin = Fin.done (Flow.ret v) ∧ R (Except.ok (Flow.ret v)) s') (fun e s' => R (Except.error e) s') s := by
  refine wpAny_bind (wpAny_pyIter_tuple ht ?_)
  show wpAny _ _ (newObj (.type "enumerate") (.fields #[.none, .bool false, .ref s.heap.objs.size, rawInt 0, .none, .none]) >>= fun r => ret r) _ _ _
  refine wpAny_bind (wpAny_newObj_type ?_)
  refine wpAny_pure ⟨_, rfl, ?_⟩
  have e : (s.heap.push { cls := Value.type "tuple_iterator", data := Data.fields #[Value.ref t, Value.int 0 0] }).objs.size = s.heap.objs.size + 1 := Heap.size_push ..
  rw [e]
  exact hR
 dsimp only
 split
 ·split
  ·exact wpAny_bind (wpAny_pure fin)
  ·exact wpAny_bind (wpAny_pure fin)
 ·split
  ·exact wpAny_bind (wpAny_pure fin)
  ·exact wpAny_bind (wpAny_pure fin)
theorem cM {prog : Program} {w : World} {A : Around} {E : Value → Shared → Prop} {s : Shared} {it t : Addr} {i : Nat} {items : Array Value} {x : Value} {Q : Value → Shared → Prop} (hit : s.heap.IsTupleIter it t i) (ht : s.heap.IsTuple t items) (hx : items[i]? = some x)
  (hQ : ∀ h', h'.IsTupleIter it t (i + 1) → Heap.SameBut it s.heap h' → Q x { s with heap := h' }) : wpAny (model prog w) A (Builtin.SmallTypes.nextOf (Value.ref it)) Q E s := by
 obtain ⟨o, ho, hc, hd⟩ := id hit
 obtain ⟨ol, hol, hcl, nl, hdl⟩ := ht
 unfold Builtin.SmallTypes.nextOf
 refine wpAny_bind (wpAny_callSpecial?_slot hit.typeIs F.slot_tuple_iterator_next (wpAny_call_entry F.slot_tuple_iterator_next hit.typeIs F.entry_tuple_iterator_next ?_ (F.args_tuple_iterator_next_1 _)))
 refine wpAny_bind (wpAny_pure (wpAny_bind (wpAny_field ho hd (i := 0) rfl ?_)))
 refine wpAny_ite_false rfl (wpAny_bind (wpAny_field ho hd (i := 1) rfl ?_))
 refine wpAny_bind (wpAny_seqItems hol hdl ?_)
 show wpAny _ _ (match items[(i : Int).toNat]? with
  | some x => (do setField (.ref it) 1 (rawInt ((i : Int) + 1)); ret x)
  | none => _) _ _ _
 rw [Int.toNat_natCast, hx]
 refine wpAny_bind (wpAny_setField ho hd (Nat.lt_succ_self 1) (wpAny_pure ⟨x, rfl, wpAny_pure (hQ _ ?_ ?_)⟩))
 ·refine ⟨_, Heap.get?_update_self _ ho (Obj.isFreed_of_fields (Obj.data_mapFields hd _)), (Obj.cls_mapFields o _).trans hc, ?_⟩
  rw [Obj.data_mapFields hd]
  rfl
 ·exact Heap.SameBut.update s.heap it _
theorem dW {prog : Program} {w : World} {A : Around} {E : Value → Shared → Prop} {s : Shared} {it t : Addr} {i : Nat} {items : Array Value} {Q : Value → Shared → Prop} (hh : A.handled = none) (hit : s.heap.IsTupleIter it t i) (ht : s.heap.IsTuple t items) (hx : items[i]? = none)
  (hE : ∀ h' e, Heap.ExtBut it s.heap h' → (∃ o, h'.get? e = some o ∧ o.cls = Value.type "StopIteration") → E (.ref e) { s with heap := h' }) : wpAny (model prog w) A (Builtin.SmallTypes.nextOf (Value.ref it)) Q E s := by
 obtain ⟨o, ho, hc, hd⟩ := id hit
 obtain ⟨ol, hol, hcl, nl, hdl⟩ := ht
 unfold Builtin.SmallTypes.nextOf
 refine wpAny_bind (wpAny_callSpecial?_slot hit.typeIs F.slot_tuple_iterator_next (wpAny_call_entry F.slot_tuple_iterator_next hit.typeIs F.entry_tuple_iterator_next ?_ (F.args_tuple_iterator_next_1 _)))
 refine wpAny_bind (wpAny_pure (wpAny_bind (wpAny_field ho hd (i := 0) rfl ?_)))
 refine wpAny_ite_false rfl (wpAny_bind (wpAny_field ho hd (i := 1) rfl ?_))
 refine wpAny_bind (wpAny_seqItems hol hdl ?_)
 show wpAny _ _ (match items[(i : Int).toNat]? with
  | some x => _
  | none => (do rule (toString "tuple_iterator.__next__" ++ toString ".end"); setField (.ref it) 0 .none; Builtin.SmallTypes.stopIteration)) _ _ _
 rw [Int.toNat_natCast, hx]
 refine wpAny_bind (wpAny_rule (wpAny_bind (wpAny_setField ho hd (Nat.zero_lt_succ 1) ?_)))
 unfold Builtin.SmallTypes.stopIteration newExc
 refine wpAny_bind (wpAny_bind (wpAny_newObj_type ?_))
 refine wpAny_bind (wpAny_of_eq (a := .none) rfl ?_)
 refine wpAny_newObj_type ?_
 refine wpAny_raiseNew_none hh (hE _ _ ?_ ?_)
 ·exact fun b ob hb e => Heap.get?_push_of_some _ (Heap.get?_push_of_some _ ((Heap.get?_update_other _ _ (Ne.symm hb)).trans e))
 ·exact ⟨_, Heap.get?_push_size _ rfl, rfl⟩
theorem lM {prog : Program} {w : World} {A : Around} (hh : A.handled = none) (it t : Addr) (hne : t ≠ it) (items : Array Value) : Draws prog w A it [it, t] items.size (fun i v => items[i]? = some v) fun i h => h.IsTupleIter it t i ∧ h.IsTuple t items where
 live := fun _ _ st => by
  obtain ⟨⟨o, ho, _⟩, _⟩ := st
  exact ⟨o, ho⟩
 frame := fun _ _ _ st hk => by
  obtain ⟨h1, ⟨o, e, r⟩⟩ := st
  exact ⟨h1.at fun o e => hk it (by simp) o e, o, hk t (by simp) o e, r⟩
 item := fun i s Q E hi st hQ => by
  have e : items[i]? = some items[i] := by simp [hi]
  refine cM st.1 st.2 e fun h' h1 sb => hQ _ _ s.toks e ⟨h1, ?_⟩ sb
  obtain ⟨o, g, r⟩ := st.2
  exact ⟨o, (sb.2 t hne).trans g, r⟩
 done := fun s Q E st hE => dW hh st.1 st.2 (by simp) hE
def Iet (K : PySem.W.Frag) (a : Addr) : It :=
 ⟨fun i H => ∃ xs x, SqT K H a xs ∧ xs[i]? = some x,
  fun i H v H' => ∃ p x, v = .ref p ∧ H p = none ∧ H' = upd H p (.tup [.int (i : Nat), x]) ∧ ∀ xs, SqT K H a xs → xs[i]? = some x,
  fun i H => ∃ xs, SqT K H a xs ∧ xs.length = i⟩
theorem uR {P : Program} {w : World} {K : PySem.W.Frag} {es : List Expr} {kk : Nat} {tpos : Pos} {e it l : Addr} (hne : e ≠ it) :
  Turn P w K (.Tuple es kk tpos) (Iet K l) [e, it] e (fun i h => (∃ old, IsEnum h e it ((i : Nat) : Int) old) ∧ h.IsTupleIter it l i) where
 mem := by simp
 obj := fun i h st b hb => by
  obtain ⟨⟨old, he⟩, ⟨o1, e1, c1, d1⟩⟩ := st
  simp only [List.mem_cons, List.not_mem_nil, or_false] at hb
  rcases hb with rfl | rfl
  ·exact ⟨_, he, fun v q => by cases q⟩
  ·exact ⟨o1, e1, fun v q => by rw [d1] at q; cases q⟩
 keep := fun i h h' st k => by
  obtain ⟨⟨old, he⟩, h1⟩ := st
  exact ⟨⟨old, k e (by simp) _ he⟩, h1.at fun o q => k it (by simp) o q⟩
 item := by
  intro X hP hw hK hc i pins s σ H E I hf st hg
  subst hP hw hK
  obtain ⟨xs, x, q1, hx⟩ := hg
  obtain ⟨its1, rv1, p1, hz1⟩ := I.tuple q1
  obtain ⟨u1, hu1, ru1⟩ := rv1.get hx
  obtain ⟨⟨old, he⟩, h1⟩ := st
  have hel : e ≠ l := fun z => by
   obtain ⟨ol, g1, g2, _⟩ := p1
   rw [← z, he] at g1
   cases g1
   injection g2 with g2
   exact absurd g2 (by decide)
  have hil : l ≠ it := fun z => by
   obtain ⟨ol, g1, g2, _⟩ := p1
   obtain ⟨oi, g3, g4, _⟩ := h1
   rw [z, g3] at g1
   cases g1
   rw [g4] at g2
   injection g2 with g2
   exact absurd g2 (by decide)
  have hsz1 : i < its1.toArray.size := by
   obtain ⟨z, _⟩ := List.getElem?_eq_some_iff.mp hu1
   simpa using z
  refine wpAny_pyNext_enum_itemD (lM (A := X.A.in1) (I.ok.hd hc) it l hil its1.toArray) he ⟨h1, p1⟩ hsz1 hne (by simp [hne, hel]) fun x1 h' tk hP a1 a2 a3 a4 hk => ?_
  have ex : x1 = u1 := by
   have hP' : its1[i]? = some x1 := by simpa using hP
   rw [hu1] at hP'
   exact (Option.some.inj hP').symm
  subst ex
  obtain ⟨a2, _⟩ := a2
  have new : bT X.prog X.w (upd H s.heap.objs.size (.tup [.int (i : Nat), x])) h' s.heap.objs.size (.tup [.int (i : Nat), x]) := ⟨by show 2 ≤ sizeLine; decide, [.int (i : Nat) tk, x1], .cons ⟨_, rfl⟩ (.cons ru1 .nil), _, a3, rfl, _, rfl⟩
  have I1 : Inv X pins σ (upd H s.heap.objs.size (.tup [.int (i : Nat), x])) { s with heap := h', toks := tk + 1 } := I.wu (ch := [e, it]) hf
   (fun b o hb q => hk b o (fun z => hb (by simp [z])) (fun z => hb (by simp [z])) q) (Nat.le_refl _) new
  have hsz : ∀ b, b ∈ [e, it] → b ≠ s.heap.objs.size := fun b hb => by
   have lt : ∃ o, s.heap.get? b = some o := by
    simp only [List.mem_cons, List.not_mem_nil, or_false] at hb
    rcases hb with rfl | rfl
    ·exact ⟨_, he⟩
    ·obtain ⟨o, q, _⟩ := h1; exact ⟨o, q⟩
   obtain ⟨o, q⟩ := lt
   exact Nat.ne_of_lt (Heap.lt_size q)
  refine ⟨_, rfl, wpAny_letOwnedTupleGo_enum (s := { s with heap := h', toks := tk + 1 }) a1 fun h'' z2 sb => ?_⟩
  have fz := hf e (by simp)
  have I2 : Inv X pins σ (upd H s.heap.objs.size (.tup [.int (i : Nat), x])) { s with heap := h'', toks := tk + 1 } := Inv.turned (s := { s with heap := h', toks := tk + 1 }) (it := e) I1 (fun b o hb q => (sb.2 b hb).trans q) (by rw [aJ (hsz e (by simp))]; exact fz.1) fz.2.1 fz.2.2.2.1 fz.2.2.2.2.1 fz.2.2.2.2.2
  refine ⟨.ref s.heap.objs.size, _, I2, rfl, ⟨_, x, rfl, I.fresh, rfl, fun xs' q => by rw [I.iK q q1]; exact hx⟩,
   ⟨⟨_, by simpa using z2⟩, a2.extBut sb.extBut hne.symm⟩, fun b hb => by rw [aJ (hsz b hb)]; exact (hf b hb).1⟩
 done := by
  intro X hP hw hK hc i pins s σ H E I hf st hg
  subst hP hw hK
  obtain ⟨xs, q1, hx⟩ := hg
  obtain ⟨its1, rv1, p1, hz1⟩ := I.tuple q1
  obtain ⟨⟨old, he⟩, h1⟩ := st
  have hil : l ≠ it := fun z => by
   obtain ⟨ol, g1, g2, _⟩ := p1
   obtain ⟨oi, g3, g4, _⟩ := h1
   rw [z, g3] at g1
   cases g1
   rw [g4] at g2
   injection g2 with g2
   exact absurd g2 (by decide)
  have hl1 := rv1.length
  have hsi : its1.toArray.size = i := by rw [List.size_toArray]; omega
  refine wpAny_pyNext_enum_endD (lM (A := X.A.in1) (I.ok.hd hc) it l hil its1.toArray) he (by rw [hsi]; exact ⟨h1, p1⟩) fun h' hk => ⟨rfl, ?_⟩
  exact I.wz (t' := s.toks) (ch := [e, it]) hf (fun b o hb q => hk b o (fun z => hb (by simp [z])) q)
 self := fun _ _ _ _ _ st h => by
  obtain ⟨⟨old, he⟩, _⟩ := st
  exact wpAny_pyIter_enum he h
def ieq (K : PySem.W.Frag) (ob : Option HO) (a : Addr) (H : Hp) (R : It → Hp → Prop) : Prop := match ob with
 | some (.lst _) => R (Ite K a) H
 | some (.tup _) => R (Iet K a) H
 | _ => False
def ieK (K : PySem.W.Frag) (vs : List V) (H : Hp) (R : It → Hp → Prop) : Prop := match vs with
 | [.ref a] => ieq K (H a) a H R
 | _ => False
def vK (K : PySem.W.Frag) (ta : TA) : TI := fun σ H R => ta σ H fun vs H1 => ieK K vs H1 R
theorem zp (K : PySem.W.Frag) (ta : TA) (σ : St) (H : Hp) (R : It → Hp → Prop) : vK K ta σ H R = ta σ H fun vs H1 => ieK K vs H1 R := rfl
theorem Ig (K : PySem.W.Frag) (a : Addr) (H : Hp) (R : It → Hp → Prop) : ieK K [.ref a] H R = ieq K (H a) a H R := rfl
theorem Ie (K : PySem.W.Frag) (xs : List V) (a : Addr) (H : Hp) (R : It → Hp → Prop) : ieq K (some (.lst xs)) a H R = R (Ite K a) H := rfl
section
variable {X : Cx}
theorem Cm {es : List Expr} {kk : Nat} {tpos : Pos} {a : Expr} {ta : TA} {p pos : Pos} (hg : Gl X "enumerate") (hm : X.mg "enumerate" = none) (ha : PA X [a] ta) (hs : starEach [a] X.env = [(false, eval a X.env)] := by rfl) :
  PI X (.Tuple es kk tpos) (.Call (.Name "enumerate" p) [a] [] pos) (vK X.K ta) := by
 intro pins s σ H R I h
 refine Call_ (lA I hg hm PyProof.Rows.Boot.«enumerate» (PyProof.Rows.callWith_type1 (thA (ha pos pins s σ H _ I h) fun us s1 vs H1 I1 r1 q1 => ?_) hs rfl))
 replace q1 : ieK X.K vs H1 R := q1
 unfold ieK at q1
 split at q1
 ·rename_i l1
  cases r1 with
  | cons r rr =>
   cases rr
   cases r
   unfold ieq at q1
   split at q1
   ·rename_i xs e
    obtain ⟨its1, rv1, p1, hz1⟩ := I1.list (SqL.of e)
    refine call_enumerate_list p1.isList fun h' b1 b2 b3 hk => ?_
    refine wpAny_pyIter_enum (s := { s1 with heap := h' }) b1 ?_
    have I2 : Inv X pins σ H1 { s1 with heap := h' } := I1.kept (t' := s1.toks) hk
    refine ⟨_, _, _, _, H1, rfl, I2, ye (Nat.ne_of_gt (Nat.lt_succ_self _)), ⟨⟨_, b1⟩, b2⟩, fun b hb => ?_, q1⟩
    have hle : s1.heap.objs.size ≤ b := by
     simp only [List.mem_cons, List.not_mem_nil, or_false] at hb
     rcases hb with rfl | rfl <;> simp
    exact I1.vU hle (I1.hok.fresh hle)
   ·rename_i xs e
    obtain ⟨its1, rv1, p1, hz1⟩ := I1.tuple (SqT.of e)
    refine callType_new F.called_enumerate (by decide) (F.typeCall_enumerate_1 _) (F.newCall_enumerate_1 _) (fun obj => F.args_object_init_2 obj _) F.entry_enumerate_new (zy l1 its1.toArray) ⟨p1, ?_⟩
    have hz : (s1.heap.push { cls := Value.type "tuple_iterator", data := Data.fields #[Value.ref l1, Value.int 0 0] }).objs.size = s1.heap.objs.size + 1 := Heap.size_push ..
    have b1 : ((s1.heap.push { cls := Value.type "tuple_iterator", data := Data.fields #[Value.ref l1, Value.int 0 0] }).push { cls := Value.type "enumerate", data := Data.fields #[Value.none, Value.bool false, Value.ref s1.heap.objs.size, rawInt 0, Value.none, Value.none] }).get? (s1.heap.objs.size + 1) = some { cls := Value.type "enumerate", data := Data.fields #[Value.none, Value.bool false, Value.ref s1.heap.objs.size, rawInt 0, Value.none, Value.none] } := by
     rw [← hz]
     exact Heap.get?_push_size _ rfl
    have b2 : ((s1.heap.push { cls := Value.type "tuple_iterator", data := Data.fields #[Value.ref l1, Value.int 0 0] }).push { cls := Value.type "enumerate", data := Data.fields #[Value.none, Value.bool false, Value.ref s1.heap.objs.size, rawInt 0, Value.none, Value.none] }).IsTupleIter s1.heap.objs.size l1 0 :=
     ⟨_, Heap.get?_push_of_some _ (Heap.get?_push_size _ rfl), rfl, rfl⟩
    have hk : ∀ b o, s1.heap.get? b = some o → ((s1.heap.push { cls := Value.type "tuple_iterator", data := Data.fields #[Value.ref l1, Value.int 0 0] }).push { cls := Value.type "enumerate", data := Data.fields #[Value.none, Value.bool false, Value.ref s1.heap.objs.size, rawInt 0, Value.none, Value.none] }).get? b = some o := fun b o z => Heap.get?_push_of_some _ (Heap.get?_push_of_some _ z)
    refine ⟨⟨_, b1, rfl⟩, ?_⟩
    generalize (s1.heap.push { cls := Value.type "tuple_iterator", data := Data.fields #[Value.ref l1, Value.int 0 0] }).push { cls := Value.type "enumerate", data := Data.fields #[Value.none, Value.bool false, Value.ref s1.heap.objs.size, rawInt 0, Value.none, Value.none] } = h' at b1 b2 hk
    refine wpAny_pyIter_enum (s := { s1 with heap := h' }) b1 ?_
    have I2 : Inv X pins σ H1 { s1 with heap := h' } := I1.kept (t' := s1.toks) hk
    refine ⟨_, _, _, _, H1, rfl, I2, uR (Nat.ne_of_gt (Nat.lt_succ_self _)), ⟨⟨_, b1⟩, b2⟩, fun b hb => ?_, q1⟩
    have hle : s1.heap.objs.size ≤ b := by
     simp only [List.mem_cons, List.not_mem_nil, or_false] at hb
     rcases hb with rfl | rfl <;> simp
    exact I1.vU hle (I1.hok.fresh hle)
   ·exact q1.elim
 ·exact q1.elim
theorem Cd {es : List Expr} {kk : Nat} {tpos : Pos} {a : Expr} {ta : TA} {p pos : Pos} (hg : Gl X "enumerate") (hm : X.mg "enumerate" = none) (ha : QA X [a] ta) (hs : starEach [a] X.env = [(false, eval a X.env)] := by rfl) :
  QI X (.Tuple es kk tpos) (.Call (.Name "enumerate" p) [a] [] pos) (vK X.K ta) := ⟨Cm hg hm ha.h hs⟩
end
theorem LQ {J : It} {g : TG} {tb : TS} {D : Ends} {σ : St} {H : Hp} {R : It → Hp → Prop} (hR : R = (fun J H1 => ∃ W : Nat → Nat → St → Hp → Prop, (∃ m, W 0 m σ H1) ∧ ∀ i m σ H, W i m σ H →
  (J.stop i H ∧ D.nx σ H) ∨ (J.go i H ∧ ∃ N : St → Hp → Prop, (∀ σ' H', N σ' H' → ∃ m', m' < m ∧ W (i + 1) m' σ' H') ∧ ∀ x H', J.yld i H x H' → g x σ H' fun σ2 H2 => tb { D with nx := N, ct := N, bk := D.nx } σ2 H2)))
  (n : Nat) (Pv : Nat → St → Hp → Prop) (h0 : Pv 0 σ H) (hgo : ∀ i σ H, i < n → Pv i σ H → J.go i H) (hst : ∀ σ H, Pv n σ H → J.stop n H)
  (hs : ∀ i σ H x H3, i < n → Pv i σ H → J.yld i H x H3 → g x σ H3 fun σ2 H2 => tb { D with nx := Pv (i + 1), ct := Pv (i + 1), bk := D.nx } σ2 H2) (hd : ∀ σ H, Pv n σ H → D.nx σ H) : R J H := by
 subst hR
 refine ⟨fun i m σ H2 => m = n - i ∧ i ≤ n ∧ Pv i σ H2, ⟨_, rfl, Nat.zero_le _, h0⟩, ?_⟩
 rintro i m σ H2 ⟨rfl, hi, p⟩
 by_cases hlt : i < n
 ·exact .inr ⟨hgo i σ H2 hlt p, Pv (i + 1), fun σ' H' q => ⟨_, by omega, rfl, hlt, q⟩, fun x H3 y => hs i σ H2 x H3 hlt p y⟩
 ·have e : i = n := by omega
  subst e
  exact .inl ⟨hst σ H2 p, hd σ H2 p⟩
section
variable {X : Cx} {e o : Expr} {te to : TE} {pos : Pos}
end
mutual
def szD (a : Nat) : PyData → Prop
 | .none => True
 | .bool _ => True
 | .int i => i.natAbs ≤ 10 ^ 20 * 2 ^ a
 | .str x => x.length ≤ 30 + a ∧ ∀ c ∈ x.cps.toList, c < 16 ^ 8
 | .list ds => ds.length ≤ 210 * 5 ^ a ∧ mK a ds
 | .tuple ds => ds.length ≤ 210 * 5 ^ a ∧ mK a ds
 | .dict _ => False
def mK (a : Nat) : List PyData → Prop
 | [] => True
 | d :: ds => szD a d ∧ mK a ds
end
theorem pO {a : Nat} : ∀ {ds : List PyData}, mK a ds ↔ ∀ d ∈ ds, szD a d
 | [] => ⟨fun _ d h => (nomatch h), fun _ => trivial⟩
 | x :: ds => by
  show szD a x ∧ mK a ds ↔ _
  rw [pO (ds := ds)]
  constructor
  ·intro ⟨h1, h2⟩ d hd
   rcases List.mem_cons.mp hd with rfl | z
   ·exact h1
   ·exact h2 d z
  ·intro h
   exact ⟨h x List.mem_cons_self, fun d hd => h d (List.mem_cons_of_mem _ hd)⟩
mutual
theorem wA : ∀ (d : PyData), szD 2 d → d.showable = true ∧ d.hasDict = false
 | .none, _ => ⟨rfl, rfl⟩
 | .bool b, _ => ⟨rfl, rfl⟩
 | .int i, h => by
  refine ⟨?_, rfl⟩
  have h' : i.natAbs ≤ 10 ^ 20 * 2 ^ 2 := h
  show decide (i.natAbs.log2 < 1920) = true
  refine decide_eq_true ?_
  by_cases z : i.natAbs = 0
  ·rw [z]; decide
  ·have := (Nat.log2_lt (k := 70) z).mpr (by omega)
   omega
 | .str x, _ => ⟨rfl, rfl⟩
 | .list ds, h => by
  obtain ⟨h1, h2⟩ := jk ds h.2
  exact ⟨h1, h2⟩
 | .tuple ds, h => by
  obtain ⟨h1, h2⟩ := jk ds h.2
  exact ⟨h1, h2⟩
 | .dict kvs, h => h.elim
theorem jk : ∀ (ds : List PyData), mK 2 ds → PyData.showableAll ds = true ∧ PyData.hasDictAll ds = false
 | [], _ => ⟨rfl, rfl⟩
 | d :: ds, h => by
  obtain ⟨h1, h2⟩ := wA d h.1
  obtain ⟨h3, h4⟩ := jk ds h.2
  refine ⟨?_, ?_⟩
  ·rw [PyData.showableAll.eq_2, h1, h3]; rfl
  ·rw [PyData.hasDictAll.eq_2, h2, h4]; rfl
end
structure Shw (d : PyData) : Prop where
 sh : d.showable = true
 nd : d.hasDict = false
 dp : d.depth ≤ 100
 ln : d.shown.length ≤ sizeLine
def JZ : List V → Hp → VK → Prop := fun xs H Q => ∃ v ok d, xs = [v] ∧ aK ok H v d ∧ Shw d ∧ Q (.str d.shown) H
theorem oK {X : Cx} (hg : X.A.guards = some []) (hu : X.A.units + 200 < cLine) : cg X (.builtin "repr") JZ := by
 intro pins s σ H xs us Q I r h
 obtain ⟨v, ok, d, rfl, t, ⟨sh, hd, hdp, hl⟩, q⟩ := h
 obtain ⟨u, rfl, rv⟩ := vals1 r
 have nodict : ∀ as : List Addr, d.hasDict = true → ¬ sysModules ∈ as := fun as z => by rw [hd] at z; cases z
 cases t with
 | non => cases rv; exact P.repr_of_none ⟨.str _, H, I.tok _, ⟨_, rfl⟩, q⟩
 | bl b => cases rv; exact P.repr_of_bool ⟨.str _, H, I.tok _, ⟨_, rfl⟩, q⟩
 | int i =>
  obtain ⟨t, rfl⟩ := rv
  exact P.repr_of_int (of_decide_eq_true sh) ⟨.str _, H, I.tok _, ⟨_, rfl⟩, q⟩
 | str x =>
  obtain ⟨t, rfl⟩ := rv
  exact P.repr_of_str ⟨.str _, H, I.tok _, ⟨_, rfl⟩, q⟩ hl
 | lst o e z t =>
  obtain ⟨as, rd⟩ := aK.reads I (aK.lst o e z t) rv
  cases rv
  exact repr_of_reads' rd sh (nodict as) hg (by omega) (fun _ _ z => z) (fun h' u tk k => ⟨.str _, H, I.kept k, ⟨_, rfl⟩, q⟩) hl
 | tup o e z t =>
  obtain ⟨as, rd⟩ := aK.reads I (aK.tup o e z t) rv
  cases rv
  exact repr_of_reads' rd sh (nodict as) hg (by omega) (fun _ _ z => z) (fun h' u tk k => ⟨.str _, H, I.kept k, ⟨_, rfl⟩, q⟩) hl
theorem j6 {x : PyData} : ∀ {ds : List PyData}, x ∈ ds → x.depth ≤ PyData.depthAll ds
 | y :: ds, h => by
  rw [PyData.depthAll.eq_2]
  rcases List.mem_cons.mp h with rfl | z
  ·omega
  ·have := j6 z; omega
theorem iJ {k : Nat} : ∀ {ds : List PyData}, (∀ d ∈ ds, d.depth ≤ k) → PyData.depthAll ds ≤ k
 | [], _ => Nat.zero_le _
 | x :: ds, h => by
  rw [PyData.depthAll.eq_2]
  have h1 := h x List.mem_cons_self
  have h2 := iJ fun d hd => h d (List.mem_cons_of_mem _ hd)
  omega
def ctq (a b : Option HO) (pa : Addr) (H : Hp) (Q : VK) : Prop := match a, b with
 | some (.tup xs), some (.tup ys) => xs ≠ [] ∧ xs.length + ys.length ≤ sizeLine ∧ (ys = [] → Q (.ref pa) H) ∧ (ys ≠ [] → ∀ p, H p = none → Q (.ref p) (upd H p (.tup (xs ++ ys))))
 | _, _ => False
def BV : R2 := fun x y H Q => match x, y with
 | .ref p, .ref q => ctq (H p) (H q) p H Q
 | _, _ => False
theorem Gg (p q : Addr) (H : Hp) (Q : VK) : BV (.ref p) (.ref q) H Q = ctq (H p) (H q) p H Q := rfl
theorem Mf (xs ys : List V) (pa : Addr) (H : Hp) (Q : VK) : ctq (some (.tup xs)) (some (.tup ys)) pa H Q = (xs ≠ [] ∧ xs.length + ys.length ≤ sizeLine ∧ (ys = [] → Q (.ref pa) H) ∧ (ys ≠ [] → ∀ p, H p = none → Q (.ref p) (upd H p (.tup (xs ++ ys))))) := rfl
theorem G6 {X : Cx} : OpR X (binaryOp .Add) BV := by
 intro pins s σ H x y v u Q I rx ry h
 unfold BV at h
 split at h
 ·rename_i p q
  unfold ctq at h
  split at h
  ·rename_i xs ys e1 e2
   exact G5 pins s σ H _ _ v u Q I rx ry ⟨p, q, xs, ys, rfl, rfl, SqT.of e1, SqT.of e2, h.1, h.2.1, h.2.2.1, h.2.2.2⟩
  ·exact h.elim
 ·exact h.elim
section
variable {ok : Addr → Prop} {σ : St} {H0 : Hp}
end
theorem DW (x : V) (xs : List V) : jc (x :: xs) (some 1) none = xs := by
 unfold jc
 have e1 : HT.sIx (x :: xs).length 0 (some 1) = 1 := by
  rw [List.length_cons]
  simp [HT.sIx]
 have e2 : HT.sIx (x :: xs).length (x :: xs).length none = (x :: xs).length := by simp [HT.sIx]
 rw [e1, e2]
 simp
theorem Ma (x : V) (xs : List V) : ¬ (HT.sIx (x :: xs).length 0 (some 1) = 0 ∧ HT.sIx (x :: xs).length (x :: xs).length none = (x :: xs).length) := by
 have e1 : HT.sIx (x :: xs).length 0 (some 1) = 1 := by
  rw [List.length_cons]
  simp [HT.sIx]
 rw [e1]
 exact fun h => absurd h.1 (by decide)
section
variable {X : Cx} {a : Expr} {ta : TE}
def trq (ob : Option HO) (H : Hp) (Q : Bool → Hp → Prop) : Prop := match ob with
 | some (.lst xs) => Q (!xs.isEmpty) H
 | some (.tup xs) => Q (!xs.isEmpty) H
 | _ => False
def yg (x : V) (H : Hp) (Q : Bool → Hp → Prop) : Prop := match x with
 | .ref p => trq (H p) H Q
 | .bl b => Q b H
 | .int i => Q (i != 0) H
 | .non => Q false H
 | _ => False
def Jw (te : TE) : TT := fun σ H Q => te σ H fun x H1 => yg x H1 Q
theorem Er (te : TE) (σ : St) (H : Hp) (Q : Bool → Hp → Prop) : Jw te σ H Q = te σ H fun x H1 => yg x H1 Q := rfl
theorem zY (p : Addr) (H : Hp) (Q : Bool → Hp → Prop) : yg (.ref p) H Q = trq (H p) H Q := rfl
theorem Aa (i : Int) (H : Hp) (Q : Bool → Hp → Prop) : yg (.int i) H Q = Q (i != 0) H := rfl
theorem Em (b : Bool) (H : Hp) (Q : Bool → Hp → Prop) : yg (.bl b) H Q = Q b H := rfl
theorem zZ (H : Hp) (Q : Bool → Hp → Prop) : yg .non H Q = Q false H := rfl
theorem Eo (xs : List V) (H : Hp) (Q : Bool → Hp → Prop) : trq (some (.lst xs)) H Q = Q (!xs.isEmpty) H := rfl
theorem En (xs : List V) (H : Hp) (Q : Bool → Hp → Prop) : trq (some (.tup xs)) H Q = Q (!xs.isEmpty) H := rfl
theorem Kf (ha : PE X a ta) (he : ∀ whole, isTrue a X.env whole = (do let v ← whole; standAt a.pos; holding [v] (truthy v))) : PT X a (Jw ta) := by
 intro pins s σ H Q I h
 refine isTrue_plain (thE (ha pins s σ H _ I h) fun v s1 x H1 I1 r1 q1 => Ju pins s1 σ H1 x v Q I1 r1 ?_) (he _)
 cases x with
 | ref p =>
  replace q1 : trq (H1 p) H1 Q := q1
  unfold trq at q1
  split at q1
  ·rename_i xs e
   exact ⟨_, .inl ⟨xs, SqL.of e, rfl⟩, q1⟩
  ·rename_i xs e
   exact ⟨_, .inr (.inl ⟨xs, SqT.of e, rfl⟩), q1⟩
  ·exact q1.elim
 | bl b => exact ⟨_, rfl, q1⟩
 | int i => exact ⟨_, rfl, q1⟩
 | non => exact ⟨_, rfl, q1⟩
 | _ => exact (show False from q1).elim
theorem vz (h : QE X a ta) (he : ∀ whole, isTrue a X.env whole = (do let v ← whole; standAt a.pos; holding [v] (truthy v)) := by intro _; rfl) : QT X a (Jw ta) := ⟨Kf h.h he⟩
end
def rd6 := And.intro @Er (And.intro @zY (And.intro @Aa (And.intro @Em (And.intro @zZ (And.intro @Eo @En)))))
theorem Cj {is : List Int} {r : Int} (h0 : 0 ≤ r) (h : r < is.length) : ∃ i, i ∈ is ∧ atI (is.map V.int) r = some (.int i) := by
 have h1 : r.toNat < is.length := by omega
 refine ⟨is[r.toNat], List.getElem_mem h1, ?_⟩
 unfold atI
 rw [Hz h0 (by rw [List.length_map]; omega)]
 show (is.map V.int)[r.toNat]? = _
 rw [List.getElem?_map, List.getElem?_eq_getElem h1]
 rfl
structure RowS (ss : List (Int × Int × Int)) : Prop where
 lh : ∀ (i : Nat) s, ss[i]? = some s → s.1 ≤ s.2.1 ∧ 0 ≤ s.2.2 ∧ s.2.2 ≤ 9
 nx : ∀ (i : Nat) s t, ss[i]? = some s → ss[i + 1]? = some t → t.1 = s.2.1 + 1
 bd : ∀ (i : Nat) s, ss[i]? = some s → -(10 ^ 12) ≤ s.1 ∧ s.2.1 ≤ 10 ^ 9 + (10 ^ 12 + 10) * (i + 1)
section
variable {κ : Type} [DecidableEq κ]
def Mt (kvs : List (κ × V)) (k : κ) : Option V := (kvs.find? fun kv => decide (kv.1 = k)).map (·.2)
def putK (kvs : List (κ × V)) (k : κ) (v : V) : List (κ × V) :=
 if (kvs.any fun kv => decide (kv.1 = k)) = true then kvs.map (fun kv => if kv.1 = k then (kv.1, v) else kv) else kvs ++ [(k, v)]
end
section
variable {P : Program} {w : World} {H : Hp} {h : Heap} {a : Addr}
end
def O5 (H : Hp) (a : Addr) (y : V) (r : Option V) : Prop :=
 (∃ kvs k, Rd H a (.dK kvs) ∧ y = kV k ∧ r = Mt kvs k) ∨ ∃ kvs k b, Rd H a (.dT kvs) ∧ y = .ref b ∧ H b = some (.tup (k.map kV)) ∧ r = Mt kvs k
section
variable {X : Cx} {pins : List (Addr × Obj)} {σ : St} {H : Hp} {s : Shared} {a : Addr} {y v : V} {u r : Value} {o : Option V} {A : Around} {E : Value → Shared → Prop}
end
section
variable {X : Cx} {pins : List (Addr × Obj)} {σ : St} {H : Hp} {s : Shared} {a : Addr} {kvs : List (Key × V)} {k : Key} {u : Value} {A : Around} {E : Value → Shared → Prop}
end
section
variable {X : Cx} {o i e value : Expr} {pos pos' tpos : Pos} {td ty tv : TE}
end
section
variable {X : Cx} {pos : Pos}
end
def qI : List (TE × TE) → St → Hp → (List (V × V) → Hp → Prop) → Prop
 | [], _, H, Q => Q [] H
 | (tk, tv) :: r, σ, H, Q => tk σ H fun x H1 => tv σ H1 fun y H2 => qI r σ H2 fun ps H3 => Q ((x, y) :: ps) H3
def Lb (kvs more : List (Key × V)) : List (Key × V) := more.foldl (fun acc kv => putK acc kv.1 kv.2) kvs
def MF (trs : List (TE × TE)) : TE := fun σ H Q => ∀ p, H p = none → qI trs σ (upd H p (.dK [])) fun ps H2 => H2 p = some (.dK []) ∧ ∃ kvs : List (Key × V), ps = kvs.map (fun kv => (kV kv.1, kv.2)) ∧ kvs.length ≤ 15 ∧ Q (.ref p) (upd H2 p (.dK (Lb [] kvs)))
def IsD (H : Hp) (a : Addr) : Prop := (∃ kvs, Rd H a (.dK kvs)) ∨ ∃ kvs, Rd H a (.dT kvs)
section
variable {X : Cx} {pins : List (Addr × Obj)} {σ : St} {H : Hp} {s : Shared} {a : Addr} {y d : V} {u r : Value} {o : Option V} {A : Around} {E : Value → Shared → Prop}
end
def JK (td ty tx : TE) : TE := fun σ H Q => td σ H fun x H1 => ∃ a, x = .ref a ∧ IsD H1 a ∧ ty σ H1 fun y H2 => tx σ H2 fun z H3 => ∃ o, O5 H3 a y o ∧ Q (o.getD z) H3
section
variable {X : Cx} {o e f : Expr} {apos cpos : Pos} {td ty tx : TE}
end
section
variable {X : Cx} {pins : List (Addr × Obj)} {σ : St} {H : Hp} {s : Shared} {a : Addr} {kvs : List (Key × V)} {A : Around} {E : Value → Shared → Prop}
end
section
variable {X : Cx} {pins : List (Addr × Obj)} {σ : St} {H : Hp} {s : Shared} {a : Addr} {y : V} {u : Value} {A : Around} {E : Value → Shared → Prop}
end
theorem eY.un1 {k : Nat} {A : Around} (r : eY k A) : A.in1.units < cLine := by
 have := r.un
 show A.units + 1 < cLine
 omega
section
variable {X : Cx} {pos : Pos}
theorem Ca {st : Stmt} : QS X st (fun _ _ _ => False) := ⟨fun _ _ _ _ _ _ h => h.elim⟩
def Oo : R2 := fun x y H Q => ∃ (p : Addr) (ws : List Str) (d : PyData) (ok : Addr → Prop), y = .ref p ∧ H p = some (.tup (ws.map V.str)) ∧ aK ok H x d ∧ Q (.bl (ws.any (bw d))) H
theorem KZ (hu : X.A.in1.units < cLine) : OpR X (compareOp .In) Oo := by
 intro pins s σ H x y v u Q I rx ry h
 obtain ⟨p, ws, d, ok, rfl, e, t, q⟩ := h
 cases ry
 obtain ⟨its, r, pl, hz⟩ := I.tuple (SqT.of e)
 have key : ∀ u ∈ its, ∃ y t, u = Value.str y t := fun u hu => by
  obtain ⟨j, hj, ej⟩ := List.mem_iff_getElem.mp hu
  have hl := r.length
  have hx : (ws.map V.str)[j]? = some (ws.map V.str)[j] := List.getElem?_eq_getElem (by omega)
  obtain ⟨u', hu', ru⟩ := r.get hx
  rw [List.getElem?_eq_getElem hj, ej] at hu'
  cases hu'
  rw [List.getElem_map] at ru
  obtain ⟨t, e⟩ := ru
  exact ⟨_, t, e⟩
 let g : Value → Bool := fun u => match u with | .str y _ => bw d y | _ => false
 refine SeqAt.in_tupleAt g pl (fun w hw => ?_) ⟨.bl _, H, I, rfl, ?_⟩
 ·obtain ⟨y, t', rfl⟩ := key w (by simpa using hw)
  cases t with
  | non => cases rx; exact SeqAt.EqAt.str_none y t'
  | bl b => cases rx; exact SeqAt.EqAt.str_bool y t' b
  | int i => obtain ⟨t2, rfl⟩ := rx; exact SeqAt.EqAt.str_int y t' i t2
  | str z =>
   obtain ⟨t2, rfl⟩ := rx
   have h2 := SeqAt.EqAt.str_str (A := X.A.in1) (s := s) y t' z t2
   have e3 : (y == z) = bw (.str z) y := by
    show (y == z) = decide (z = y)
    rw [Bool.beq_eq_decide_eq]
    exact decide_eq_decide.mpr ⟨Eq.symm, Eq.symm⟩
   rw [e3] at h2
   exact h2
  | lst o e1 z1 ts =>
   cases rx
   obtain ⟨its1, r1, pl1, hz1⟩ := I.list (SqL.of e1)
   exact SeqAt.EqAt.str_list y t' pl1.isList hu
  | tup o e1 z1 ts =>
   cases rx
   obtain ⟨its1, r1, pl1, hz1⟩ := I.tuple (SqT.of e1)
   exact SeqAt.EqAt.str_tuple y t' pl1 hu
 ·have : ∀ (ws : List Str) (its : List Value), Vals (ws.map V.str) its → its.any g = ws.any (bw d) := by
   intro ws
   induction ws with
   | nil => intro its r; cases r; rfl
   | cons a ws ih =>
    intro its r
    cases r with
    | cons r1 r2 =>
     obtain ⟨t1, rfl⟩ := r1
     rw [List.any_cons, List.any_cons, ih _ r2]
  rw [show its.toArray.any g = its.any g by simp, this ws its r]
  exact q
end
def oY : PyData → Int
 | .int i => i
 | _ => 0
def cN (w : Str) : List Int → Bool
 | [a] => decide (w = "pick") && decide (0 ≤ a)
 | [_, _] => decide (w = "is") || decide (w = "below")
 | [a, b, _] => decide (w = "within") && decide (a ≤ b)
 | [_, wd, bits, _] => decide (w = "mask") && ((decide (1 ≤ wd) && decide (wd ≤ 64)) && (decide (0 ≤ bits) && decide (bits < 2 ^ wd.toNat)))
 | _ => false
def Ji (is : List Int) : List Int := match is.getLast? with
 | some t => [t]
 | none => []
def jh (w : Str) (is : List Int) : List Int := if w = "pick" then [] else Ji is
def oO : List PyData → Option (List PyData)
 | [.int _, .tuple gs] => if (!gs.isEmpty && gs.all bV) = true then some gs else none
 | _ => none
def fC : PyData → Bool
 | .tuple (.str w :: ps) => if w = "table" then (oO ps).isSome else ps.all bV && cN w (ps.map oY)
 | _ => false
def iC : PyData → List Int
 | .tuple (.str w :: ps) => if w = "table" then ((oO ps).getD []).map oY else jh w (ps.map oY)
 | _ => []
def btw (own many : Int) (t : Int) : Bool := decide (own < t) && decide (t < many)
def sI (own many : Int) : PyData → Bool
 | .int t => btw own many t
 | _ => false
def dI (own many : Int) (d : PyData) : Bool := fC d && (iC d).all (btw own many)
def qO : Sp := fun vs H Q _ => ∃ v ok d own many, vs = [v, .int own, .int many] ∧ aK ok H v d ∧ Q (.bl (sI own many d)) H
def wG : Sp := fun vs H Q _ => ∃ wd bits : Int, vs = [.int wd, .int bits] ∧ Q (.bl ((decide (1 ≤ wd) && decide (wd ≤ 64)) && (decide (0 ≤ bits) && decide (bits < 2 ^ wd.toNat)))) H
def Ar : Sp := fun vs H Q _ => ∃ v ok dw ps own many, vs = [v, .int own, .int many] ∧ aK ok H v (.tuple (dw :: ps)) ∧ ∀ H', Same H H' → Q (.bl (match oO ps with | some gs => (gs.map oY).all (btw own many) | none => false)) H'
def Av : Sp := fun vs H Q _ => ∃ v ok d own many, vs = [v, .int own, .int many] ∧ aK ok H v d ∧ ∀ H', Same H H' → Q (.bl (dI own many d)) H'
theorem ints_of {ps : List PyData} (h : ps.all bV = true) : ps = (ps.map oY).map PyData.int := by
 rw [List.map_map]
 refine (List.map_id ps).symm.trans (List.map_congr_left fun d hd => ?_)
 have := List.all_eq_true.mp h d hd
 cases d with
 | int i => rfl
 | _ => exact absurd this Bool.false_ne_true
theorem aG.ints {ok : Addr → Prop} {H : Hp} : ∀ {xs : List V} {is : List Int}, aG ok H xs (is.map PyData.int) → xs = is.map V.int
 | _, [], .nil => rfl
 | _, i :: is, .cons h r => by
  cases h
  rw [r.ints]
  rfl
theorem pK {ok : Addr → Prop} {H : Hp} : ∀ (is : List Int), aG ok H (is.map V.int) (is.map PyData.int)
 | [] => .nil
 | i :: is => .cons (.int i) (pK is)
def rd7 := And.intro @MF.eq_1 (And.intro @qI.eq_1 (And.intro @qI.eq_2 @JK.eq_1))
theorem qm (own many : Int) : ∀ gs : List PyData, gs.all (sI own many) = (match (if gs.all bV = true then some gs else none : Option (List PyData)) with | some gs => (gs.map oY).all (btw own many) | none => false)
 | [] => rfl
 | d :: gs => by
  have ih := qm own many gs
  rw [List.all_cons, List.all_cons, ih]
  cases d with
  | int i =>
   rw [show bV (.int i) = true from rfl, Bool.true_and]
   cases h : gs.all bV with
   | true => rfl
   | false =>
    show (btw own many i && false) = false
    rw [Bool.and_false]
  | _ => rfl
theorem Ac {ps : List PyData} (h : ps.length ≠ 2) : oO ps = none := by
 unfold oO
 split
 ·exact absurd rfl h
 ·rfl
theorem sY {p : Prop} [Decidable p] {b : Bool} (h : ¬ p) : (decide p && b) = false := by rw [decide_eq_false h, Bool.false_and]
theorem OJ {p : Prop} [Decidable p] {b : Bool} (h : p) : (decide p && b) = b := by rw [decide_eq_true h, Bool.true_and]
theorem fB {d : PyData} {z : Str} (h : bw d z = true) : d = .str z := by
 cases d with
 | str w =>
  have : w = z := of_decide_eq_true (show decide (w = z) = true from h)
  rw [this]
 | _ => exact absurd h Bool.false_ne_true
theorem yx (own many : Int) (ps : List PyData) : dI own many (.tuple (.str "table" :: ps)) = (match oO ps with | some gs => (gs.map oY).all (btw own many) | none => false) := by
 unfold dI fC iC
 simp only [if_true]
 cases oO ps <;> rfl
theorem yD {own many : Int} {dw : PyData} {ps : List PyData} (h1 : bw dw "table" = false) (h2 : ps.all bV = false) : dI own many (.tuple (dw :: ps)) = false := by
 cases dw with
 | str w =>
  have : w ≠ "table" := fun z => by rw [z] at h1; exact absurd h1 (by decide +kernel)
  unfold dI fC
  simp only [if_neg this, h2, Bool.false_and]
 | _ => rfl
theorem jL (is : List Int) : (is.map PyData.int).map oY = is := by
 rw [List.map_map]
 exact (List.map_congr_left fun a _ => rfl).trans (List.map_id is)
theorem iU (is : List Int) : (is.map PyData.int).all bV = true := by
 rw [List.all_eq_true]
 intro d hd
 obtain ⟨i, _, rfl⟩ := List.mem_map.mp hd
 rfl
theorem m7 {own many : Int} {dw : PyData} {is : List Int} (h1 : bw dw "table" = false) : dI own many (.tuple (dw :: is.map PyData.int)) = (match dw with | .str w => cN w is && (jh w is).all (btw own many) | _ => false) := by
 cases dw with
 | str w =>
  have : w ≠ "table" := fun z => by rw [z] at h1; exact absurd h1 (by decide +kernel)
  unfold dI fC iC
  simp only [if_neg this, iU, jL, Bool.true_and]
 | _ => rfl
theorem Bh (own many : Int) (is : List Int) : dI own many (.tuple (.str "pick" :: is.map PyData.int)) = (match is with | [a] => decide (0 ≤ a) | _ => false) := by
 rw [m7 (by decide +kernel)]
 show (cN "pick" is && (jh "pick" is).all (btw own many)) = _
 rw [show jh "pick" is = [] from if_pos rfl, List.all_nil, Bool.and_true]
 match is with
 | [] => rfl
 | [a] => show (decide (("pick" : Str) = "pick") && decide (0 ≤ a)) = decide (0 ≤ a); rw [decide_eq_true rfl, Bool.true_and]
 | [a, b] => exact (by decide +kernel : (decide (("pick" : Str) = "is") || decide (("pick" : Str) = "below")) = false)
 | [a, b, c] => exact sY (p := ("pick" : Str) = "within") (b := decide (a ≤ b)) (by decide +kernel)
 | [a, b, c, d] => exact sY (p := ("pick" : Str) = "mask") (b := (decide (1 ≤ b) && decide (b ≤ 64)) && (decide (0 ≤ c) && decide (c < 2 ^ b.toNat))) (by decide +kernel)
 | a :: b :: c :: d :: e :: r => rfl
theorem fO {w : Str} {is : List Int} {t : Int} (h : w ≠ "pick") (hl : is.getLast? = some t) : jh w is = [t] := by
 unfold jh Ji
 rw [if_neg h, hl]
theorem vo {own many t : Int} {dw : PyData} {is : List Int} (h1 : bw dw "table" = false) (h2 : bw dw "pick" = false) (hl : is.getLast? = some t) (hb : btw own many t = false) : dI own many (.tuple (dw :: is.map PyData.int)) = false := by
 rw [m7 h1]
 cases dw with
 | str w =>
  have : w ≠ "pick" := fun z => by rw [z] at h2; exact absurd h2 (by decide +kernel)
  show (cN w is && (jh w is).all (btw own many)) = false
  rw [fO this hl, List.all_cons, hb, Bool.false_and, Bool.and_false]
 | _ => rfl
def jl (dw : PyData) (is : List Int) : Bool := match dw with
 | .str w => cN w is
 | _ => false
theorem Bj {own many t : Int} {dw : PyData} {is : List Int} (h1 : bw dw "table" = false) (h2 : bw dw "pick" = false) (hl : is.getLast? = some t) (hb : btw own many t = true) : dI own many (.tuple (dw :: is.map PyData.int)) = jl dw is := by
 rw [m7 h1]
 cases dw with
 | str w =>
  have : w ≠ "pick" := fun z => by rw [z] at h2; exact absurd h2 (by decide +kernel)
  show (cN w is && (jh w is).all (btw own many)) = cN w is
  rw [fO this hl, List.all_cons, hb, List.all_nil, Bool.true_and, Bool.and_true]
 | _ => rfl
theorem Fq (own many : Int) (dw : PyData) : dI own many (.tuple [dw]) = false := by
 cases dw with
 | str w =>
  unfold dI fC
  by_cases h : w = "table"
  ·simp only [if_pos h]; rfl
  ·simp only [if_neg h]; rfl
 | _ => rfl
theorem fY {w : Str} (h : w = "is" ∨ w = "below") (is : List Int) : cN w is = decide (is.length = 2) := by
 have h3 : decide (w = "pick") = false := decide_eq_false (by rcases h with rfl | rfl <;> decide +kernel)
 have h4 : decide (w = "within") = false := decide_eq_false (by rcases h with rfl | rfl <;> decide +kernel)
 have h5 : decide (w = "mask") = false := decide_eq_false (by rcases h with rfl | rfl <;> decide +kernel)
 match is with
 | [] => rfl
 | [a] => show (decide (w = "pick") && _) = _; rw [h3]; rfl
 | [a, b] =>
  show (decide (w = "is") || decide (w = "below")) = true
  rcases h with z | z
  ·rw [decide_eq_true z, Bool.true_or]
  ·rw [decide_eq_true z, Bool.or_true]
 | [a, b, c] => show (decide (w = "within") && _) = _; rw [h4]; rfl
 | [a, b, c, d] => show (decide (w = "mask") && _) = _; rw [h5]; rfl
 | a :: b :: c :: d :: e :: r => show false = decide (r.length + 5 = 2); exact (decide_eq_false (by omega)).symm
theorem jC (is : List Int) : cN "within" is = (match is with | [a, b, _] => decide (a ≤ b) | _ => false) := by
 match is with
 | [] => rfl
 | [a] => exact sY (p := ("within" : Str) = "pick") (b := decide (0 ≤ a)) (by decide +kernel)
 | [a, b] => exact (by decide +kernel : (decide (("within" : Str) = "is") || decide (("within" : Str) = "below")) = false)
 | [a, b, c] => show (decide (("within" : Str) = "within") && decide (a ≤ b)) = decide (a ≤ b); rw [decide_eq_true rfl, Bool.true_and]
 | [a, b, c, d] => exact sY (p := ("within" : Str) = "mask") (b := (decide (1 ≤ b) && decide (b ≤ 64)) && (decide (0 ≤ c) && decide (c < 2 ^ b.toNat))) (by decide +kernel)
 | a :: b :: c :: d :: e :: r => rfl
theorem mX (is : List Int) : cN "mask" is = (match is with | [_, wd, bits, _] => (decide (1 ≤ wd) && decide (wd ≤ 64)) && (decide (0 ≤ bits) && decide (bits < 2 ^ wd.toNat)) | _ => false) := by
 match is with
 | [] => rfl
 | [a] => exact sY (p := ("mask" : Str) = "pick") (b := decide (0 ≤ a)) (by decide +kernel)
 | [a, b] => exact (by decide +kernel : (decide (("mask" : Str) = "is") || decide (("mask" : Str) = "below")) = false)
 | [a, b, c] => exact sY (p := ("mask" : Str) = "within") (b := decide (a ≤ b)) (by decide +kernel)
 | [a, b, c, d] => exact OJ (p := ("mask" : Str) = "mask") (b := (decide (1 ≤ b) && decide (b ≤ 64)) && (decide (0 ≤ c) && decide (c < 2 ^ b.toNat))) rfl
 | a :: b :: c :: d :: e :: r => rfl
theorem lE {w : Str} (h1 : w ≠ "is") (h2 : w ≠ "below") (h3 : w ≠ "within") (h4 : w ≠ "mask") (h5 : w ≠ "pick") (is : List Int) : cN w is = false := by
 match is with
 | [] => rfl
 | [a] => exact sY h5
 | [a, b] => show (decide (w = "is") || decide (w = "below")) = _; rw [decide_eq_false h1, decide_eq_false h2]; rfl
 | [a, b, c] => exact sY h3
 | [a, b, c, d] => exact sY h4
 | a :: b :: c :: d :: e :: r => rfl
theorem gA {w z : Str} (h : bw (.str w) z = false) : w ≠ z := fun e => by
 rw [e] at h
 have : decide (z = z) = false := h
 simp at this
theorem Dh {x : V} {is : List Int} {t : Int} (h : is.getLast? = some t) : atI (x :: is.map V.int) (-1) = some (V.int t) := by
 have hp : 0 < is.length := by
  cases is with
  | nil => cases h
  | cons a b => simp
 rw [List.getLast?_eq_getElem?] at h
 unfold atI ixN
 rw [if_neg (by decide), if_pos (by rw [List.length_cons, List.length_map]; omega)]
 show (x :: is.map V.int)[_]? = _
 rw [show (-1 + ((x :: is.map V.int).length : Int)).toNat = (is.length - 1) + 1 by rw [List.length_cons, List.length_map]; omega, List.getElem?_cons_succ, List.getElem?_map, h]
 rfl
theorem zf {is : List Int} (h : is ≠ []) : ∃ t, is.getLast? = some t := by
 cases e : is.getLast? with
 | some t => exact ⟨t, rfl⟩
 | none => exact absurd (List.getLast?_eq_none_iff.mp e) h
theorem Oz (d : PyData) : ([("is" : Str), "below"].any (bw d)) = (bw d "is" || bw d "below") := by
 rw [List.any_cons, List.any_cons, List.any_nil, Bool.or_false]
theorem yq {dw : PyData} (h : (bw dw "is" || bw dw "below") = true) (is : List Int) : jl dw is = decide (is.length = 2) := by
 rcases Bool.or_eq_true _ _ ▸ h with z | z
 ·rw [fB z]; exact fY (.inl rfl) is
 ·rw [fB z]; exact fY (.inr rfl) is
theorem qQ {dw : PyData} {is : List Int} (h1 : (bw dw "is" || bw dw "below") = false) (h3 : bw dw "within" = false) (h4 : bw dw "mask" = false) (h5 : bw dw "pick" = false) : jl dw is = false := by
 rw [Bool.or_eq_false_iff] at h1
 cases dw with
 | str w => exact lE (gA h1.1) (gA h1.2) (gA h3) (gA h4) (gA h5) is
 | _ => rfl
theorem N5 {K : PySem.W.Frag} {a : Addr} {xs : List V} {g : TG} {tb : TS} {D : Ends} {σ : St} {H : Hp} {R : It → Hp → Prop} (hR : R = (fun J H1 => ∃ W : Nat → Nat → St → Hp → Prop, (∃ m, W 0 m σ H1) ∧ ∀ i m σ H, W i m σ H →
  (J.stop i H ∧ D.nx σ H) ∨ (J.go i H ∧ ∃ N : St → Hp → Prop, (∀ σ' H', N σ' H' → ∃ m', m' < m ∧ W (i + 1) m' σ' H') ∧ ∀ x H', J.yld i H x H' → g x σ H' fun σ2 H2 => tb { D with nx := N, ct := N, bk := D.nx } σ2 H2)))
  (Pv : Nat → St → Hp → Prop) (h0 : Pv 0 σ H) (hl : ∀ i σ H, Pv i σ H → H a = some (.lst xs))
  (hs : ∀ (i : Nat) x σ H p, xs[i]? = some x → Pv i σ H → H p = none → g (.ref p) σ (upd H p (.tup [.int (i : Nat), x])) fun σ2 H2 => tb { D with nx := Pv (i + 1), ct := Pv (i + 1), bk := D.nx } σ2 H2) (hd : ∀ σ H, Pv xs.length σ H → D.nx σ H) : R (Ite K a) H := by
 refine LQ hR xs.length Pv h0 (fun i σ H hi p => ?_) (fun σ H p => ?_) (fun i σ H x H3 hi p y => ?_) hd
 ·exact ⟨xs, _, SqL.of (hl i σ H p), List.getElem?_eq_getElem hi⟩
 ·exact ⟨xs, SqL.of (hl _ σ H p), List.getElem?_eq_none (Nat.le_refl _)⟩
 ·obtain ⟨q, x1, rfl, hq, rfl, hx⟩ := y
  exact hs i x1 σ H q (hx _ (SqL.of (hl i σ H p))) p hq
def mV (w : Str) : Int := if w = "is" then 3 else if w = "within" then 4 else if w = "below" then 3 else if w = "mask" then 5 else if w = "pick" then 2 else 0
theorem uZ (w : Str) : (w = "is" ∧ mV w = 3) ∨ (w = "within" ∧ mV w = 4) ∨ (w = "below" ∧ mV w = 3) ∨ (w = "mask" ∧ mV w = 5) ∨ (w = "pick" ∧ mV w = 2) ∨ (mV w = 0 ∧ w ≠ "is" ∧ w ≠ "below" ∧ w ≠ "within" ∧ w ≠ "mask" ∧ w ≠ "pick") := by
 unfold mV
 by_cases h1 : w = "is"
 ·exact .inl ⟨h1, if_pos h1⟩
 by_cases h2 : w = "within"
 ·exact .inr (.inl ⟨h2, by rw [if_neg h1, if_pos h2]⟩)
 by_cases h3 : w = "below"
 ·exact .inr (.inr (.inl ⟨h3, by rw [if_neg h1, if_neg h2, if_pos h3]⟩))
 by_cases h4 : w = "mask"
 ·exact .inr (.inr (.inr (.inl ⟨h4, by rw [if_neg h1, if_neg h2, if_neg h3, if_pos h4]⟩)))
 by_cases h5 : w = "pick"
 ·exact .inr (.inr (.inr (.inr (.inl ⟨h5, by rw [if_neg h1, if_neg h2, if_neg h3, if_neg h4, if_pos h5]⟩))))
 ·exact .inr (.inr (.inr (.inr (.inr ⟨by rw [if_neg h1, if_neg h2, if_neg h3, if_neg h4, if_neg h5], h1, h3, h2, h4, h5⟩))))
theorem tQ {w : Str} {is : List Int} (h : w ≠ "table") : fC (.tuple (.str w :: is.map PyData.int)) = cN w is := by
 unfold fC
 simp only [if_neg h, iU, jL, Bool.true_and]
theorem qR (ps : List PyData) : fC (.tuple (.str "table" :: ps)) = (oO ps).isSome := by
 unfold fC
 simp only [if_true]
theorem Same.none {H H' : Hp} (s : Same H H') {p : Addr} (h : H' p = none) : H p = none := by
 cases e : H p with
 | none => rfl
 | some o => rw [s _ _ e] at h; cases h
theorem Ab (n : Int) (gs : List PyData) : (oO [.int n, .tuple gs]).isSome = (!gs.isEmpty && gs.all bV) := by
 show (if (!gs.isEmpty && gs.all bV) = true then some gs else none).isSome = _
 cases (!gs.isEmpty && gs.all bV) <;> rfl
inductive cV where
 | ins (w : Str) (is : List Int)
 | tab (n : Int) (gs : List Int)
def dM : cV → PyData
 | .ins w is => .tuple (.str w :: is.map PyData.int)
 | .tab n gs => .tuple [.str "table", .int n, .tuple (gs.map PyData.int)]
def eO (many own : Int) : cV → Prop
 | .ins w is => w ≠ "table" ∧ cN w is = true ∧ (jh w is).all (btw own many) = true ∧ (∀ i ∈ is, i.natAbs ≤ 2 ^ 64) ∧ is.length ≤ 4 ∧ w.length ≤ 10
 | .tab n gs => gs ≠ [] ∧ gs.length ≤ 200 ∧ gs.all (btw own many) = true ∧ n.natAbs ≤ 1000
theorem pZ {k : Nat} (h : k ≤ 64) : (2 : Int) ^ k ≤ 2 ^ 64 := by
 have := Nat.pow_le_pow_right (n := 2) (by decide) h
 exact_mod_cast this
theorem pW {rs : List cV} {m : Int} {r : cV} (h : ∀ (j : Nat) r, rs[j]? = some r → eO m j r) (hr : eO m rs.length r) : ∀ (j : Nat) r', (rs ++ [r])[j]? = some r' → eO m j r' := fun j r' e => by
 rcases Nat.lt_or_ge j rs.length with z | z
 ·rw [List.getElem?_append_left z] at e
  exact h j r' e
 ·rw [List.getElem?_append_right z] at e
  cases hk : j - rs.length with
  | zero =>
   rw [hk] at e
   cases e
   rw [show j = rs.length by omega]
   exact hr
  | succ k => rw [hk] at e; cases e
theorem Jh {m o n t : Int} (h1 : n.natAbs ≤ 2 ^ 64) (h2 : t.natAbs ≤ 2 ^ 64) (h : btw o m t = true) : eO m o (.ins "is" [n, t]) ∧ eO m o (.ins "below" [n, t]) := by
 constructor <;> exact ⟨by decide +kernel, by rw [fY (by first | exact .inl rfl | exact .inr rfl)]; rfl, by rw [fO (by decide +kernel) (show [n, t].getLast? = some t from rfl)]; simp [h], by simp [h1, h2], by simp, by decide +kernel⟩
theorem yP {m o a b t : Int} (hab : a ≤ b) (h1 : a.natAbs ≤ 2 ^ 64) (h2 : b.natAbs ≤ 2 ^ 64) (h3 : t.natAbs ≤ 2 ^ 64) (h : btw o m t = true) : eO m o (.ins "within" [a, b, t]) :=
 ⟨by decide +kernel, by rw [jC]; exact decide_eq_true hab, by rw [fO (by decide +kernel) (show [a, b, t].getLast? = some t from rfl)]; simp [h], by simp [h1, h2, h3], by simp, by decide +kernel⟩
theorem Hi {m o a wd bits t : Int} (hw : 1 ≤ wd ∧ wd ≤ 64) (hb : 0 ≤ bits ∧ bits < 2 ^ wd.toNat) (h1 : a.natAbs ≤ 2 ^ 64) (h3 : t.natAbs ≤ 2 ^ 64) (h : btw o m t = true) : eO m o (.ins "mask" [a, wd, bits, t]) := by
 have p := pZ (k := wd.toNat) (by omega)
 refine ⟨by decide +kernel, ?_, by rw [fO (by decide +kernel) (show [a, wd, bits, t].getLast? = some t from rfl)]; simp [h], ?_, by simp, by decide +kernel⟩
 ·rw [mX]
  show ((decide (1 ≤ wd) && decide (wd ≤ 64)) && (decide (0 ≤ bits) && decide (bits < 2 ^ wd.toNat))) = true
  rw [decide_eq_true hw.1, decide_eq_true hw.2, decide_eq_true hb.1, decide_eq_true hb.2]
  rfl
 ·intro i hi
  simp only [List.mem_cons, List.not_mem_nil, or_false] at hi
  rcases hi with rfl | rfl | rfl | rfl <;> omega
theorem wX {m o l : Int} (h : 0 ≤ l) (h2 : l.natAbs ≤ 2 ^ 64) : eO m o (.ins "pick" [l]) :=
 ⟨by decide +kernel, by show (decide (("pick" : Str) = "pick") && decide (0 ≤ l)) = true; rw [decide_eq_true rfl, decide_eq_true h]; rfl, by rw [show jh "pick" [l] = [] from if_pos rfl]; rfl, by simp [h2], by simp, by decide +kernel⟩
theorem uL {o m r : Int} (h0 : 0 ≤ r) (h1 : r < m - o - 1) : btw o m (o + 1 + r) = true := by
 unfold btw
 rw [decide_eq_true (by omega), decide_eq_true (by omega)]
 rfl
mutual
def szB : PyData → Bool
 | .none => true
 | .bool _ => true
 | .int i => decide (i.natAbs ≤ 10 ^ 20)
 | .str x => decide (x.length ≤ 30) && x.cps.toList.all fun c => decide (c < 16 ^ 8)
 | .list ds => decide (ds.length ≤ 210) && JN ds
 | .tuple ds => decide (ds.length ≤ 210) && JN ds
 | .dict _ => false
def JN : List PyData → Bool
 | [] => true
 | d :: ds => szB d && JN ds
end
structure Od (d : PyData) : Prop where
 sz : szD 2 d
 nd : nodes d ≤ 300
 dp : d.depth ≤ 90
theorem Ei {w : Str} {is : List Int} (h : cN w is = true) : w = "is" ∨ w = "within" ∨ w = "below" ∨ w = "mask" ∨ w = "pick" := by
 rcases uZ w with ⟨e, _⟩ | ⟨e, _⟩ | ⟨e, _⟩ | ⟨e, _⟩ | ⟨e, _⟩ | ⟨_, h1, h2, h3, h4, h5⟩
 ·exact .inl e
 ·exact .inr (.inl e)
 ·exact .inr (.inr (.inl e))
 ·exact .inr (.inr (.inr (.inl e)))
 ·exact .inr (.inr (.inr (.inr e)))
 ·rw [lE h1 h2 h3 h4 h5] at h
  cases h
theorem Ft {many own : Int} {r : cV} (h : eO many own r) : fC (dM r) = true ∧ (iC (dM r)).all (btw own many) = true := by
 cases r with
 | ins w is =>
  obtain ⟨hw, hs, hg, _⟩ := h
  refine ⟨by rw [show dM (.ins w is) = .tuple (.str w :: is.map PyData.int) from rfl, tQ hw]; exact hs, ?_⟩
  show (iC (.tuple (.str w :: is.map PyData.int))).all (btw own many) = true
  unfold iC
  simp only [if_neg hw, jL]
  exact hg
 | tab n gs =>
  obtain ⟨hn, _, hg, _⟩ := h
  have he : (gs.map PyData.int).isEmpty = false := by
   cases gs with
   | nil => exact absurd rfl hn
   | cons a b => rfl
  refine ⟨?_, ?_⟩
  ·show fC (.tuple (.str "table" :: [.int n, .tuple (gs.map PyData.int)])) = true
   rw [qR, Ab, he, iU]
   rfl
  ·show (iC (.tuple (.str "table" :: [.int n, .tuple (gs.map PyData.int)]))).all (btw own many) = true
   unfold iC oO
   simp only [if_true, he, iU, Bool.not_false, Bool.and_self, Option.getD_some, jL]
   exact hg
structure Sm5 (d : PyData) : Prop where
 sz : szD 0 d
 nd : nodes d ≤ 5
 dp : d.depth ≤ 2
theorem mG {prog : Program} {w : World} {A : Around} {E : Value → Shared → Prop} {s : Shared} {z TI TO i1 i2 l1 l2 : Addr} {k1 k2 : Nat} {xs ys : Array Value} {x y a b : Value} {Q : Value → Shared → Prop} (D : ZipApart z TI TO i1 i2 l1 l2) (hz : IsZip s.heap z TI TO Value.none) (hTI : IsPair s.heap TI (Value.ref i1) (Value.ref i2)) (hTO : IsPair s.heap TO a b)
  (h1 : s.heap.IsTupleIter i1 l1 k1) (h2 : s.heap.IsTupleIter i2 l2 k2) (hl1 : s.heap.IsTuple l1 xs) (hl2 : s.heap.IsTuple l2 ys) (hx : xs[k1]? = some x) (hy : ys[k2]? = some y)
  (hQ : ∀ h' : Heap, IsZip h' z TI TO (rawInt s.heap.objs.size) → IsPair h' TO x y → h'.IsTupleIter i1 l1 (k1 + 1) → h'.IsTupleIter i2 l2 (k2 + 1) → IsPair h' s.heap.objs.size x y → h'.objs.size = s.heap.objs.size + 1 → (∀ c o, c ≠ z → c ≠ TO → c ≠ i1 → c ≠ i2 → s.heap.get? c = some o → h'.get? c = some o) → Q (Value.ref s.heap.objs.size) { s with heap := h' }) :
  wpAny (model prog w) A (Builtin.«zip.__next__» { pos := [Value.ref z] }) (fun fin s' => ∃ v, fin = Fin.done (Flow.ret v) ∧ Q v s') E s := by
 show wpAny _ _ (field (Value.ref z) 2 >>= _) _ _ _
 refine wpAny_bind (wpAny_field hz rfl rfl ?_)
 show wpAny _ _ (field (Value.ref z) 3 >>= _) _ _ _
 refine wpAny_bind (wpAny_field hz rfl rfl ?_)
 refine wpAny_bind (wpAny_seqItems hTI rfl ?_)
 show wpAny _ _ (Builtin.SmallTypes.ownedTupleIsFree (Value.ref z) >>= _) _ _ _
 refine wpAny_bind ?_
 show wpAny _ _ (field (Value.ref z) 0 >>= _) _ _ _
 refine wpAny_bind (wpAny_field hz rfl rfl (wpAny_pure ?_))
 show wpAny _ _ (rule _ >>= _) _ _ _
 refine wpAny_bind (wpAny_rule (wpAny_bind (wpAny_field hz rfl rfl ?_)))
 show wpAny _ _ (setField (Value.ref z) 0 Value.ellipsis >>= _) _ _ _
 refine wpAny_bind (wpAny_setField_rec hz (Nat.lt_of_sub_pos (Nat.zero_lt_succ 4)) fun h₁ hz₁ hs₁ => ?_)
 have old1 : ∀ c o, c ≠ z → s.heap.get? c = some o → h₁.get? c = some o := fun c o hc e => (hs₁.2 c hc).trans e
 have h1a : h₁.IsTupleIter i1 l1 k1 := h1.at fun o e => old1 i1 o D.i1z e
 have h2a : h₁.IsTupleIter i2 l2 k2 := h2.at fun o e => old1 i2 o D.i2z e
 have tup : ∀ {h : Heap} {l : Addr} {vs : Array Value}, s.heap.IsTuple l vs → (∀ o, s.heap.get? l = some o → h.get? l = some o) → h.IsTuple l vs := fun ⟨o, e, r⟩ k => ⟨o, k o e, r⟩
 refine wpAny_bind ?_
 show wpAny _ _ (forIn [(Value.ref i1, 0), (Value.ref i2, 1)] (none, ()) _) _ _ _
 rw [List.forIn_cons]
 refine wpAny_bind ?_
 show wpAny _ _ ((Sem.onRaise (Builtin.SmallTypes.nextOf (Value.ref i1) >>= fun v => pure (some v)) (fun _ => setField (Value.ref z) 0 Value.none)) >>= _) _ _ _
 refine wpAny_bind (wpAny_onRaise (wpAny_bind (cM (s := { s with heap := h₁ }) h1a (tup hl1 fun o e => old1 l1 o D.l1z e) hx fun h₂ h1b sb₂ => wpAny_pure ?_)))
 have old2 : ∀ c o, c ≠ z → c ≠ i1 → s.heap.get? c = some o → h₂.get? c = some o := fun c o hc hc1 e => (sb₂.2 c hc1).trans (old1 c o hc e)
 have hTO2 : IsPair h₂ TO a b := old2 TO _ D.TOz D.TOi1 hTO
 show wpAny _ _ (seqItems? (Value.ref TO) >>= _) _ _ _
 refine wpAny_bind (wpAny_seqItems (s := { s with heap := h₂ }) hTO2 rfl ?_)
 show wpAny _ _ (updateSeq TO _ >>= _) _ _ _
 refine wpAny_bind (wpAny_updateSeq_pair (s := { s with heap := h₂ }) hTO2 fun h₃ g₃ sb₃ => ?_)
 refine wpAny_bind (wpAny_letGo (wpAny_pure ?_))
 show wpAny _ _ (forIn [(Value.ref i2, 1)] (none, ()) _) _ _ _
 rw [List.forIn_cons]
 refine wpAny_bind ?_
 have old3 : ∀ c o, c ≠ z → c ≠ i1 → c ≠ TO → s.heap.get? c = some o → h₃.get? c = some o := fun c o hc hc1 hc2 e => (sb₃.2 c hc2).trans (old2 c o hc hc1 e)
 have h2c : h₃.IsTupleIter i2 l2 k2 := h2.at fun o e => old3 i2 o D.i2z (Ne.symm D.i12) (Ne.symm D.TOi2) e
 have g₃' : IsPair h₃ TO x b := g₃
 show wpAny _ _ ((Sem.onRaise (Builtin.SmallTypes.nextOf (Value.ref i2) >>= fun v => pure (some v)) (fun _ => setField (Value.ref z) 0 Value.none)) >>= _) _ _ _
 refine wpAny_bind (wpAny_onRaise (wpAny_bind (cM (s := { s with heap := h₃ }) h2c (tup hl2 fun o e => old3 l2 o D.l2z D.l2i1 D.l2TO e) hy fun h₄ h2d sb₄ => wpAny_pure ?_)))
 have hTO4 : IsPair h₄ TO x b := (sb₄.2 TO D.TOi2).trans g₃'
 show wpAny _ _ (seqItems? (Value.ref TO) >>= _) _ _ _
 refine wpAny_bind (wpAny_seqItems (s := { s with heap := h₄ }) hTO4 rfl ?_)
 show wpAny _ _ (updateSeq TO _ >>= _) _ _ _
 refine wpAny_bind (wpAny_updateSeq_pair (s := { s with heap := h₄ }) hTO4 fun h₅ g₅ sb₅ => ?_)
 refine wpAny_bind (wpAny_letGo (wpAny_pure ?_))
 have g₅' : IsPair h₅ TO x y := g₅
 show wpAny _ _ (forIn [] (none, ()) _) _ _ _
 rw [List.forIn_nil]
 refine wpAny_pure ?_
 show wpAny _ _ (seqItems? (Value.ref TO) >>= _) _ _ _
 refine wpAny_bind (wpAny_seqItems (s := { s with heap := h₅ }) g₅' rfl ?_)
 show wpAny _ _ (newTuple [x, y] >>= _) _ _ _
 refine wpAny_bind (wpAny_newTuple ?_ (by show 2 ≤ sizeLine; decide))
 have sz : h₅.objs.size = s.heap.objs.size := by
  rw [sb₅.1, sb₄.1, sb₃.1, sb₂.1, hs₁.1]
 have z5 : h₅.get? z = _ := (sb₅.2 z (Ne.symm D.TOz)).trans ((sb₄.2 z (Ne.symm D.i2z)).trans ((sb₃.2 z (Ne.symm D.TOz)).trans ((sb₂.2 z (Ne.symm D.i1z)).trans hz₁)))
 have z6 : (h₅.push { cls := Value.type "tuple", data := Data.seq #[x, y] }).get? z = _ := Heap.get?_push_of_some _ z5
 refine wpAny_bind ?_
 show wpAny _ _ (setField (Value.ref z) 0 (rawInt h₅.objs.size) >>= fun _ => setField (Value.ref z) 1 (Value.bool false)) _ _ _
 refine wpAny_bind (wpAny_setField_rec (s := { s with heap := h₅.push { cls := Value.type "tuple", data := Data.seq #[x, y] } }) z6 (Nat.lt_of_sub_pos (Nat.zero_lt_succ 4)) fun h₇ hz₇ hs₇ => ?_)
 refine wpAny_setField_rec (s := { s with heap := h₇ }) hz₇ (Nat.lt_of_sub_pos (Nat.zero_lt_succ 3)) fun h₈ hz₈ hs₈ => ?_
 have nzs : s.heap.objs.size ≠ z := fun q => by
  have := Heap.lt_size hz
  rw [← q] at this
  exact Nat.lt_irrefl _ this
 have old6 : ∀ c o, h₅.get? c = some o → (h₅.push { cls := Value.type "tuple", data := Data.seq #[x, y] }).get? c = some o := fun c o e => Heap.get?_push_of_some _ e
 have old8 : ∀ c o, c ≠ z → h₅.get? c = some o → h₈.get? c = some o := fun c o hc e => (hs₈.2 c hc).trans ((hs₇.2 c hc).trans (old6 c o e))
 have new8 : h₈.get? s.heap.objs.size = some { cls := Value.type "tuple", data := Data.seq #[x, y] } := by
  refine (hs₈.2 _ nzs).trans ((hs₇.2 _ nzs).trans ?_)
  show (h₅.push { cls := Value.type "tuple", data := Data.seq #[x, y] }).get? s.heap.objs.size = _
  rw [← sz]
  exact Heap.get?_push_size _ rfl
 refine wpAny_pure ⟨_, rfl, ?_⟩
 rw [show (({ s with heap := h₅ } : Shared).heap.objs.size) = s.heap.objs.size from sz]
 refine hQ h₈ ?_ ?_ ?_ ?_ new8 ?_ ?_
 ·rw [sz] at hz₈
  exact hz₈
 ·exact old8 TO _ D.TOz g₅'
 ·refine h1b.at fun o e => old8 i1 o D.i1z ?_
  exact (sb₅.2 i1 (Ne.symm D.TOi1)).trans ((sb₄.2 i1 D.i12).trans ((sb₃.2 i1 (Ne.symm D.TOi1)).trans e))
 ·refine h2d.at fun o e => old8 i2 o D.i2z ?_
  exact (sb₅.2 i2 (Ne.symm D.TOi2)).trans e
 ·rw [hs₈.1, hs₇.1]
  show (h₅.push { cls := Value.type "tuple", data := Data.seq #[x, y] }).objs.size = _
  rw [Heap.size_push, sz]
 ·intro c o hc1 hc2 hc3 hc4 e
  exact old8 c o hc1 ((sb₅.2 c hc2).trans ((sb₄.2 c hc4).trans (old3 c o hc1 hc3 hc2 e)))
theorem gD {prog : Program} {w : World} {A : Around} {E : Value → Shared → Prop} {s : Shared} {z TI TO i1 i2 l1 l2 : Addr} {k1 k2 : Nat} {xs ys : Array Value} {x y a b : Value} {Q : Option Value → Shared → Prop} (D : ZipApart z TI TO i1 i2 l1 l2) (hz : IsZip s.heap z TI TO Value.none) (hTI : IsPair s.heap TI (Value.ref i1) (Value.ref i2)) (hTO : IsPair s.heap TO a b)
  (h1 : s.heap.IsTupleIter i1 l1 k1) (h2 : s.heap.IsTupleIter i2 l2 k2) (hl1 : s.heap.IsTuple l1 xs) (hl2 : s.heap.IsTuple l2 ys) (hx : xs[k1]? = some x) (hy : ys[k2]? = some y)
  (hQ : ∀ h' : Heap, IsZip h' z TI TO (rawInt s.heap.objs.size) → IsPair h' TO x y → h'.IsTupleIter i1 l1 (k1 + 1) → h'.IsTupleIter i2 l2 (k2 + 1) → IsPair h' s.heap.objs.size x y → h'.objs.size = s.heap.objs.size + 1 → (∀ c o, c ≠ z → c ≠ TO → c ≠ i1 → c ≠ i2 → s.heap.get? c = some o → h'.get? c = some o) → Q (some (Value.ref s.heap.objs.size)) { s with heap := h' }) :
  wpAny (model prog w) A (pyNext (Value.ref z)) Q E s := by
 have hT : ∃ o, s.heap.get? z = some o ∧ o.cls = Value.type "zip" := ⟨_, hz, rfl⟩
 exact wpAny_bind (wpAny_attempt (wpAny_callSpecial?_slot hT F.slot_zip_next (wpAny_call_entry F.slot_zip_next hT F.entry_zip_next
  (mG D hz hTI hTO h1 h2 hl1 hl2 hx hy fun h' a1 a2 a3 a4 a5 a6 a7 => wpAny_pure (hQ h' a1 a2 a3 a4 a5 a6 a7)) (F.args_zip_next_1 (Value.ref z)))))
theorem oN {prog : Program} {w : World} {A : Around} {E : Value → Shared → Prop} {s : Shared} {z TI TO i1 i2 l1 l2 : Addr} {k1 k2 : Nat} {xs ys : Array Value} {a b : Value} {Q : PySem.Fin → Shared → Prop} (hh : A.handled = none) (D : ZipApart z TI TO i1 i2 l1 l2) (hz : IsZip s.heap z TI TO Value.none) (hTI : IsPair s.heap TI (Value.ref i1) (Value.ref i2)) (hTO : IsPair s.heap TO a b)
  (h1 : s.heap.IsTupleIter i1 l1 k1) (h2 : s.heap.IsTupleIter i2 l2 k2) (hl1 : s.heap.IsTuple l1 xs) (hl2 : s.heap.IsTuple l2 ys) (hend : xs[k1]? = none ∨ ys[k2]? = none)
  (hE : ∀ (h' : Heap) (e : Addr), (∀ c o, c ≠ z → c ≠ TO → c ≠ i1 → c ≠ i2 → s.heap.get? c = some o → h'.get? c = some o) → (∃ o, h'.get? e = some o ∧ o.cls = Value.type "StopIteration") → E (Value.ref e) { s with heap := h' }) :
  wpAny (model prog w) A (Builtin.«zip.__next__» { pos := [Value.ref z] }) Q E s := by
 show wpAny _ _ (field (Value.ref z) 2 >>= _) _ _ _
 refine wpAny_bind (wpAny_field hz rfl rfl ?_)
 show wpAny _ _ (field (Value.ref z) 3 >>= _) _ _ _
 refine wpAny_bind (wpAny_field hz rfl rfl ?_)
 refine wpAny_bind (wpAny_seqItems hTI rfl ?_)
 show wpAny _ _ (Builtin.SmallTypes.ownedTupleIsFree (Value.ref z) >>= _) _ _ _
 refine wpAny_bind ?_
 show wpAny _ _ (field (Value.ref z) 0 >>= _) _ _ _
 refine wpAny_bind (wpAny_field hz rfl rfl (wpAny_pure ?_))
 show wpAny _ _ (rule _ >>= _) _ _ _
 refine wpAny_bind (wpAny_rule (wpAny_bind (wpAny_field hz rfl rfl ?_)))
 show wpAny _ _ (setField (Value.ref z) 0 Value.ellipsis >>= _) _ _ _
 refine wpAny_bind (wpAny_setField_rec hz (Nat.lt_of_sub_pos (Nat.zero_lt_succ 4)) fun h₁ hz₁ hs₁ => ?_)
 have old1 : ∀ c o, c ≠ z → s.heap.get? c = some o → h₁.get? c = some o := fun c o hc e => (hs₁.2 c hc).trans e
 have h1a : h₁.IsTupleIter i1 l1 k1 := h1.at fun o e => old1 i1 o D.i1z e
 have tup : ∀ {h : Heap} {l : Addr} {vs : Array Value}, s.heap.IsTuple l vs → (∀ o, s.heap.get? l = some o → h.get? l = some o) → h.IsTuple l vs := fun ⟨o, e, r⟩ k => ⟨o, k o e, r⟩
 have out : ∀ {h : Heap} {e : Addr} {vs : Array Value}, h.get? z = some { cls := Value.type "zip", data := Data.fields vs } → 0 < vs.size → (∀ c o, c ≠ z → c ≠ TO → c ≠ i1 → c ≠ i2 → s.heap.get? c = some o → h.get? c = some o) → (∃ o, h.get? e = some o ∧ o.cls = Value.type "StopIteration") →
   wpAny (model prog w) A (setField (Value.ref z) 0 Value.none) (fun _ s'' => E (Value.ref e) s'') E { s with heap := h } := fun {h e vs} ez hv hk he => by
  refine wpAny_setField_rec (s := { s with heap := h }) ez hv fun h' _ hs => hE h' e (fun c o c1 c2 c3 c4 g => (hs.2 c c1).trans (hk c o c1 c2 c3 c4 g)) ?_
  obtain ⟨o, ho, hc⟩ := he
  refine ⟨o, (hs.2 e fun q => ?_).trans ho, hc⟩
  rw [q, ez] at ho
  cases ho
  injection hc with hc
  exact absurd hc (by decide)
 refine wpAny_bind ?_
 show wpAny _ _ (forIn [(Value.ref i1, 0), (Value.ref i2, 1)] (none, ()) _) _ _ _
 rw [List.forIn_cons]
 refine wpAny_bind ?_
 show wpAny _ _ ((Sem.onRaise (Builtin.SmallTypes.nextOf (Value.ref i1) >>= fun v => pure (some v)) (fun _ => setField (Value.ref z) 0 Value.none)) >>= _) _ _ _
 cases hx : xs[k1]? with
 | none =>
  refine wpAny_bind (wpAny_onRaise (wpAny_bind (dW (s := { s with heap := h₁ }) hh h1a (tup hl1 fun o e => old1 l1 o D.l1z e) hx fun h₂ e ext he => ?_)))
  exact out (h := h₂) (ext z _ (Ne.symm D.i1z) hz₁) (Nat.lt_of_sub_pos (Nat.zero_lt_succ 4)) (fun c o c1 c2 c3 c4 g => ext c o c3 (old1 c o c1 g)) he
 | some x =>
  have hy : ys[k2]? = none := by
   rcases hend with q | q
   ·rw [hx] at q; cases q
   ·exact q
  refine wpAny_bind (wpAny_onRaise (wpAny_bind (cM (s := { s with heap := h₁ }) h1a (tup hl1 fun o e => old1 l1 o D.l1z e) hx fun h₂ h1b sb₂ => wpAny_pure ?_)))
  have old2 : ∀ c o, c ≠ z → c ≠ i1 → s.heap.get? c = some o → h₂.get? c = some o := fun c o hc hc1 e => (sb₂.2 c hc1).trans (old1 c o hc e)
  have hTO2 : IsPair h₂ TO a b := old2 TO _ D.TOz D.TOi1 hTO
  show wpAny _ _ (seqItems? (Value.ref TO) >>= _) _ _ _
  refine wpAny_bind (wpAny_seqItems (s := { s with heap := h₂ }) hTO2 rfl ?_)
  show wpAny _ _ (updateSeq TO _ >>= _) _ _ _
  refine wpAny_bind (wpAny_updateSeq_pair (s := { s with heap := h₂ }) hTO2 fun h₃ g₃ sb₃ => ?_)
  refine wpAny_bind (wpAny_letGo (wpAny_pure ?_))
  show wpAny _ _ (forIn [(Value.ref i2, 1)] (none, ()) _) _ _ _
  rw [List.forIn_cons]
  refine wpAny_bind ?_
  have old3 : ∀ c o, c ≠ z → c ≠ i1 → c ≠ TO → s.heap.get? c = some o → h₃.get? c = some o := fun c o hc hc1 hc2 e => (sb₃.2 c hc2).trans (old2 c o hc hc1 e)
  have h2c : h₃.IsTupleIter i2 l2 k2 := h2.at fun o e => old3 i2 o D.i2z (Ne.symm D.i12) (Ne.symm D.TOi2) e
  have z3 : h₃.get? z = _ := (sb₃.2 z (Ne.symm D.TOz)).trans ((sb₂.2 z (Ne.symm D.i1z)).trans hz₁)
  show wpAny _ _ ((Sem.onRaise (Builtin.SmallTypes.nextOf (Value.ref i2) >>= fun v => pure (some v)) (fun _ => setField (Value.ref z) 0 Value.none)) >>= _) _ _ _
  refine wpAny_bind (wpAny_onRaise (wpAny_bind (dW (s := { s with heap := h₃ }) hh h2c (tup hl2 fun o e => old3 l2 o D.l2z D.l2i1 D.l2TO e) hy fun h₄ e ext he => ?_)))
  exact out (h := h₄) (ext z _ (Ne.symm D.i2z) z3) (Nat.lt_of_sub_pos (Nat.zero_lt_succ 4)) (fun c o c1 c2 c3 c4 g => ext c o c4 (old3 c o c1 c3 c2 g)) he
theorem gQ {prog : Program} {w : World} {A : Around} {E : Value → Shared → Prop} {s : Shared} {z TI TO i1 i2 l1 l2 : Addr} {k1 k2 : Nat} {xs ys : Array Value} {a b : Value} {Q : Option Value → Shared → Prop} (hh : A.handled = none) (D : ZipApart z TI TO i1 i2 l1 l2) (hz : IsZip s.heap z TI TO Value.none) (hTI : IsPair s.heap TI (Value.ref i1) (Value.ref i2)) (hTO : IsPair s.heap TO a b)
  (h1 : s.heap.IsTupleIter i1 l1 k1) (h2 : s.heap.IsTupleIter i2 l2 k2) (hl1 : s.heap.IsTuple l1 xs) (hl2 : s.heap.IsTuple l2 ys) (hend : xs[k1]? = none ∨ ys[k2]? = none)
  (hQ : ∀ h' : Heap, (∀ c o, c ≠ z → c ≠ TO → c ≠ i1 → c ≠ i2 → s.heap.get? c = some o → h'.get? c = some o) → Q none { s with heap := h' }) : wpAny (model prog w) A (pyNext (Value.ref z)) Q E s := by
 have hT : ∃ o, s.heap.get? z = some o ∧ o.cls = Value.type "zip" := ⟨_, hz, rfl⟩
 exact wpAny_bind (wpAny_attempt (wpAny_callSpecial?_slot hT F.slot_zip_next (wpAny_call_entry F.slot_zip_next hT F.entry_zip_next
  (oN hh D hz hTI hTO h1 h2 hl1 hl2 hend fun h' e hk he => by
   obtain ⟨o, ho, hc⟩ := he
   exact wpAny_bind (wpAny_isInstance ⟨o, ho, hc⟩ isSubtype_stop (wpAny_pure (hQ h' hk)))) (F.args_zip_next_1 (Value.ref z)))))
def tz1 (h : Heap) (l1 : Addr) : Heap := h.push { cls := Value.type "tuple_iterator", data := Data.fields #[Value.ref l1, Value.int 0 0] }
def tz2 (h : Heap) (l1 l2 : Addr) : Heap := (tz1 h l1).push { cls := Value.type "tuple_iterator", data := Data.fields #[Value.ref l2, Value.int 0 0] }
def tz3 (h : Heap) (l1 l2 : Addr) : Heap := (tz2 h l1 l2).push { cls := Value.type "tuple", data := Data.seq #[Value.ref h.objs.size, Value.ref (tz1 h l1).objs.size] }
def tz4 (h : Heap) (l1 l2 : Addr) : Heap := (tz3 h l1 l2).push { cls := Value.type "tuple", data := Data.seq #[Value.none, Value.none] }
def tz5 (h : Heap) (l1 l2 : Addr) : Heap := (tz4 h l1 l2).push { cls := Value.type "zip", data := Data.fields #[Value.none, Value.bool false, Value.bool false, Value.ref (tz2 h l1 l2).objs.size, Value.ref (tz3 h l1 l2).objs.size] }
theorem zU (l1 l2 : Addr) (xs ys : Array Value) : Meets (Builtin.«zip.__new__» { pos := [Value.type "zip", Value.ref l1, Value.ref l2] }) fun _ R s =>
  s.heap.IsTuple l1 xs ∧ s.heap.IsTuple l2 ys ∧ R (.ok (.ret (.ref (tz4 s.heap l1 l2).objs.size))) { s with heap := tz5 s.heap l1 l2 } := by
 refine Meets.of_wp fun prog w A R s h => ?_
 obtain ⟨ht1, ht2, hR⟩ := h
 unfold Builtin.«zip.__new__» Builtin.SmallTypes.newClass
 refine wpAny_bind (wpAny_bind (wpAny_pure (wpAny_ite_false rfl (wpAny_bind (wpAny_of_eq sub_zip (wpAny_ite_false rfl (wpAny_pure ?_)))))))
 show wpAny _ _ (Builtin.SmallTypes.iterAll [Value.ref l1, Value.ref l2] >>= _) _ _ _
 refine wpAny_bind ?_
 unfold Builtin.SmallTypes.iterAll
 refine wpAny_bind ?_
 rw [List.forIn_cons]
 refine wpAny_bind (wpAny_bind (wpAny_holding (wpAny_pyIter_tuple ht1 (wpAny_pure ?_))))
 show wpAny _ _ (forIn [Value.ref l2] #[Value.ref s.heap.objs.size] _) _ _ _
 rw [List.forIn_cons]
 have ht2' : (tz1 s.heap l1).IsTuple l2 ys := by
  obtain ⟨o, e, r⟩ := ht2
  exact ⟨o, Heap.get?_push_of_some _ e, r⟩
 refine wpAny_bind (wpAny_bind (wpAny_holding (wpAny_pyIter_tuple (s := { s with heap := tz1 s.heap l1 }) ht2' (wpAny_pure ?_))))
 show wpAny _ _ (forIn [] #[Value.ref s.heap.objs.size, Value.ref (tz1 s.heap l1).objs.size] _) _ _ _
 rw [List.forIn_nil]
 refine wpAny_pure (wpAny_pure ?_)
 show wpAny _ _ (newTuple [Value.ref s.heap.objs.size, Value.ref (tz1 s.heap l1).objs.size] >>= _) _ _ { s with heap := tz2 s.heap l1 l2 }
 refine wpAny_bind (wpAny_newTuple ?_ (by show 2 ≤ sizeLine; decide))
 show wpAny _ _ (newTuple [Value.none, Value.none] >>= _) _ _ { s with heap := tz3 s.heap l1 l2 }
 refine wpAny_bind (wpAny_newTuple ?_ (by show 2 ≤ sizeLine; decide))
 show wpAny _ _ (newObj (.type "zip") (.fields #[.none, .bool false, .bool false, .ref (tz2 s.heap l1 l2).objs.size, .ref (tz3 s.heap l1 l2).objs.size]) >>= fun r => ret r) _ _ { s with heap := tz4 s.heap l1 l2 }
 refine wpAny_bind (wpAny_newObj_type ?_)
 exact wpAny_pure ⟨_, rfl, hR⟩
theorem uJ {prog : Program} {w : World} {A : Around} {E : Value → Shared → Prop} {s : Shared} {l1 l2 : Addr} {xs ys : Array Value} {Q : Value → Shared → Prop} (hl1 : s.heap.IsTuple l1 xs) (hl2 : s.heap.IsTuple l2 ys)
  (h : ∀ h' : Heap, IsZip h' (s.heap.objs.size + 4) (s.heap.objs.size + 2) (s.heap.objs.size + 3) Value.none → IsPair h' (s.heap.objs.size + 2) (Value.ref s.heap.objs.size) (Value.ref (s.heap.objs.size + 1)) → IsPair h' (s.heap.objs.size + 3) Value.none Value.none → h'.IsTupleIter s.heap.objs.size l1 0 → h'.IsTupleIter (s.heap.objs.size + 1) l2 0 →
   h'.objs.size = s.heap.objs.size + 5 → (∀ c o, s.heap.get? c = some o → h'.get? c = some o) → Q (Value.ref (s.heap.objs.size + 4)) { s with heap := h' }) : wpAny (model prog w) A (call (Value.type "zip") [Value.ref l1, Value.ref l2]) Q E s := by
 refine callType_new F.called_zip (by decide) (F.typeCall_zip_2 _ _) (F.newCall_zip_2 _ _) (fun obj => F.args_object_init_3 obj _ _) F.entry_zip_new (zU l1 l2 xs ys) ⟨hl1, hl2, ?_⟩
 have z1 : (tz1 s.heap l1).objs.size = s.heap.objs.size + 1 := Heap.size_push ..
 have z2 : (tz2 s.heap l1 l2).objs.size = s.heap.objs.size + 2 := (Heap.size_push ..).trans (by rw [z1])
 have z3 : (tz3 s.heap l1 l2).objs.size = s.heap.objs.size + 3 := (Heap.size_push ..).trans (by rw [z2])
 have z4 : (tz4 s.heap l1 l2).objs.size = s.heap.objs.size + 4 := (Heap.size_push ..).trans (by rw [z3])
 have z5 : (tz5 s.heap l1 l2).objs.size = s.heap.objs.size + 5 := (Heap.size_push ..).trans (by rw [z4])
 have g5 : (tz5 s.heap l1 l2).get? (tz4 s.heap l1 l2).objs.size = _ := Heap.get?_push_size _ rfl
 have g4 : (tz5 s.heap l1 l2).get? (tz3 s.heap l1 l2).objs.size = _ := Heap.get?_push_of_some _ (Heap.get?_push_size _ rfl)
 have g3 : (tz5 s.heap l1 l2).get? (tz2 s.heap l1 l2).objs.size = _ := Heap.get?_push_of_some _ (Heap.get?_push_of_some _ (Heap.get?_push_size _ rfl))
 have g2 : (tz5 s.heap l1 l2).get? (tz1 s.heap l1).objs.size = _ := Heap.get?_push_of_some _ (Heap.get?_push_of_some _ (Heap.get?_push_of_some _ (Heap.get?_push_size _ rfl)))
 have g1 : (tz5 s.heap l1 l2).get? s.heap.objs.size = _ := Heap.get?_push_of_some _ (Heap.get?_push_of_some _ (Heap.get?_push_of_some _ (Heap.get?_push_of_some _ (Heap.get?_push_size _ rfl))))
 have hk : ∀ c o, s.heap.get? c = some o → (tz5 s.heap l1 l2).get? c = some o := fun c o e => Heap.get?_push_of_some _ (Heap.get?_push_of_some _ (Heap.get?_push_of_some _ (Heap.get?_push_of_some _ (Heap.get?_push_of_some _ e))))
 rw [z4, z2, z3] at g5
 rw [z3] at g4
 rw [z2, z1] at g3
 rw [z1] at g2
 rw [z4]
 generalize tz5 s.heap l1 l2 = h' at z5 g5 g4 g3 g2 g1 hk
 exact ⟨⟨_, g5, rfl⟩, h h' g5 g3 g4 ⟨_, g1, rfl, rfl⟩ ⟨_, g2, rfl, rfl⟩ z5 hk⟩
def Itu (K : PySem.W.Frag) (a b : Addr) : It :=
 ⟨fun i H => ∃ xs ys x y, SqT K H a xs ∧ SqT K H b ys ∧ xs[i]? = some x ∧ ys[i]? = some y,
  fun i H v H' => ∃ p x y, v = .ref p ∧ H p = none ∧ H' = upd H p (.tup [x, y]) ∧ (∀ xs, SqT K H a xs → xs[i]? = some x) ∧ ∀ ys, SqT K H b ys → ys[i]? = some y,
  fun i H => ∃ xs ys, SqT K H a xs ∧ SqT K H b ys ∧ (xs[i]? = none ∨ ys[i]? = none)⟩
theorem yc {P : Program} {w : World} {K : PySem.W.Frag} {es : List Expr} {kk : Nat} {tpos : Pos} {z TI TO i1 i2 l1 l2 : Addr} (D : ZipApart z TI TO i1 i2 l1 l2) :
  Turn P w K (.Tuple es kk tpos) (Itu K l1 l2) [z, TI, TO, i1, i2] z (fun i h => IsZip h z TI TO .none ∧ IsPair h TI (.ref i1) (.ref i2) ∧ (∃ a b, IsPair h TO a b) ∧ h.IsTupleIter i1 l1 i ∧ h.IsTupleIter i2 l2 i) where
 mem := by simp
 obj := fun i h st b hb => by
  obtain ⟨hz, hTI, ⟨a, b', hTO⟩, ⟨o1, e1, c1, d1⟩, ⟨o2, e2, c2, d2⟩⟩ := st
  simp only [List.mem_cons, List.not_mem_nil, or_false] at hb
  rcases hb with rfl | rfl | rfl | rfl | rfl
  ·exact ⟨_, hz, fun v q => by cases q⟩
  ·exact ⟨_, hTI, fun v q => by cases q⟩
  ·exact ⟨_, hTO, fun v q => by cases q⟩
  ·exact ⟨o1, e1, fun v q => by rw [d1] at q; cases q⟩
  ·exact ⟨o2, e2, fun v q => by rw [d2] at q; cases q⟩
 keep := fun i h h' st k => by
  obtain ⟨hz, hTI, ⟨a, b', hTO⟩, h1, h2⟩ := st
  exact ⟨k z (by simp) _ hz, k TI (by simp) _ hTI, ⟨a, b', k TO (by simp) _ hTO⟩, h1.at fun o e => k i1 (by simp) o e, h2.at fun o e => k i2 (by simp) o e⟩
 item := by
  intro X hP hw hK hc i pins s σ H E I hf st hg
  subst hP hw hK
  obtain ⟨xs, ys, x, y, q1, q2, hx, hy⟩ := hg
  obtain ⟨its1, rv1, p1, hz1⟩ := I.tuple q1
  obtain ⟨its2, rv2, p2, hz2⟩ := I.tuple q2
  obtain ⟨u1, hu1, ru1⟩ := rv1.get hx
  obtain ⟨u2, hu2, ru2⟩ := rv2.get hy
  obtain ⟨hz, hTI, ⟨a, b', hTO⟩, h1, h2⟩ := st
  refine gD D hz hTI hTO h1 h2 p1 p2 (x := u1) (y := u2) (by simpa using hu1) (by simpa using hu2) fun h' a1 a2 a3 a4 a5 a6 hk => ?_
  have new : bT X.prog X.w (upd H s.heap.objs.size (.tup [x, y])) h' s.heap.objs.size (.tup [x, y]) := ⟨by show 2 ≤ sizeLine; decide, [u1, u2], .cons ru1 (.cons ru2 .nil), _, a5, rfl, _, rfl⟩
  have I1 : Inv X pins σ (upd H s.heap.objs.size (.tup [x, y])) { s with heap := h' } := I.wu (t' := s.toks) (ch := [z, TO, i1, i2]) (fun b hb => hf b (by
   simp only [List.mem_cons, List.not_mem_nil, or_false] at hb ⊢
   rcases hb with r | r | r | r <;> simp [r]))
   (fun b o hb e => hk b o (fun q => hb (by simp [q])) (fun q => hb (by simp [q])) (fun q => hb (by simp [q])) (fun q => hb (by simp [q])) e) (Nat.le_refl _) new
  have hTI' : IsPair h' TI (.ref i1) (.ref i2) := hk _ _ D.TIz D.TITO D.TIi1 D.TIi2 hTI
  have hsz : ∀ b, b ∈ [z, TI, TO, i1, i2] → b ≠ s.heap.objs.size := fun b hb => by
   obtain ⟨_, _, hlt, _⟩ := hf b hb
   have lt : ∃ o, s.heap.get? b = some o := by
    simp only [List.mem_cons, List.not_mem_nil, or_false] at hb
    rcases hb with rfl | rfl | rfl | rfl | rfl
    ·exact ⟨_, hz⟩
    ·exact ⟨_, hTI⟩
    ·exact ⟨_, hTO⟩
    ·obtain ⟨o, e, _⟩ := h1; exact ⟨o, e⟩
    ·obtain ⟨o, e, _⟩ := h2; exact ⟨o, e⟩
   obtain ⟨o, e⟩ := lt
   exact Nat.ne_of_lt (Heap.lt_size e)
  refine ⟨_, rfl, wpAny_letOwnedTupleGo_zip (s := { s with heap := h' }) a1 fun h'' z2 sb => ?_⟩
  have fz := hf z (by simp)
  have I2 : Inv X pins σ (upd H s.heap.objs.size (.tup [x, y])) { s with heap := h'' } := Inv.turned (s := { s with heap := h' }) (it := z) (t' := s.toks) I1 (fun b o hb e => (sb.2 b hb).trans e) (by rw [aJ (hsz z (by simp))]; exact fz.1) fz.2.1 fz.2.2.2.1 fz.2.2.2.2.1 fz.2.2.2.2.2
  refine ⟨.ref s.heap.objs.size, _, I2, rfl, ⟨_, x, y, rfl, I.fresh, rfl, fun xs' q => by rw [I.iK q q1]; exact hx, fun ys' q => by rw [I.iK q q2]; exact hy⟩,
   ⟨z2, (sb.2 _ D.TIz).trans hTI', ⟨_, _, (sb.2 _ D.TOz).trans a2⟩, a3.extBut sb.extBut D.i1z, a4.extBut sb.extBut D.i2z⟩, fun b hb => by rw [aJ (hsz b hb)]; exact (hf b hb).1⟩
 done := by
  intro X hP hw hK hc i pins s σ H E I hf st hg
  subst hP hw hK
  obtain ⟨xs, ys, q1, q2, hx⟩ := hg
  obtain ⟨its1, rv1, p1, hz1⟩ := I.tuple q1
  obtain ⟨its2, rv2, p2, hz2⟩ := I.tuple q2
  obtain ⟨hz, hTI, ⟨a, b', hTO⟩, h1, h2⟩ := st
  have hend : its1.toArray[i]? = none ∨ its2.toArray[i]? = none := by
   rcases hx with r | r
   ·exact .inl (by simpa using rv1.none_of r)
   ·exact .inr (by simpa using rv2.none_of r)
  refine gQ (I.ok.hd hc) D hz hTI hTO h1 h2 p1 p2 hend fun h' hk => ⟨rfl, ?_⟩
  exact I.wz (t' := s.toks) (ch := [z, TO, i1, i2]) (fun b hb => hf b (by
   simp only [List.mem_cons, List.not_mem_nil, or_false] at hb ⊢
   rcases hb with r | r | r | r <;> simp [r]))
   (fun b o hb e => hk b o (fun q => hb (by simp [q])) (fun q => hb (by simp [q])) (fun q => hb (by simp [q])) (fun q => hb (by simp [q])) e)
 self := fun _ _ _ _ _ st h => wpAny_pyIter_zip st.1 h
def zpq (K : PySem.W.Frag) (o1 o2 : Option HO) (a b : Addr) (H : Hp) (R : It → Hp → Prop) : Prop := match o1, o2 with
 | some (.lst _), some (.lst _) => R (Itz K a b) H
 | some (.tup _), some (.tup _) => R (Itu K a b) H
 | _, _ => False
def zpK (K : PySem.W.Frag) (vs : List V) (H : Hp) (R : It → Hp → Prop) : Prop := match vs with
 | [.ref a, .ref b] => zpq K (H a) (H b) a b H R
 | _ => False
def Dr (K : PySem.W.Frag) (ta : TA) : TI := fun σ H R => ta σ H fun vs H1 => zpK K vs H1 R
theorem Dq (K : PySem.W.Frag) (ta : TA) (σ : St) (H : Hp) (R : It → Hp → Prop) : Dr K ta σ H R = ta σ H fun vs H1 => zpK K vs H1 R := rfl
theorem Jp (K : PySem.W.Frag) (a b : Addr) (H : Hp) (R : It → Hp → Prop) : zpK K [.ref a, .ref b] H R = zpq K (H a) (H b) a b H R := rfl
theorem Jo (K : PySem.W.Frag) (xs ys : List V) (a b : Addr) (H : Hp) (R : It → Hp → Prop) : zpq K (some (.lst xs)) (some (.lst ys)) a b H R = R (Itz K a b) H := rfl
theorem Jm (K : PySem.W.Frag) (xs ys : List V) (a b : Addr) (H : Hp) (R : It → Hp → Prop) : zpq K (some (.tup xs)) (some (.tup ys)) a b H R = R (Itu K a b) H := rfl
section
variable {X : Cx}
theorem GD {es : List Expr} {kk : Nat} {tpos : Pos} {a b : Expr} {ta : TA} {p pos : Pos} (hg : Gl X "zip") (hm : X.mg "zip" = none) (ha : PA X [a, b] ta) (hs : starEach [a, b] X.env = [(false, eval a X.env), (false, eval b X.env)] := by rfl) (hs2 : starEach [b] X.env = [(false, eval b X.env)] := by rfl) :
  PI X (.Tuple es kk tpos) (.Call (.Name "zip" p) [a, b] [] pos) (Dr X.K ta) := by
 intro pins s σ H R I h
 refine Call_ (lA I hg hm boot_zip (PyProof.Rows.callWith_type1 (thA (ha pos pins s σ H _ I h) fun us s1 vs H1 I1 r1 q1 => ?_) (by rw [hs, hs2]) (by rw [hs2]; rfl)))
 replace q1 : zpK X.K vs H1 R := q1
 unfold zpK at q1
 split at q1
 ·rename_i l1 l2
  unfold zpq at q1
  cases r1 with
  | cons r rr =>
   cases rr with
   | cons r' rr =>
    cases rr
    cases r
    cases r'
    have apart : l1 < s1.heap.objs.size → l2 < s1.heap.objs.size → ZipApart (s1.heap.objs.size + 4) (s1.heap.objs.size + 2) (s1.heap.objs.size + 3) s1.heap.objs.size (s1.heap.objs.size + 1) l1 l2 := by
     generalize s1.heap.objs.size = n
     intro lt1 lt2
     have lt1' : @LT.lt Nat _ l1 n := lt1
     have lt2' : @LT.lt Nat _ l2 n := lt2
     constructor <;> (intro (z : @Eq Nat _ _); omega)
    have fp : ∀ b ∈ [s1.heap.objs.size + 4, s1.heap.objs.size + 2, s1.heap.objs.size + 3, s1.heap.objs.size, s1.heap.objs.size + 1], kh X pins H1 b := fun b hb => by
     have hle : s1.heap.objs.size ≤ b := by
      simp only [List.mem_cons, List.not_mem_nil, or_false] at hb
      rcases hb with rfl | rfl | rfl | rfl | rfl <;> simp
     exact I1.vU hle (I1.hok.fresh hle)
    split at q1
    ·rename_i xs ys e1 e2
     obtain ⟨its1, rv1, p1, hz1⟩ := I1.list (SqL.of e1)
     obtain ⟨its2, rv2, p2, hz2⟩ := I1.list (SqL.of e2)
     have lt1 : l1 < s1.heap.objs.size := by obtain ⟨_, e, _⟩ := p1.isList; exact Heap.lt_size e
     have lt2 : l2 < s1.heap.objs.size := by obtain ⟨_, e, _⟩ := p2.isList; exact Heap.lt_size e
     refine call_zip_2 p1.isList p2.isList fun h' b1 b2 b3 b4 b5 b6 hk => ?_
     refine wpAny_pyIter_zip (s := { s1 with heap := h' }) b1 ?_
     exact ⟨_, _, _, _, H1, rfl, I1.kept (t' := s1.toks) hk, zX (apart lt1 lt2), ⟨b1, b2, ⟨_, _, b3⟩, b4, b5⟩, fp, q1⟩
    ·rename_i xs ys e1 e2
     obtain ⟨its1, rv1, p1, hz1⟩ := I1.tuple (SqT.of e1)
     obtain ⟨its2, rv2, p2, hz2⟩ := I1.tuple (SqT.of e2)
     have lt1 : l1 < s1.heap.objs.size := by obtain ⟨_, e, _⟩ := p1; exact Heap.lt_size e
     have lt2 : l2 < s1.heap.objs.size := by obtain ⟨_, e, _⟩ := p2; exact Heap.lt_size e
     refine uJ p1 p2 fun h' b1 b2 b3 b4 b5 b6 hk => ?_
     refine wpAny_pyIter_zip (s := { s1 with heap := h' }) b1 ?_
     exact ⟨_, _, _, _, H1, rfl, I1.kept (t' := s1.toks) hk, yc (apart lt1 lt2), ⟨b1, b2, ⟨_, _, b3⟩, b4, b5⟩, fp, q1⟩
    ·exact q1.elim
 ·exact q1.elim
theorem Gn {es : List Expr} {kk : Nat} {tpos : Pos} {a b : Expr} {t : TA} {p pos : Pos} (hg : Gl X "zip") (hm : X.mg "zip" = none) (ha : QA X [a, b] t) (hs : starEach [a, b] X.env = [(false, eval a X.env), (false, eval b X.env)] := by rfl) (hs2 : starEach [b] X.env = [(false, eval b X.env)] := by rfl) : QI X (.Tuple es kk tpos) (.Call (.Name "zip" p) [a, b] [] pos) (Dr X.K t) := ⟨GD hg hm ha.h hs hs2⟩
end
def iM (n : Nat) : Sp := fun vs H Q _ => ∃ x y ok d, vs = [x, y] ∧ aK ok H x d ∧ aK ok H y d ∧ d.depth < n ∧ ∀ H', Same H H' → Q (.bl true) H'
theorem qt {d : PyData} {ds : List PyData} (h : d ∈ ds) : d.depth < (PyData.list ds).depth ∧ d.depth < (PyData.tuple ds).depth := by
 have := j6 h
 rw [PyData.depth.eq_1, PyData.depth.eq_2]
 omega
def rd8 := And.intro @Dq (And.intro @Jp (And.intro @Jo @Jm))
section
variable {K : PySem.W.Frag} {mp : List (Option Nat)} {g : TG} {tc : TT} {te : TE} {σ : St} {H : Hp} {Q : VK} {R : It → Hp → Prop}
theorem Iv {a b : Addr} {xs ys : List V} (hR : R = sZ mp g tc te σ Q) (hz : xs.length ≤ sizeLine) (hl2 : xs.length = ys.length) (Pv : Nat → List V → St → Hp → Prop) (h0 : Pv 0 [] (gj mp σ) H) (hl : ∀ i acc τ H, Pv i acc τ H → acc.length ≤ i)
  (hq : ∀ i acc τ H, Pv i acc τ H → H a = some (.lst xs) ∧ H b = some (.lst ys))
  (hs : ∀ i x y acc τ H p, xs[i]? = some x → ys[i]? = some y → Pv i acc τ H → H p = none → g (.ref p) τ (upd H p (.tup [x, y])) fun τ1 H4 => tc τ1 H4 fun b H5 => if b = true then te τ1 H5 fun v H6 => Pv (i + 1) (acc ++ [v]) τ1 H6 else Pv (i + 1) acc τ1 H5)
  (hd : ∀ acc τ H d, Pv xs.length acc τ H → H d = none → Q (.ref d) (upd H d (.lst acc))) : R (Itz K a b) H := by
 refine iV hR xs.length hz Pv h0 hl (fun i acc τ H hi p => ?_) (fun acc τ H p => ?_) (fun i acc τ H x H3 hi p y => ?_) hd
 ·obtain ⟨e1, e2⟩ := hq i acc τ H p
  exact ⟨xs, ys, _, _, SqL.of e1, SqL.of e2, List.getElem?_eq_getElem hi, List.getElem?_eq_getElem (by omega)⟩
 ·obtain ⟨e1, e2⟩ := hq _ acc τ H p
  exact ⟨xs, ys, SqL.of e1, SqL.of e2, .inl (List.getElem?_eq_none (Nat.le_refl _))⟩
 ·obtain ⟨e1, e2⟩ := hq i acc τ H p
  obtain ⟨q, x1, y1, rfl, hq1, rfl, hx, hy⟩ := y
  exact hs i x1 y1 acc τ H q (hx _ (SqL.of e1)) (hy _ (SqL.of e2)) p hq1
theorem Iu {a b : Addr} {xs ys : List V} (hR : R = sZ mp g tc te σ Q) (hz : xs.length ≤ sizeLine) (hl2 : xs.length = ys.length) (Pv : Nat → List V → St → Hp → Prop) (h0 : Pv 0 [] (gj mp σ) H) (hl : ∀ i acc τ H, Pv i acc τ H → acc.length ≤ i)
  (hq : ∀ i acc τ H, Pv i acc τ H → H a = some (.tup xs) ∧ H b = some (.tup ys))
  (hs : ∀ i x y acc τ H p, xs[i]? = some x → ys[i]? = some y → Pv i acc τ H → H p = none → g (.ref p) τ (upd H p (.tup [x, y])) fun τ1 H4 => tc τ1 H4 fun b H5 => if b = true then te τ1 H5 fun v H6 => Pv (i + 1) (acc ++ [v]) τ1 H6 else Pv (i + 1) acc τ1 H5)
  (hd : ∀ acc τ H d, Pv xs.length acc τ H → H d = none → Q (.ref d) (upd H d (.lst acc))) : R (Itu K a b) H := by
 refine iV hR xs.length hz Pv h0 hl (fun i acc τ H hi p => ?_) (fun acc τ H p => ?_) (fun i acc τ H x H3 hi p y => ?_) hd
 ·obtain ⟨e1, e2⟩ := hq i acc τ H p
  exact ⟨xs, ys, _, _, SqT.of e1, SqT.of e2, List.getElem?_eq_getElem hi, List.getElem?_eq_getElem (by omega)⟩
 ·obtain ⟨e1, e2⟩ := hq _ acc τ H p
  exact ⟨xs, ys, SqT.of e1, SqT.of e2, .inl (List.getElem?_eq_none (Nat.le_refl _))⟩
 ·obtain ⟨e1, e2⟩ := hq i acc τ H p
  obtain ⟨q, x1, y1, rfl, hq1, rfl, hx, hy⟩ := y
  exact hs i x1 y1 acc τ H q (hx _ (SqT.of e1)) (hy _ (SqT.of e2)) p hq1
end
inductive RowC where
 | one (n t : Int)
 | rng (a b t : Int)
 | low (n t : Int)
 | msk (lo wd bits t : Int)
 | tab (lo : Int) (gs : List Int)
 | pik (l : Int)
def rowCD : RowC → PyData
 | .one n t => .tuple [.str "is", .int n, .int t]
 | .rng a b t => .tuple [.str "within", .int a, .int b, .int t]
 | .low n t => .tuple [.str "below", .int n, .int t]
 | .msk lo wd bits t => .tuple [.str "mask", .int lo, .int wd, .int bits, .int t]
 | .tab lo gs => .tuple [.str "table", .int lo, .tuple (gs.map PyData.int)]
 | .pik l => .tuple [.str "pick", .int l]
def Mp (m o : Int) : RowC → Prop
 | .one _ t => btw o m t = true
 | .rng _ _ t => btw o m t = true
 | .low _ t => btw o m t = true
 | .msk _ wd bits t => btw o m t = true ∧ 1 ≤ wd ∧ wd ≤ 64 ∧ 0 ≤ bits
 | .tab _ gs => gs.all (btw o m) = true
 | .pik _ => True
def Oe : RowC → Addr → List V
 | .one n t, _ => [.str "is", .int n, .int t]
 | .rng a b t, _ => [.str "within", .int a, .int b, .int t]
 | .low n t, _ => [.str "below", .int n, .int t]
 | .msk lo wd bits t, _ => [.str "mask", .int lo, .int wd, .int bits, .int t]
 | .tab lo _, g => [.str "table", .int lo, .ref g]
 | .pik l, _ => [.str "pick", .int l]
def RowAt (H : Hp) (x : V) (c : RowC) : Prop := ∃ a g, x = .ref a ∧ H a = some (.tup (Oe c g)) ∧ ∀ lo gs, c = .tab lo gs → H g = some (.tup (gs.map V.int))
def scV : PyData → Option V
 | .int i => some (.int i)
 | .str z => some (.str z)
 | _ => none
theorem aK.sc {ok : Addr → Prop} {H : Hp} {x v : V} {d : PyData} (t : aK ok H x d) (h : scV d = some v) : x = v := by
 cases t with
 | int i => exact Option.some.inj h
 | str z => exact Option.some.inj h
 | _ => cases h
theorem aG.sc {ok : Addr → Prop} {H : Hp} : ∀ {xs vs : List V} {ds : List PyData}, aG ok H xs ds → ds.map scV = vs.map some → xs = vs
 | _, [], _, .nil, _ => rfl
 | _, v :: vs, _, .nil, h => by cases h
 | _, [], _, .cons _ _, h => by cases h
 | _, v :: vs, _, .cons t ts, h => by
  rw [List.map_cons, List.map_cons] at h
  injection h with h1 h2
  rw [t.sc h1, ts.sc h2]
theorem aG.uncons {ok : Addr → Prop} {H : Hp} {xs : List V} {d : PyData} {ds : List PyData} (t : aG ok H xs (d :: ds)) : ∃ x r, xs = x :: r ∧ aK ok H x d ∧ aG ok H r ds := by
 cases t with
 | cons h r => exact ⟨_, _, rfl, h, r⟩
theorem aK.tupOf {ok : Addr → Prop} {H : Hp} {x : V} {ds : List PyData} (t : aK ok H x (.tuple ds)) : ∃ p xs, x = .ref p ∧ H p = some (.tup xs) ∧ aG ok H xs ds := by
 cases t with
 | tup o e z ts => exact ⟨_, _, rfl, e, ts⟩
theorem oH (is : List Int) : PyData.depthAll (is.map PyData.int) = 0 := by
 induction is with
 | nil => rfl
 | cons i is ih => rw [List.map_cons, PyData.depthAll.eq_2, ih]; rfl
section
variable {X : Cx} {e o : Expr} {te to : TE} {pos : Pos}
def ppq (ob : Option HO) (l : Addr) (H : Hp) (Q : VK) : Prop := match ob with
 | some (.lst xs) => ∃ y, xs[xs.length - 1]? = some y ∧ Q y (upd H l (.lst xs.dropLast))
 | _ => False
def ppK (x : V) (H : Hp) (Q : VK) : Prop := match x with
 | .ref l => ppq (H l) l H Q
 | _ => False
def Mw (to : TE) : TE := fun σ H Q => to σ H fun x H1 => ppK x H1 Q
theorem Ae (to : TE) (σ : St) (H : Hp) (Q : VK) : Mw to σ H Q = to σ H fun x H1 => ppK x H1 Q := rfl
theorem Gy (l : Addr) (H : Hp) (Q : VK) : ppK (.ref l) H Q = ppq (H l) l H Q := rfl
theorem Gx (xs : List V) (l : Addr) (H : Hp) (Q : VK) : ppq (some (.lst xs)) l H Q = ∃ y, xs[xs.length - 1]? = some y ∧ Q y (upd H l (.lst xs.dropLast)) := rfl
def JF (ta : TA) : TE := fun σ H Q => ta σ H fun vs H1 => ∃ j : Int, vs = [.int j] ∧ (-(2 ^ 62) ≤ j ∧ j < 2 ^ 62) ∧ (j - 0).toNat ≤ sizeLine ∧ ∀ p, H1 p = none → Q (.ref p) (upd H1 p (.lst (MJ 0 (j - 0).toNat)))
end
def rd9 := And.intro @Ae (And.intro @Gy (And.intro @Gx (And.intro @JF.eq_1 (And.intro @Oc.eq_1 @ipI.eq_1))))
inductive Pl where
 | pick (l : Int)
 | one (k : Nat) (r : Pl)
 | wit (k : Nat) (r : Pl)
 | low (k : Nat) (a b : Pl)
 | msk (l : Int) (r : Pl)
 | tab
def rJ : Pl → Nat
 | .pick _ => 1
 | .one _ r => rJ r + 1
 | .wit _ r => rJ r + 1
 | .low _ a b => rJ a + rJ b + 1
 | .msk _ r => rJ r + 1
 | .tab => 1
abbrev Sts := List (Int × Int × Int)
def qM (ss : Sts) (k : Nat) : Int × Int × Int := ss.getD k (0, 0, 0)
structure Lf (ss : Sts) (left : List Nat) : Prop where
 ne : left ≠ []
 lt : ∀ k ∈ left, k < ss.length
 up : left.Pairwise (· < ·)
def kids (ss : Sts) : Pl → List Nat → List (List Nat × Pl)
 | .pick _, _ => []
 | .tab, _ => []
 | .one k r, left => [(left.filter (· ≠ k), r)]
 | .wit k r, left => [(left.filter (· ≠ k), r)]
 | .low k a b, left => [(left.filter (· < k), a), (left.filter (k ≤ ·), b)]
 | .msk l r, left => [(left.filter fun k => (qM ss k).2.2 ≠ l, r)]
def uO (ss : Sts) : Pl → List Nat → Prop
 | .pick _, left => Lf ss left
 | .tab, left => Lf ss left
 | .one k r, left => Lf ss left ∧ uO ss r (left.filter (· ≠ k))
 | .wit k r, left => Lf ss left ∧ uO ss r (left.filter (· ≠ k))
 | .low k a b, left => Lf ss left ∧ uO ss a (left.filter (· < k)) ∧ uO ss b (left.filter (k ≤ ·))
 | .msk l r, left => Lf ss left ∧ uO ss r (left.filter fun k => (qM ss k).2.2 ≠ l)
theorem uO.kids {ss : Sts} {p : Pl} {left : List Nat} (h : uO ss p left) : ∀ x ∈ kids ss p left, uO ss x.2 x.1 := by
 intro x hx
 cases p with
 | pick l => cases hx
 | tab => cases hx
 | one k r => rw [List.mem_singleton.mp hx]; exact h.2
 | wit k r => rw [List.mem_singleton.mp hx]; exact h.2
 | low k a b =>
  rcases List.mem_cons.mp hx with rfl | hx
  ·exact h.2.1
  ·rw [List.mem_singleton.mp hx]; exact h.2.2
 | msk l r => rw [List.mem_singleton.mp hx]; exact h.2
def Je (ss : Sts) (left : List Nat) : Int := (qM ss (left.getLast?.getD 0)).2.1 - (qM ss (left.head?.getD 0)).1 + 1
theorem uH (xs : List V) (n : Nat) (h : n ≤ xs.length) : jc xs (some (n : Int)) none = xs.drop n := by
 unfold jc
 have e1 : HT.sIx xs.length 0 (some (n : Int)) = n := by
  simp only [HT.sIx]
  split
  ·omega
  ·omega
 have e2 : HT.sIx xs.length xs.length none = xs.length := by simp [HT.sIx]
 rw [e1, e2]
 exact List.take_of_length_le (by rw [List.length_drop]; exact Nat.le_refl _)
section
variable {X : Cx} {e o : Expr} {te to : TE} {pos : Pos}
end
def Wlk (h : Heap) (i l : Addr) (k : Nat) (xs : Array Value) : Prop := (h.IsTupleIter i l k ∧ h.IsTuple l xs) ∨ (h.IsListIter i l k ∧ h.IsList l xs)
@[reducible] def IsZip2 (h : Heap) (z TI TO a : Addr) (b : Bool) : Prop := h.get? z = some { cls := Value.type "zip", data := Data.fields #[rawInt a, Value.bool b, Value.bool false, Value.ref TI, Value.ref TO] }
section
variable {X : Cx}
end
section
variable {X : Cx} {o i e value : Expr} {pos pos' tpos : Pos} {td ty tv : TE}
end
section
variable {prog : Program} {w : World} {A : Around} {R : Result → Shared → Prop} {s : Shared}
end
section
variable {X : Cx} {NX N : List Str} {kX : List (Str × NameKind)} {mp : List (Option Nat)} {scope : Scope}
end
section
variable {X : Cx}
end
section
variable {M : Model} {A : Around} {E : Value → Shared → Prop} {env : Env}
variable {nm q : Str} {C N : Addr} {bs bm : List Value} {hdct : Bool} {sn : List Str} {sub : List Value} {ab : Bool} {col : Option Bool} {dd : Option Addr} {k0 k1 k2 k3 k5 : Option Value} {newId : String}
end
section
variable {prog : Program} {w : World} {A : Around} {E : Value → Shared → Prop}
variable {nm q : Str} {C N : Addr} {bs bm bmB : List Value} {hdct : Bool} {sn : List Str} {sub : List Value} {ab : Bool} {col : Option Bool} {dd : Option Addr} {k0 k1 k2 k3 k5 : Option Value} {nwId B newId initId : String}
end
open PySem.W (Frag clsIn findIn takerIn InstAt looks_clsIn looks_findIn looks_takesIn Looks check_slot looks_mroIn mroIn set_plain osa_eq)
open Builtin Builtin.ObjectAttr
def vbm : List Value := [.type "ValueError", .type "Exception", .type "BaseException", .type "object"]
section
variable {prog : Program} {w : World} {A : Around} {E : Value → Shared → Prop} {K : Frag} {h : Heap} {g : Array GenState} {d : Drawn} {t : Nat} {os : OsState} {x C D : Addr} {cd : ClassData} {name : Str} {v : Value} {o : Obj} {vs : Array Value}
end
open PySem.W (Frag clsIn findIn takerIn InstAt looks_clsIn looks_findIn looks_takesIn Looks check_slot looks_mroIn mroIn handedIn handedOut_of)
section
variable {prog : Program} {w : World} {A : Around} {E : Value → Shared → Prop} {K : Frag} {h : Heap} {g : Array GenState} {d : Drawn} {t : Nat} {os : OsState} {x C D dx : Addr} {cd : ClassData} {name : Str} {v : Value} {o : Obj} {vs : Array Value} {m : Str → Option Value} {expr : Bool}
end
structure XCls (K : PySem.W.Frag) (C D N fI : Addr) : Prop where
 obj : ∃ nm q bs sn sub ab col dd k0 k1 k2 k3 k5, K.lookup C = some (excClassObj nm q C N bs (.ref D :: vbm) true sn sub ab col dd k0 k1 k2 k3 k5 "ValueError.__new__")
 tail : PySem.W.tailIn K vbm (.ref D :: vbm) = true
 nsok : PySem.W.nsOkIn K N = true
 init : PySem.W.nsIn K N "__init__" = some (some (.ref fI))
 set : PySem.W.findIn K (.ref C) "__setattr__" = some (some (.builtin "object.__setattr__"))
 ga : PySem.W.findIn K (.ref C) "__getattribute__" = some (some (.builtin "BaseException.__getattribute__"))
 gk : PySem.W.findIn K (.ref C) "__getattr__" = some none
section
variable {X : Cx} {C D N fI : Addr} {x : Str} {np apos cpos : Pos} {e : Expr} {es : List Expr} {t : TA}
end
section
variable {X : Cx} {C D N fI : Addr} {f : Str} {o value : Expr} {pos pos' : Pos} {ta tv : TE}
end
abbrev TJ := St → Hp → (Hp → Prop) → Prop
section
variable {X : Cx} {e : Expr} {es : List Expr} {t : TJ} {te : TE} {x : Str} {j : Nat} {pos : Pos}
end
section
variable {X : Cx} {C D N fI : Addr} {x : Str} {np cpos pos : Pos} {e : Expr} {es : List Expr} {t : TA} {k : Nat} {fd : FuncData} {ps : List Str} {sp : Sp} {E : XK}
end
section
variable {M : Model} {A : Around} {E : Value → Shared → Prop}
variable {nm q nmD qD : Str} {C N D ND : Addr} {bs bm bsD bmD : List Value} {hdct hdctD : Bool} {sn snD : List Str} {sub subD : List Value} {ab abD : Bool} {col colD : Option Bool} {dd ddD : Option Addr} {k0 k1 k2 k3 k5 j0 j1 j2 j3 j5 : Option Value} {newId newIdD : String}
end
section
variable {X : Cx} {pins pins' : List (Addr × Obj)} {σ : St} {H : Hp} {s : Shared} {xe : Value → Shared → Prop} {x : Addr}
end
section
variable {X : Cx} {pins : List (Addr × Obj)} {σ : St} {H1 H2 : Hp} {s1 s2 : Shared} {x C : Addr} {ox : Obj} {vs : Array Value}
end
section
variable {X : Cx} {C D N fI ND : Addr} {dn n : Str} {i : Nat} {body suite : List Stmt} {b₀ : Stmt} {np hpos pos : Pos} {tb : XK → TS} {ts : TS}
end
open PySem.W (Frag clsIn findIn takerIn InstAt looks_clsIn looks_findIn looks_takesIn looks_specialIn specialIn takesIn Looks check_slot looks_mroIn mroIn handedIn handedOut_of class_get KitX)
section
variable {prog : Program} {w : World} {A : Around} {E : Value → Shared → Prop} {s : Shared} {K : Frag} {x C : Addr} {ox : Obj} {od : Option Obj}
end
section
variable {X : Cx} {pins : List (Addr × Obj)} {σ : St} {H : Hp} {s : Shared} {A : Around} {E : Value → Shared → Prop} {Q : Value → Shared → Prop} {c : Value} {b : Bool} {x C dx : Addr} {fs : List (Str × V)}
variable {D N fI : Addr} {e : Expr} {f : Str} {pos : Pos} {ta : TE}
end
section
variable {P : Program} {w : World} {K : PySem.W.Frag} {mg : Str → Option Value} {base : Heap}
end
section
variable {X : Cx} {k : Nat} {ps : List Str} {sp : Sp} {x f : Str} {p np apos cpos pos pos' : Pos} {e o value : Expr} {es : List Expr} {t : TA} {E : XK} {C D N fI : Addr} {te ta tv : TE}
end
section
variable {X : Cx} {k : Nat} {ps : List Str} {sp : Sp} {x : Str} {p pos : Pos} {e : Expr} {es : List Expr} {t : TA} {E : XK}
end
section
variable {X : Cx} {e o : Expr} {te to : TE} {pos : Pos}
end
open Builtin
section
variable {X : Cx}
end
mutual
def noL : PyData → Bool
 | .list _ => false
 | .tuple ds => Ny ds
 | _ => true
def Ny : List PyData → Bool
 | [] => true
 | d :: ds => noL d && Ny ds
end
theorem kj {ok : Addr → Prop} {H : Hp} : ∀ gs : List Int, aG ok H (gs.map V.int) (gs.map PyData.int)
 | [] => .nil
 | g :: gs => .cons (.int g) (kj gs)
section
variable {X : Cx} {e e2 o i value : Expr} {te te2 to ti tv : TE} {pos tpos : Pos}
end
def lbl (ss : Sts) (k : Nat) : Int := (qM ss k).2.2
def fX (ss : Sts) : Pl → List Nat → List (List Nat × Pl)
 | .pick l, left => [(left, .pick l)]
 | .tab, left => [(left, .tab)]
 | .one k r, left => (left, .one k r) :: fX ss r (left.filter (· ≠ k))
 | .wit k r, left => (left, .wit k r) :: fX ss r (left.filter (· ≠ k))
 | .low k a b, left => (left, .low k a b) :: (fX ss b (left.filter (k ≤ ·)) ++ fX ss a (left.filter (· < k)))
 | .msk l r, left => (left, .msk l r) :: fX ss r (left.filter fun k => (qM ss k).2.2 ≠ l)
def Ao (ss : Sts) (W : List (List Nat × Pl)) : List (List Nat × Pl) := (W.reverse.map fun x => fX ss x.2 x.1).flatten
theorem steps_kids (ss : Sts) (p : Pl) (left : List Nat) : fX ss p left = (left, p) :: Ao ss (kids ss p left) := by
 cases p <;> simp [fX, Ao, kids]
def VL (ss : Sts) (left : List Nat) : Pl → Prop
 | .pick l => ∀ k ∈ left, lbl ss k = l
 | .tab => Je ss left ≤ 200
 | .one k _ => k ∈ left ∧ (qM ss k).1 = (qM ss k).2.1
 | .wit k _ => k ∈ left
 | .low k _ _ => k ∈ left
 | .msk l _ => Je ss left ≤ 64 ∧ ∃ k ∈ left, lbl ss k = l
def PlV (ss : Sts) : Pl → List Nat → Prop
 | .pick l, left => Lf ss left ∧ VL ss left (.pick l)
 | .tab, left => Lf ss left ∧ VL ss left .tab
 | .one k r, left => (Lf ss left ∧ VL ss left (.one k r)) ∧ PlV ss r (left.filter (· ≠ k))
 | .wit k r, left => (Lf ss left ∧ VL ss left (.wit k r)) ∧ PlV ss r (left.filter (· ≠ k))
 | .low k a b, left => (Lf ss left ∧ VL ss left (.low k a b)) ∧ PlV ss a (left.filter (· < k)) ∧ PlV ss b (left.filter (k ≤ ·))
 | .msk l r, left => (Lf ss left ∧ VL ss left (.msk l r)) ∧ PlV ss r (left.filter fun k => (qM ss k).2.2 ≠ l)
def gO : Pl → Nat → List (Nat × Nat)
 | .pick _, _ => []
 | .tab, _ => []
 | .one _ r, p => gO r (p + 1)
 | .wit _ r, p => gO r (p + 1)
 | .msk _ r, p => gO r (p + 1)
 | .low _ a b, p => gO b (p + 1) ++ (p, p + 1 + rJ b) :: gO a (p + 1 + rJ b)
def Ik : List Pl → List Nat → Nat → List (Nat × Nat)
 | [], _, _ => []
 | c :: rest, T, p => gO c p ++ (match T with | [] => [] | t :: T' => match rest with | [] => [] | _ :: _ => (t, p + rJ c) :: Ik rest T' (p + rJ c))
theorem futA_one (c : Pl) (T : List Nat) (p : Nat) : Ik [c] T p = gO c p := by
 cases T <;> exact List.append_nil _
def Fit (cs : List RowC) (p : Nat) (R : List RowC) : Prop := ∀ (i : Nat) c, R[i]? = some c → cs[p + i]? = some c
theorem Fit.hd {cs : List RowC} {p : Nat} {c : RowC} {R : List RowC} (h : Fit cs p (c :: R)) : cs[p]? = some c := h 0 c rfl
section
variable {X : Cx} {o e i : Expr} {to te td ty : TE} {pos : Pos}
end
theorem ln1 {α : Type} {us : List α} (h : us.length = 1) : ∃ a, us = [a] := by
 cases us with
 | nil => cases h
 | cons a r =>
  cases r with
  | nil => exact ⟨a, rfl⟩
  | cons b r => cases h
theorem ln2 {α : Type} {us : List α} (h : us.length = 2) : ∃ a0 a1, us = [a0, a1] := by
 cases us with
 | nil => cases h
 | cons a0 r =>
  obtain ⟨a1, rfl⟩ := ln1 (Nat.succ.inj h)
  exact ⟨a0, a1, rfl⟩
theorem ln3 {α : Type} {us : List α} (h : us.length = 3) : ∃ a0 a1 a2, us = [a0, a1, a2] := by
 cases us with
 | nil => cases h
 | cons a0 r =>
  obtain ⟨a1, a2, rfl⟩ := ln2 (Nat.succ.inj h)
  exact ⟨a0, a1, a2, rfl⟩
section
variable {X : Cx} {i : Nat} {x : Str} {pos : Pos}
end
def Ls : Pl → Bool
 | .pick _ => true
 | .tab => true
 | _ => false
def DG (ss : Sts) (C : List (List Nat × Pl)) : List (List Nat × Pl) := (C.map fun x => fX ss x.2 x.1).flatten
def Df (S : List (List Nat × Pl)) : Nat → Bool
 | 0 => false
 | i + 1 => match S[i]? with
  | some x => Ls x.2
  | none => false
structure AhSt (ss : Sts) (S : List (List Nat × Pl)) (tot : List (Nat × Nat)) (i : Nat) (C : List (List Nat × Pl)) (T : List Nat) (done : List (Nat × Nat)) : Prop where
 fl : S.drop i = DG ss C
 no : Df S i = false → T.length + 1 = C.length ∧ tot = done ++ Ik (C.map (·.2)) T i
 yes : Df S i = true → T.length = C.length ∧ ((C = [] ∧ tot = done) ∨ ∃ t T', T = t :: T' ∧ tot = done ++ (t, i) :: Ik (C.map (·.2)) T' i)
theorem flat_cons (ss : Sts) (x : List Nat × Pl) (C : List (List Nat × Pl)) : DG ss (x :: C) = fX ss x.2 x.1 ++ DG ss C := rfl
section
variable {X : Cx} {pos : Pos} {te : TE}
end
section
variable {X : Cx} {e o : Expr} {te to : TE} {pos : Pos}
end
def Eh (many own : Int) : RowC → Prop
 | .one _ t => btw own many t = true
 | .rng a b t => a ≤ b ∧ btw own many t = true
 | .low _ t => btw own many t = true
 | .msk _ wd bits t => (1 ≤ wd ∧ wd ≤ 64) ∧ (0 ≤ bits ∧ bits < 2 ^ wd.toNat) ∧ btw own many t = true
 | .tab _ gs => gs ≠ [] ∧ gs.all (btw own many) = true
 | .pik l => 0 ≤ l
theorem Eh.c {many own : Int} {c : RowC} (h : Eh many own c) : Mp many own c := by
 cases c with
 | one n t => exact h
 | low n t => exact h
 | rng a b t => exact h.2
 | msk lo wd bits t => exact ⟨h.2.2, h.1.1, h.1.2, h.2.1.1⟩
 | tab lo gs => exact h.2
 | pik l => trivial
open PySem PySem.Spec PyProof.Rows Builtin Builtin.Str
theorem pI : ∀ {ts : List Str} {us : List Value}, Vals (ts.map V.str) us → ∃ l : List (Str × Tok), strValues l = us ∧ l.map (·.1) = ts
 | [], _, h => by
  cases h
  exact ⟨[], rfl, rfl⟩
 | t :: ts, _, h => by
  cases h with
  | cons r h =>
   obtain ⟨l, rfl, e⟩ := pI h
   obtain ⟨k, rfl⟩ := r
   exact ⟨(t, k) :: l, rfl, by rw [List.map_cons, e]⟩
theorem pP : ∀ (l : List (Str × Tok)), Vals ((l.map (·.1)).map V.str) (strValues l)
 | [] => .nil
 | (x, k) :: l => .cons ⟨k, rfl⟩ (pP l)
def jnq (ob : Option HO) (sep : Str) (H : Hp) (Q : VK) : Prop := match ob with
 | some (.lst xs) => ∃ ts : List Str, xs = ts.map V.str ∧ JoinOk sep ts = true ∧ Q (.str (Txt.join sep ts)) H
 | _ => False
def rJoin : V → List V → Hp → VK → Prop := fun x vs H Q => match x, vs with
 | .str sep, [.ref b] => jnq (H b) sep H Q
 | _, _ => False
theorem Bv (sep : Str) (b : Addr) (H : Hp) (Q : VK) : rJoin (.str sep) [.ref b] H Q = jnq (H b) sep H Q := rfl
theorem Hv (xs : List V) (sep : Str) (H : Hp) (Q : VK) : jnq (some (.lst xs)) sep H Q = ∃ ts : List Str, xs = ts.map V.str ∧ JoinOk sep ts = true ∧ Q (.str (Txt.join sep ts)) H := rfl
def vy : V → List V → Hp → VK → Prop := fun x vs H Q => match x, vs with
 | .str z, [.str y] => (y.length == 0) = false ∧ z.length ≤ sizeLine ∧ (Txt.split z y).length ≤ sizeLine ∧ ∀ p, H p = none → Q (.ref p) (upd H p (.lst ((Txt.split z y).map V.str)))
 | _, _ => False
theorem yG (z y : Str) (H : Hp) (Q : VK) : vy (.str z) [.str y] H Q = ((y.length == 0) = false ∧ z.length ≤ sizeLine ∧ (Txt.split z y).length ≤ sizeLine ∧ ∀ p, H p = none → Q (.ref p) (upd H p (.lst ((Txt.split z y).map V.str)))) := rfl
def rB : V → List V → Hp → VK → Prop := fun x vs H Q => match x, vs with
 | .str z, [.str y] => Q (.bl (Txt.startswith z y)) H
 | _, _ => False
theorem vq (z y : Str) (H : Hp) (Q : VK) : rB (.str z) [.str y] H Q = Q (.bl (Txt.startswith z y)) H := rfl
def HY : V → Prop
 | .str _ => True
 | _ => False
theorem Dp (z : Str) : HY (.str z) = True := rfl
def tSM (r : V → List V → Hp → VK → Prop) (to : TE) (t : TA) : TE := fun σ H Q => to σ H fun x H1 => HY x ∧ t σ H1 fun xs H2 => r x xs H2 Q
theorem Jx (r : V → List V → Hp → VK → Prop) (to : TE) (t : TA) (σ : St) (H : Hp) (Q : VK) : tSM r to t σ H Q = to σ H fun x H1 => HY x ∧ t σ H1 fun xs H2 => r x xs H2 Q := rfl
def wL : List V → Hp → VK → Prop := fun vs H Q => match vs with
 | [.int i] => i.natAbs.log2 < 1920 ∧ Q (.str (toString i)) H
 | [.str x] => Q (.str x) H
 | _ => False
theorem Fw (i : Int) (H : Hp) (Q : VK) : wL [.int i] H Q = (i.natAbs.log2 < 1920 ∧ Q (.str (toString i)) H) := rfl
theorem Fv (x : Str) (H : Hp) (Q : VK) : wL [.str x] H Q = Q (.str x) H := rfl
def BR : List V → Hp → VK → Prop := fun vs H Q => match vs with
 | [.str x] => ∃ n, PySem.intText? x = some n ∧ x.length ≤ 640 ∧ Q (.int n) H
 | _ => False
theorem BP (x : Str) (H : Hp) (Q : VK) : BR [.str x] H Q = ∃ n, PySem.intText? x = some n ∧ x.length ≤ 640 ∧ Q (.int n) H := rfl
theorem Jt (K : PySem.W.Frag) (x : V) (H : Hp) : tyV K "str" x H = HY x := by
 refine propext ⟨fun h => ?_, fun h => ?_⟩
 ·cases x with
  | str z => trivial
  | int z => exact absurd (show "str" = "int" from h) (by decide)
  | ref p =>
   rcases h with ⟨e, _⟩ | ⟨e, _⟩ | ⟨e, _⟩ | ⟨e, _⟩
   ·exact absurd e (by decide)
   ·exact absurd e (by decide)
   ·exact absurd e (by decide)
   ·exact absurd e (by decide)
  | _ => exact h.elim
 ·cases x with
  | str z => rfl
  | _ => exact h.elim
section
variable {X : Cx}
theorem jP : MtR X "str.join" rJoin := by
 intro pins s σ H x xs v us Q I rx rv h
 unfold rJoin at h
 split at h
 ·rename_i sep b
  obtain ⟨t, rfl⟩ := rx
  obtain ⟨u, rfl, ru⟩ := rv.one
  cases ru
  cases e : H b with
  | none => rw [e] at h; exact h.elim
  | some o =>
   rw [e] at h
   cases o with
   | lst ys =>
    obtain ⟨ts, rfl, hok, q⟩ := h
    obtain ⟨its, r, pl, hz⟩ := I.list (SqL.of e)
    obtain ⟨l, rfl, hl⟩ := pI r
    exact SC.join pl.isList hl hok fun t' k => ⟨.str _, H, I.tok _, ⟨_, rfl⟩, q⟩
   | _ => exact h.elim
 ·exact h.elim
theorem uE : MtR X "str.split" vy := by
 intro pins s σ H x xs v us Q I rx rv h
 unfold vy at h
 split at h
 ·rename_i z y
  obtain ⟨hy, hz, hl, q⟩ := h
  obtain ⟨t, rfl⟩ := rx
  obtain ⟨u, rfl, ru⟩ := rv.one
  obtain ⟨tu, rfl⟩ := ru
  have fin : ∀ (l : List (Str × Tok)) (k : Nat), l.map (·.1) = Txt.split z y → EP X pins σ Q (.ref s.heap.objs.size) { s with toks := k, heap := s.heap.push { cls := .type "list", data := .seq (strValues l).toArray } } := by
   intro l k hlm
   refine ⟨.ref _, _, I.laid (a := s.heap.objs.size) (o := .lst ((Txt.split z y).map V.str)) (t' := k) (fun b u e => Heap.get?_push_of_some _ e) (Nat.le_refl _) ?_, rfl, q _ (I.hok.fresh (Nat.le_refl _))⟩
   have hv := pP l
   rw [hlm] at hv
   exact ⟨by rw [List.length_map]; exact hl, _, 0, hv, Heap.get?_push_size _ rfl⟩
  cases h1 : (decide (z.length < y.length) || decide (strKind z < strKind y))
  ·cases hf : (occurrences z y 0 z.length (z.length + 1)).isEmpty
   ·have es : Txt.split z y = partsBetween z (occurrences z y 0 z.length (z.length + 1)) y.length := (if_neg (ne_true_of_eq_false h1)).trans (if_neg (ne_true_of_eq_false hf))
    refine call_meets F.slot_str_split (typeIs_str _ _ _) F.entry_str_split (F.args_str_split_2 _ _) (meets_str_split_sep z y t tu h1 hy hf hz (by rw [← es]; exact hl)) ?_
    show wants _ _ _ { s with toks := _, heap := s.heap.push { cls := .type "list", data := .seq (strsFrom s.toks (partsBetween z (occurrences z y 0 z.length (z.length + 1)) y.length)).toArray } }
    rw [strsFrom_eq]
    exact fin (numbered s.toks _) _ ((numbered_texts _ _).trans es.symm)
   ·exact call_meets F.slot_str_split (typeIs_str _ _ _) F.entry_str_split (F.args_str_split_2 _ _) (meets_str_split_not_found z y t tu h1 hy hf)
     (fin [(z, t)] s.toks ((if_neg (ne_true_of_eq_false h1)).trans (if_pos hf)).symm)
  ·exact call_meets F.slot_str_split (typeIs_str _ _ _) F.entry_str_split (F.args_str_split_2 _ _) (meets_str_split_cannot_occur z y t tu h1)
    (fin [(z, t)] s.toks (if_pos h1).symm)
 ·exact h.elim
theorem za : MtR X "str.startswith" rB := by
 intro pins s σ H x xs v us Q I rx rv h
 unfold rB at h
 split at h
 ·rename_i z y
  obtain ⟨t, rfl⟩ := rx
  obtain ⟨u, rfl, ru⟩ := rv.one
  obtain ⟨tu, rfl⟩ := ru
  exact SC.startswith ⟨.bl _, H, I, rfl, h⟩
 ·exact h.elim
variable {o e : Expr} {to : TE} {t : TA} {apos cpos : Pos}
theorem Nb {name : Str} {id : String} {r : V → List V → Hp → VK → Prop} (slot : Slot "str" name id) (hty : typeOf (.builtin id) = pure (.type "method_descriptor")) (hm : MtR X id r) (ho : PE X o to) (ha : PA X [e] t)
  (hbase : attributeBase o name X.env (eval o X.env) = eval o X.env := by rfl)
  (hfew : ((backTo cpos (starEach [e] X.env)).all (fun x => !x.1) && (backToKw cpos (keywordEach [] X.env)).all (fun x => x.1.isSome)
   && decide ([e].length + ([] : List Keyword).length + (if ([] : List Keyword).isEmpty then 0 else 1) < 30)) = true := by rfl)
  (hline : (apos.endLine == cpos.line) = true := by rfl) (hs : starEach [e] X.env = (false, eval e X.env) :: starEach [] X.env := by rfl) (hplain : (backTo cpos (starEach [] X.env)).any (·.1) = false := by rfl) :
  PE X (.Call (.Attribute o name apos) [e] [] cpos) (tSM r to t) := by
 have h := Np (X := X) F.plainAttrs_str slot hty hm ho ha hbase hfew hline hs hplain
 have e1 : tBM X.K "str" r to t = tSM r to t := by
  unfold tBM tSM
  simp only [Jt]
 rwa [e1] at h
theorem lF {name : Str} {id : String} {r : V → List V → Hp → VK → Prop} (slot : Slot "str" name id) (hty : typeOf (.builtin id) = pure (.type "method_descriptor")) (hm : MtR X id r) (ho : QE X o to) (ha : QA X [e] t)
  (hbase : attributeBase o name X.env (eval o X.env) = eval o X.env := by rfl)
  (hfew : ((backTo cpos (starEach [e] X.env)).all (fun x => !x.1) && (backToKw cpos (keywordEach [] X.env)).all (fun x => x.1.isSome)
   && decide ([e].length + ([] : List Keyword).length + (if ([] : List Keyword).isEmpty then 0 else 1) < 30)) = true := by rfl)
  (hline : (apos.endLine == cpos.line) = true := by rfl) (hs : starEach [e] X.env = (false, eval e X.env) :: starEach [] X.env := by rfl) (hplain : (backTo cpos (starEach [] X.env)).any (·.1) = false := by rfl) :
  QE X (.Call (.Attribute o name apos) [e] [] cpos) (tSM r to t) := ⟨Nb slot hty hm ho.h ha.h hbase hfew hline hs hplain⟩
theorem iW : cg X (.type "str") wL := by
 intro pins s σ H xs us Q I r h
 unfold wL at h
 split at h
 ·rename_i i
  exact sG pins s σ H _ us Q I r ⟨i, rfl, h.1, h.2⟩
 ·rename_i x
  obtain ⟨u, rfl, t, rfl⟩ := vals1 r
  exact PySem.P.str_of_str ⟨.str _, H, I, ⟨_, rfl⟩, h⟩
 ·exact h.elim
theorem zK : cg X (.type "int") BR := by
 intro pins s σ H xs us Q I r h
 unfold BR at h
 split at h
 ·rename_i x
  obtain ⟨n, hn, hl, q⟩ := h
  obtain ⟨u, rfl, t, rfl⟩ := vals1 r
  exact PySem.W.KIN.call_text hn hl ⟨.int _, H, I.tok _, ⟨_, rfl⟩, q⟩
 ·exact h.elim
end
def Its (z : Str) : It := ⟨fun i _ => i < z.length, fun i H x H' => H' = H ∧ ∃ c, z.cps[i]? = some c ∧ x = .str ⟨#[c]⟩, fun i _ => i = z.length⟩
theorem tE {P : Program} {w : World} {K : PySem.W.Frag} {tg : Expr} (it : Addr) (z : Str) {n : String} {t : Tok} (hn : ["enumerate", "zip", "dict_itemiterator", "dict_reverseitemiterator", "odict_iterator", "itertools.zip_longest", "itertools.pairwise"].contains n = false)
  (W : ∀ A : Around, A.handled = none → Walks P w A it [it] [it] z.cps.size (SignAt z) (fun i h => h.IsStrIter it n z t i))
  (hself : ∀ (A : Around) (i : Nat) (s : Shared) (Q : Value → Shared → Prop) (E : Value → Shared → Prop), s.heap.IsStrIter it n z t i → Q (.ref it) s → wpAny (model P w) A (pyIter (.ref it)) Q E s) : Turn P w K tg (Its z) [it] it (fun i h => h.IsStrIter it n z t i) where
 mem := by simp
 obj := fun i h st b hb => by
  have e : b = it := by simpa using hb
  subst e
  obtain ⟨o, e, c, d⟩ := st
  exact ⟨o, e, fun v z => by rw [d] at z; cases z⟩
 keep := fun i h h' st k => by
  obtain ⟨o, e, r⟩ := st
  exact ⟨o, k it (by simp) o e, r⟩
 item := by
  intro X hP hw hK hc i pins s σ H E I hf st hg
  subst hP hw hK
  obtain ⟨f0, f1, f2, f3, f4, f5⟩ := hf it (by simp)
  refine (W X.A (I.ok.hd hc)).item i s _ _ hg st fun v h' tk hv st' kk => ?_
  obtain ⟨c, u, hcx, rfl⟩ := hv
  have I1 : Inv X pins σ H { s with heap := h', toks := tk } := I.turned (fun b o hb e => kk b o (by simpa using hb) e) f0 f1 f3 f4 f5
  obtain ⟨o, e, co, d⟩ := id st'
  exact ⟨_, rfl, xH (s := { s with heap := h', toks := tk }) e co d hn ⟨.str ⟨#[c]⟩, H, I1, ⟨u, rfl⟩, ⟨rfl, c, hcx, rfl⟩, st', fun b hb => (hf b hb).1⟩⟩
 done := by
  intro X hP hw hK hc i pins s σ H E I hf st hg
  subst hP hw hK
  obtain ⟨f0, f1, f2, f3, f4, f5⟩ := hf it (by simp)
  have hg' : i = z.cps.size := hg
  subst hg'
  exact (W X.A (I.ok.hd hc)).done s _ _ st fun h' tk kk => ⟨rfl, I.turned (fun b o hb e => kk b o (by simpa using hb) e) f0 f1 f3 f4 f5⟩
 self := hself
def Lx (tl : TE) : TI := fun σ H R => tl σ H fun x H1 => match x with
 | .str z => R (Its z) H1
 | _ => False
def isK (x : V) (H : Hp) (R : It → Hp → Prop) : Prop := match x with
 | .str z => R (Its z) H
 | _ => False
theorem Ih (tl : TE) (σ : St) (H : Hp) (R : It → Hp → Prop) : Lx tl σ H R = tl σ H fun x H1 => isK x H1 R := rfl
theorem Ia (z : Str) (H : Hp) (R : It → Hp → Prop) : isK (.str z) H R = R (Its z) H := rfl
section
variable {X : Cx} {tg l : Expr} {tl : TE}
theorem Kr (hl : PE X l tl) : PI X tg l (Lx tl) := by
 intro pins s σ H R I h
 refine thn (hl pins s σ H _ I h) fun v s1 ⟨x, H1, I1, r1, q1⟩ => ?_
 cases x with
 | str z =>
  obtain ⟨t, rfl⟩ := r1
  replace q1 : R (Its z) H1 := q1
  have fp : ∀ b ∈ [s1.heap.objs.size], kh X pins H1 b := fun b hb => by
   have e : b = s1.heap.objs.size := by simpa using hb
   subst e
   exact I1.vU (Nat.le_refl _) (I1.hok.fresh (Nat.le_refl _))
  cases ha : z.cps.all (· < 128)
  ·exact wpAny_pyIter_wide ha ⟨s1.heap.objs.size, [s1.heap.objs.size], _, _, H1, rfl, I1.kept (t' := s1.toks) fun b o e => Heap.get?_push_of_some _ e, tE _ z (by decide) (fun A hA => Walks.strWide hA _ z t) (fun _ _ _ _ _ st hQ => wpAny_pyIter_striter_wide st hQ), ⟨_, Heap.get?_push_size _ rfl, rfl, rfl⟩, fp, q1⟩
  ·exact wpAny_pyIter_ascii ha ⟨s1.heap.objs.size, [s1.heap.objs.size], _, _, H1, rfl, I1.kept (t' := s1.toks) fun b o e => Heap.get?_push_of_some _ e, tE _ z (by decide) (fun A hA => Walks.strAscii hA _ z t) (fun _ _ _ _ _ st hQ => wpAny_pyIter_striter_ascii st hQ), ⟨_, Heap.get?_push_size _ rfl, rfl, rfl⟩, fp, q1⟩
 | _ => exact q1.elim
theorem Ka (hl : QE X l tl) : QI X tg l (Lx tl) := ⟨Kr hl.h⟩
end
section
variable {mp : List (Option Nat)} {g : TG} {tc : TT} {te : TE} {σ : St} {H : Hp} {Q : VK} {R : It → Hp → Prop}
theorem Mg {z : Str} (hR : R = sZ mp g tc te σ Q) (hz : z.length ≤ sizeLine) (Pv : Nat → List V → St → Hp → Prop) (h0 : Pv 0 [] (gj mp σ) H) (hl : ∀ i acc τ H, Pv i acc τ H → acc.length ≤ i)
  (hs : ∀ i c acc τ H, z.cps[i]? = some c → Pv i acc τ H → g (.str ⟨#[c]⟩) τ H fun τ1 H4 => tc τ1 H4 fun b H5 => if b = true then te τ1 H5 fun v H6 => Pv (i + 1) (acc ++ [v]) τ1 H6 else Pv (i + 1) acc τ1 H5)
  (hd : ∀ acc τ H d, Pv z.length acc τ H → H d = none → Q (.ref d) (upd H d (.lst acc))) : R (Its z) H := by
 refine iV hR z.length hz Pv h0 hl (fun i acc τ H hi _ => hi) (fun acc τ H _ => rfl) (fun i acc τ H x H3 hi p y => ?_) hd
 obtain ⟨rfl, c, hc, rfl⟩ := y
 exact hs i c acc τ _ hc p
end
open PySem PySem.Spec PyProof.Rows PySem.NumText
def jnL (c : Nat) : List (List Nat) → List Nat
 | [] => []
 | [x] => x
 | x :: y :: r => x ++ c :: jnL c (y :: r)
theorem jU (c : Nat) : ∀ ts : List Str, (Str.join ⟨#[c]⟩ ts).cps.toList = jnL c (ts.map fun t => t.cps.toList)
 | [] => rfl
 | [x] => rfl
 | x :: y :: r => by
  have ih := jU c (y :: r)
  show ((x ++ (⟨#[c]⟩ : Str) ++ Str.join ⟨#[c]⟩ (y :: r)) : Str).cps.toList = _
  rw [Str.cps_append, Str.cps_append, Array.toList_append, Array.toList_append, ih]
  show x.cps.toList ++ [c] ++ _ = x.cps.toList ++ c :: _
  rw [List.append_assoc]
  rfl
theorem xr {c : Nat} {x : List Nat} {r : List (List Nat)} : ∃ t, jnL c (x :: r) = x ++ t ∧ (t = [] ∧ r = [] ∨ ∃ y s, r = y :: s ∧ t = c :: jnL c r) := by
 cases r with
 | nil => exact ⟨[], (List.append_nil x).symm, .inl ⟨rfl, rfl⟩⟩
 | cons y s => exact ⟨_, rfl, .inr ⟨y, s, rfl, rfl⟩⟩
theorem uG {c : Nat} : ∀ {x y s t : List Nat}, c ∉ x → c ∉ y → (s = [] ∨ ∃ s', s = c :: s') → (t = [] ∨ ∃ t', t = c :: t') → x ++ s = y ++ t → x = y ∧ s = t
 | [], [], s, t, _, _, _, _, e => ⟨rfl, e⟩
 | [], b :: y, s, t, _, hy, hs, _, e => by
  rcases hs with rfl | ⟨s', rfl⟩
  ·cases e
  ·have : c = b := by injection e
   exact absurd (this ▸ List.mem_cons_self ..) hy
 | a :: x, [], s, t, hx, _, _, ht, e => by
  rcases ht with rfl | ⟨t', rfl⟩
  ·cases e
  ·have : a = c := by injection e
   exact absurd (this ▸ List.mem_cons_self ..) hx
 | a :: x, b :: y, s, t, hx, hy, hs, ht, e => by
  have e1 : a = b := by injection e
  have e2 : x ++ s = y ++ t := by injection e
  obtain ⟨h1, h2⟩ := uG (fun z => hx (List.mem_cons_of_mem _ z)) (fun z => hy (List.mem_cons_of_mem _ z)) hs ht e2
  exact ⟨by rw [e1, h1], h2⟩
theorem Dk {c : Nat} : ∀ {ps qs : List (List Nat)}, ps ≠ [] → qs ≠ [] → (∀ p ∈ ps, c ∉ p) → (∀ q ∈ qs, c ∉ q) → jnL c ps = jnL c qs → ps = qs
 | [], _, h, _, _, _, _ => absurd rfl h
 | _ :: _, [], _, h, _, _, _ => absurd rfl h
 | p :: ps, q :: qs, _, _, hp, hq, e => by
  obtain ⟨t1, e1, c1⟩ := xr (c := c) (x := p) (r := ps)
  obtain ⟨t2, e2, c2⟩ := xr (c := c) (x := q) (r := qs)
  rw [e1, e2] at e
  have k1 : t1 = [] ∨ ∃ s', t1 = c :: s' := by
   rcases c1 with ⟨z, _⟩ | ⟨_, _, _, z⟩
   ·exact .inl z
   ·exact .inr ⟨_, z⟩
  have k2 : t2 = [] ∨ ∃ s', t2 = c :: s' := by
   rcases c2 with ⟨z, _⟩ | ⟨_, _, _, z⟩
   ·exact .inl z
   ·exact .inr ⟨_, z⟩
  obtain ⟨h1, h2⟩ := uG (hp p (List.mem_cons_self ..)) (hq q (List.mem_cons_self ..)) k1 k2 e
  subst h1
  rcases c1 with ⟨z1, z2⟩ | ⟨y1, s1, z1, z2⟩
  ·rcases c2 with ⟨w1, w2⟩ | ⟨y2, s2, w1, w2⟩
   ·rw [z2, w2]
   ·rw [z1, w2] at h2; cases h2
  ·rcases c2 with ⟨w1, w2⟩ | ⟨y2, s2, w1, w2⟩
   ·rw [z2, w1] at h2; cases h2
   ·rw [z2, w2] at h2
    have h3 : jnL c ps = jnL c qs := by injection h2
    rw [Dk (by rw [z1]; exact List.cons_ne_nil _ _) (by rw [w1]; exact List.cons_ne_nil _ _) (fun a ha => hp a (List.mem_cons_of_mem _ ha)) (fun a ha => hq a (List.mem_cons_of_mem _ ha)) h3]
theorem tM (x : Str) (c : Nat) : Txt.split x ⟨#[c]⟩ ≠ [] := by
 intro e
 have h := StrLaws.join_split x ⟨#[c]⟩
 unfold Txt.split at e
 split at e
 ·cases e
 ·split at e
  ·cases e
  ·rename_i h2
   rw [StrLaws.partsBetween_eq] at e
   revert e
   cases Builtin.Str.occurrences x ⟨#[c]⟩ 0 x.length (x.length + 1) <;> (intro e; cases e)
theorem mO {c : Nat} {ts : List Str} (hne : ts ≠ []) (hf : ∀ t ∈ ts, c ∉ t.cps.toList) : Txt.split (Txt.join ⟨#[c]⟩ ts) ⟨#[c]⟩ = ts := by
 have ej : Txt.join ⟨#[c]⟩ ts = Str.join ⟨#[c]⟩ ts := StrLaws.glued_eq_join _ _
 rw [ej]
 have h1 := StrLaws.join_split (Str.join ⟨#[c]⟩ ts) ⟨#[c]⟩
 have h2 := tM (Str.join ⟨#[c]⟩ ts) c
 have h3 := StrLaws.split_free (Str.join ⟨#[c]⟩ ts) c
 generalize Txt.split (Str.join ⟨#[c]⟩ ts) ⟨#[c]⟩ = ps at h1 h2 h3
 have h4 := congrArg (fun z : Str => z.cps.toList) h1
 simp only [jU] at h4
 have h5 := Dk (c := c) (by simpa using h2) (by simpa using hne) (fun p hp => by
  obtain ⟨t, ht, rfl⟩ := List.mem_map.mp hp
  exact h3 t ht) (fun p hp => by
  obtain ⟨t, ht, rfl⟩ := List.mem_map.mp hp
  exact hf t ht) h4
 have inj : ∀ {as bs : List Str}, as.map (fun t => t.cps.toList) = bs.map (fun t => t.cps.toList) → as = bs := by
  intro as
  induction as with
  | nil =>
   intro bs e
   cases bs with
   | nil => rfl
   | cons b bs => cases e
  | cons a as ih =>
   intro bs e
   cases bs with
   | nil => cases e
   | cons b bs =>
    rw [List.map_cons, List.map_cons] at e
    have e1 : a.cps.toList = b.cps.toList := by injection e
    have e2 : as.map (fun t => t.cps.toList) = bs.map (fun t => t.cps.toList) := by injection e
    rw [ih e2, Str.ext' (Array.toList_inj.mp e1)]
 exact inj h5
def eV (x : Str) : List Nat := if x.cps.toList.head? = some 45 then x.cps.toList.tail else x.cps.toList
def gP (c : Nat) : Bool := decide (48 ≤ c) && decide (c ≤ 57)
def aX (x : Str) : Bool := decide (1 ≤ (eV x).length) && decide ((eV x).length ≤ 20) && (eV x).all gP && !(decide ((eV x).head? = some 48) && decide (x ≠ "0"))
def dB (x : Str) : Int := if x.cps.toList.head? = some 45 then -((digitsVal (eV x) : Nat) : Int) else ((digitsVal (eV x) : Nat) : Int)
def gm (x : Str) : V := if aX x = true then .int (dB x) else .non
theorem oG {l : List Nat} : l.all gP = true ↔ AllDigits l := by
 rw [List.all_eq_true]
 unfold gP AllDigits
 constructor
 ·intro h c hc
  simpa using h c hc
 ·intro h c hc
  simpa using h c hc
theorem nH {x : Str} (h : aX x = true) : PySem.intText? x = some (dB x) ∧ x.length ≤ 21 := by
 unfold aX at h
 simp only [Bool.and_eq_true, decide_eq_true_eq] at h
 obtain ⟨⟨⟨h1, h2⟩, h3⟩, _⟩ := h
 have hd := oG.mp h3
 have hl : x.cps.toList.length = x.length := by simp [Str.length]
 unfold dB
 by_cases c : x.cps.toList.head? = some 45
 ·have hf : eV x = x.cps.toList.tail := by unfold eV; rw [if_pos c]
  rw [if_pos c]
  cases e : x.cps.toList with
  | nil => rw [e] at c; cases c
  | cons a r =>
   rw [e] at c
   have ha : a = 45 := by simpa using c
   subst ha
   rw [hf, e, List.tail_cons] at h1 h2 hd ⊢
   have hl2 : x.length ≤ 21 := by rw [← hl, e, List.length_cons]; omega
   exact ⟨intText_neg e hd (fun z => by rw [z] at h1; simp at h1) (by omega), hl2⟩
 ·have hf : eV x = x.cps.toList := by unfold eV; rw [if_neg c]
  rw [if_neg c]
  rw [hf] at h1 h2 hd ⊢
  exact ⟨intText_digits hd (fun z => by rw [z] at h1; simp at h1) (by omega), by omega⟩
theorem xQ {m : Nat} (h : 10 ≤ m) : Nat.toDigits 10 m = Nat.toDigits 10 (m / 10) ++ [Nat.digitChar (m % 10)] := by
 have q := Nat.toDigits_append_toDigits (b := 10) (n := m / 10) (d := m % 10) (by decide) (by omega) (by omega)
 rw [Nat.toDigits_of_lt_base (n := m % 10) (by omega), show 10 * (m / 10) + m % 10 = m by omega] at q
 exact q.symm
theorem pL (m : Nat) : ∀ k : Nat, m < 10 ^ (k + 1) → (Nat.toDigits 10 m).length ≤ k + 1 :=
 Nat.strongRecOn m fun m ih k hk => by
  rcases Nat.lt_or_ge m 10 with g | g
  ·rw [show Nat.toDigits 10 m = _ from Nat.toDigits_of_lt_base g]; simp
  ·rw [xQ g, List.length_append]
   cases k with
   | zero => omega
   | succ k =>
    have := ih (m / 10) (by omega) k (by rw [Nat.pow_succ] at hk; omega)
    show _ + 1 ≤ _
    omega
theorem mH (m : Nat) : 0 < m → ∃ c r, Nat.toDigits 10 m = c :: r ∧ c ≠ '0' :=
 Nat.strongRecOn m fun m ih h0 => by
  rcases Nat.lt_or_ge m 10 with g | g
  ·rw [show Nat.toDigits 10 m = _ from Nat.toDigits_of_lt_base g]
   have dg : ∀ d : Nat, d < 10 → 0 < d → Nat.digitChar d ≠ '0' := by decide
   exact ⟨_, [], rfl, dg m g h0⟩
  ·obtain ⟨c, r, e, hc⟩ := ih (m / 10) (by omega) (by omega)
   exact ⟨c, r ++ [Nat.digitChar (m % 10)], by rw [xQ g, e]; rfl, hc⟩
theorem xP (m : Nat) : AllDigits ((Nat.toDigits 10 m).map Char.toNat) := fun c hc => by
 rcases List.mem_map.mp hc with ⟨d, hd, rfl⟩
 exact digit_range (Nat.isDigit_of_mem_toDigits (b := 10) (n := m) (by decide) (by decide) hd)
theorem DQ (m : Nat) : (Nat.toDigits 10 m).map Char.toNat ≠ [] := List.ne_nil_of_length_pos (by rw [List.length_map]; exact toDigits_len_ge 10 m)
theorem yo (m : Nat) : (Str.ofString (toString (Int.negSucc m))).cps.toList = 45 :: (Nat.toDigits 10 (m + 1)).map Char.toNat := by
 rw [signs_ofString]
 show (("-" ++ Nat.repr (m + 1)) : String).toList.map Char.toNat = _
 rw [String.toList_append, List.map_append, Nat.toList_repr]
 rfl
theorem um {n : Int} (h : n.natAbs < 10 ^ 20) : gm (Str.ofString (toString n)) = .int n := by
 have key : aX (Str.ofString (toString n)) = true ∧ dB (Str.ofString (toString n)) = n := by
  cases n with
  | ofNat m =>
   have e := PySem.W.KIN.signs_num m
   replace h : m < 10 ^ 20 := h
   have hall := xP m
   have hne := DQ m
   have hn45 : ¬ ((Nat.toDigits 10 m).map Char.toNat).head? = some 45 := fun z => by
    have := hall 45 (List.mem_of_head? z)
    omega
   have hf : eV (Str.ofString (toString (Int.ofNat m))) = (Nat.toDigits 10 m).map Char.toNat := by
    unfold eV
    rw [show (Str.ofString (toString (Int.ofNat m))).cps.toList = _ from e, if_neg hn45]
   have hz : ¬ (((Nat.toDigits 10 m).map Char.toNat).head? = some 48 ∧ Str.ofString (toString (Int.ofNat m)) ≠ "0") := fun ⟨z1, z2⟩ => by
    rcases Nat.eq_zero_or_pos m with rfl | hm
    ·exact z2 rfl
    ·obtain ⟨c, r, e2, hc⟩ := mH m hm
     rw [e2] at z1
     have : c.toNat = 48 := by simpa using z1
     exact hc (Char.ext (UInt32.toNat_inj.mp this))
   refine ⟨?_, ?_⟩
   ·unfold aX
    rw [hf]
    have hl := pL m 19 h
    have hl1 : 1 ≤ ((Nat.toDigits 10 m).map Char.toNat).length := List.length_pos_iff.mpr hne
    rw [decide_eq_true hl1, decide_eq_true (by rw [List.length_map]; exact hl), oG.mpr hall]
    simp only [Bool.and_true, Bool.true_and, Bool.not_eq_true', Bool.and_eq_false_iff, decide_eq_false_iff_not]
    by_cases z : ((Nat.toDigits 10 m).map Char.toNat).head? = some 48
    ·exact .inr fun z2 => hz ⟨z, z2⟩
    ·exact .inl z
   ·unfold dB
    rw [hf, show (Str.ofString (toString (Int.ofNat m))).cps.toList = _ from e, if_neg hn45, PySem.W.KIN.val_back]
    rfl
  | negSucc m =>
   have e := yo m
   replace h : m + 1 < 10 ^ 20 := h
   have hall := xP (m + 1)
   have hne := DQ (m + 1)
   have hf : eV (Str.ofString (toString (Int.negSucc m))) = (Nat.toDigits 10 (m + 1)).map Char.toNat := by
    unfold eV
    rw [e]
    rfl
   have hz : ¬ ((Nat.toDigits 10 (m + 1)).map Char.toNat).head? = some 48 := fun z1 => by
    obtain ⟨c, r, e2, hc⟩ := mH (m + 1) (by omega)
    rw [e2] at z1
    have : c.toNat = 48 := by simpa using z1
    exact hc (Char.ext (UInt32.toNat_inj.mp this))
   refine ⟨?_, ?_⟩
   ·unfold aX
    rw [hf]
    have hl := pL (m + 1) 19 h
    have hl1 : 1 ≤ ((Nat.toDigits 10 (m + 1)).map Char.toNat).length := List.length_pos_iff.mpr hne
    rw [decide_eq_true hl1, decide_eq_true (by rw [List.length_map]; exact hl), oG.mpr hall, decide_eq_false hz]
    rfl
   ·unfold dB
    rw [hf, e, if_pos (List.head?_cons ..), PySem.W.KIN.val_back]
    rfl
 unfold gm
 rw [if_pos key.1, key.2]
def J7 : R2 := fun x y H Q => match x, y with
 | .str i, .str j => Q (.bl (!(Builtin.Str.occurrences j i 0 j.length 1).isEmpty)) H
 | _, _ => False
theorem FQ (i j : Str) (H : Hp) (Q : VK) : J7 (.str i) (.str j) H Q = Q (.bl (!(Builtin.Str.occurrences j i 0 j.length 1).isEmpty)) H := rfl
theorem K1 {X : Cx} : OpR X (compareOp .In) J7 := by
 intro pins s σ H x y v u Q I rx ry h
 unfold J7 at h
 split at h
 ·exact yN pins s σ H _ _ v u Q I rx ry ⟨_, _, rfl, rfl, h⟩
 ·exact h.elim
theorem LR (c : Nat) : (!(Builtin.Str.occurrences ("0123456789" : Str) ⟨#[c]⟩ 0 ("0123456789" : Str).length 1).isEmpty) = gP c := by
 rw [StrLaws.found_one]
 have e : ("0123456789" : Str).cps.toList = [48, 49, 50, 51, 52, 53, 54, 55, 56, 57] := by decide
 rw [e]
 unfold gP
 rw [← Bool.decide_and]
 refine decide_eq_decide.mpr ?_
 simp only [List.mem_cons, List.not_mem_nil, or_false]
 omega
theorem uT (x : Str) (c : Nat) : Txt.startswith x ⟨#[c]⟩ = decide (x.cps.toList.head? = some c) := by
 have h := StrLaws.subAt_one x c 0
 rw [← List.head?_eq_getElem?] at h
 unfold Txt.startswith
 cases e : Builtin.Str.subAt x ⟨#[c]⟩ 0 with
 | true =>
  rw [Bool.and_true]
  exact decide_eq_decide.mpr ⟨fun z => h.mp ⟨z, e⟩, fun z => (h.mpr z).1⟩
 | false =>
  rw [Bool.and_false]
  exact (decide_eq_false fun z => by have := (h.mpr z).2; rw [e] at this; cases this).symm
def JW : V → Option Int → Option Int → Hp → VK → Prop := fun x lo hi H Q => match x with
 | .str z => z.length ≤ sizeLine ∧ Q (.str (Txt.slice z lo hi)) H
 | _ => False
theorem Fx (z : Str) (lo hi : Option Int) (H : Hp) (Q : VK) : JW (.str z) lo hi H Q = (z.length ≤ sizeLine ∧ Q (.str (Txt.slice z lo hi)) H) := rfl
theorem JR {X : Cx} : SlR X JW := by
 intro pins s σ H x v vl vu lo hi sl Q I rx hs pl pu h
 unfold JW at h
 split at h
 ·rename_i z
  obtain ⟨hz, q⟩ := h
  obtain ⟨t, rfl⟩ := rx
  refine ⟨"str", _, F.slot_str_getitem.lookup, typeIs_str _ _ _, ?_⟩
  have fin : ∀ t' k, EP X pins σ Q (.str (Txt.slice z lo hi) t') { s with toks := k } := fun t' k => ⟨.str _, H, I.tok _, ⟨_, rfl⟩, q⟩
  cases pl with
  | none =>
   cases pu with
   | none => exact wpAny_getItem_str_slice (l := none) (u := none) (st := none) hs rfl (post_val_or_str ⟨Nat.le_trans (Txt.slice_le z _ _) hz, fin⟩)
   | int j uj => exact wpAny_getItem_str_slice (l := none) (u := some (j, uj)) (st := none) hs rfl (post_val_or_str ⟨Nat.le_trans (Txt.slice_le z _ _) hz, fin⟩)
  | int i ui =>
   cases pu with
   | none => exact wpAny_getItem_str_slice (l := some (i, ui)) (u := none) (st := none) hs rfl (post_val_or_str ⟨Nat.le_trans (Txt.slice_le z _ _) hz, fin⟩)
   | int j uj => exact wpAny_getItem_str_slice (l := some (i, ui)) (u := some (j, uj)) (st := none) hs rfl (post_val_or_str ⟨Nat.le_trans (Txt.slice_le z _ _) hz, fin⟩)
 ·exact h.elim
theorem yj {z : Str} {c : Nat} {r : List Nat} (h : z.cps.toList = c :: r) : (Txt.slice z (some 1) none).cps.toList = r := by
 have hl : z.length = r.length + 1 := by rw [← List.length_cons, ← h]; simp [Str.length]
 rw [slice_from_eq (b := (z.length : Int)) (by decide) (by omega) rfl, h]
 show (((c :: r).drop 1).take _).toArray.toList = r
 rw [List.drop_one, List.tail_cons]
 simp only [List.toList_toArray]
 exact List.take_of_length_le (by omega)
def J5 : R2 := fun x y H Q => match x, y with
 | .str z, .int i => z.length ≤ sizeLine ∧ ∃ c, atI z.cps.toList i = some c ∧ Q (.str ⟨#[c]⟩) H
 | _, _ => False
theorem FJ (z : Str) (i : Int) (H : Hp) (Q : VK) : J5 (.str z) (.int i) H Q = (z.length ≤ sizeLine ∧ ∃ c, atI z.cps.toList i = some c ∧ Q (.str ⟨#[c]⟩) H) := rfl
theorem Hy {X : Cx} : IxR X J5 := by
 intro value slice pins s σ H x y v u Q I rx ry q hs
 unfold J5 at q
 split at q
 ·obtain ⟨h1, c, h2, h3⟩ := q
  exact Lr value slice pins s σ H _ _ v u Q I rx ry ⟨_, _, c, rfl, rfl, h1, h2, h3⟩ hs
 ·exact q.elim
def Bt : List V → Hp → VK → Prop := fun vs H Q => match vs with
 | [.str z] => z.length ≤ sizeLine ∧ Q (.int z.length) H
 | _ => False
theorem Bs (z : Str) (H : Hp) (Q : VK) : Bt [.str z] H Q = (z.length ≤ sizeLine ∧ Q (.int z.length) H) := rfl
theorem zE {X : Cx} : cg X (.builtin "len") Bt := by
 intro pins s σ H xs us Q I r h
 unfold Bt at h
 split at h
 ·exact sH pins s σ H _ us Q I r ⟨_, rfl, h.1, h.2⟩
 ·exact h.elim
def rdT := And.intro @Jx (And.intro @Dp (And.intro @Bv (And.intro @Hv (And.intro @yG (And.intro @vq (And.intro @Fw (And.intro @Fv (And.intro @BP (And.intro @Ih (And.intro @Ia (And.intro @FQ (And.intro @Fx (And.intro @FJ @Bs)))))))))))))
def Aw : Sp := fun vs H Q _ => ∃ x : Str, vs = [.str x] ∧ x.length ≤ sizeLine ∧ ∀ H', Same H H' → Q (gm x) H'
theorem Il {x : Str} : eV x = (if Txt.startswith x ⟨#[45]⟩ = true then Txt.slice x (some 1) none else x).cps.toList := by
 rw [uT]
 unfold eV
 by_cases c : x.cps.toList.head? = some 45
 ·rw [if_pos c, if_pos (by rw [decide_eq_true c])]
  cases e : x.cps.toList with
  | nil => rw [e] at c; cases c
  | cons a r => rw [yj e]; rfl
 ·rw [if_neg c, if_neg (by rw [decide_eq_false c]; decide)]
theorem yV (x : Str) : cW (gm x) = true := by
 unfold gm
 split <;> rfl
theorem yU (ts : List Str) : (ts.map gm).all cW = true := by
 rw [List.all_map, List.all_eq_true]
 exact fun t _ => yV t
def wF : Sp := fun vs H Q _ => ∃ (a : Addr) (ts : List Str), vs = [.ref a] ∧ H a = some (.lst (ts.map V.str)) ∧ ts.length ≤ 9000 ∧ (∀ t ∈ ts, t.length ≤ sizeLine) ∧
 (∀ H', Same H H' → (∃ t ∈ ts, aX t = false) → Q .non H') ∧ ∀ (p : Addr) H', H p = none → Same H H' → (∀ t ∈ ts, aX t = true) → H' p = some (.lst ((ts.map dB).map V.int)) → Q (.ref p) H'
theorem wY (ts : List Str) : inV .non (ts.map gm) = true ↔ ∃ t ∈ ts, aX t = false := by
 unfold inV
 rw [List.any_map, List.any_eq_true]
 have key : ∀ t, ((fun y => eqV y V.non) ∘ gm) t = true ↔ aX t = false := fun t => by
  show eqV (gm t) V.non = true ↔ _
  unfold gm
  cases aX t with
  | true => rw [if_pos rfl]; exact ⟨fun z => (nomatch z), fun z => (nomatch z)⟩
  | false => rw [if_neg (by decide)]; exact ⟨fun _ => rfl, fun _ => rfl⟩
 exact ⟨fun ⟨t, h1, h2⟩ => ⟨t, h1, (key t).mp h2⟩, fun ⟨t, h1, h2⟩ => ⟨t, h1, (key t).mpr h2⟩⟩
theorem yS {ts : List Str} (h : ∀ t ∈ ts, aX t = true) : ts.map gm = (ts.map dB).map V.int := by
 rw [List.map_map]
 refine List.map_congr_left fun t ht => ?_
 unfold gm
 rw [if_pos (h t ht)]
 rfl
abbrev tsI (i : Int) : Str := Str.ofString (toString i)
def fD : cV → List Str
 | .ins w is => w :: is.map tsI
 | .tab n gs => "table" :: tsI n :: gs.map tsI
def dO (r : cV) : Str := Txt.join " " (fD r)
def jG (rs : List cV) : Str := Txt.join "\n" (rs.map dO)
def SmI (i : Int) : Prop := i.natAbs < 10 ^ 20
def eN : cV → Prop
 | .ins w is => w ≠ "table" ∧ (∀ i ∈ is, SmI i) ∧ is.length ≤ 4 ∧ w.length ≤ 10 ∧ 32 ∉ w.cps.toList ∧ 10 ∉ w.cps.toList
 | .tab n gs => SmI n ∧ (∀ i ∈ gs, SmI i) ∧ gs.length ≤ 200
theorem jB {i : Int} (h : SmI i) : (tsI i).length ≤ 21 := by
 have hb := um h
 have ho : aX (tsI i) = true := by
  unfold gm at hb
  split at hb
  ·assumption
  ·cases hb
 exact (nH ho).2
theorem uY {i : Int} (h : SmI i) : aX (tsI i) = true ∧ dB (tsI i) = i := by
 have hb := um h
 unfold gm at hb
 split at hb
 ·rename_i c
  exact ⟨c, V.int.inj hb⟩
 ·cases hb
theorem mj {i : Int} (h : SmI i) : i.natAbs.log2 < 1920 := by
 by_cases z : i.natAbs = 0
 ·rw [z]; decide
 ·have : i.natAbs < 2 ^ 70 := Nat.lt_of_lt_of_le h (by decide)
  have := (Nat.log2_lt z).mpr this
  omega
theorem w6 {L : Nat} : ∀ {ts : List Str}, (∀ t ∈ ts, t.length ≤ L) → (ts.map (·.length)).sum ≤ ts.length * L
 | [], _ => by simp
 | t :: ts, h => by
  have h1 := h t (List.mem_cons_self ..)
  have h2 := w6 fun a ha => h a (List.mem_cons_of_mem _ ha)
  rw [List.map_cons, List.sum_cons, List.length_cons]
  have e : (ts.length + 1) * L = ts.length * L + L := Nat.succ_mul ..
  omega
theorem uF {L n : Nat} {sep : Str} {ts : List Str} (h : ∀ t ∈ ts, t.length ≤ L) (hn : ts.length ≤ n) : (ts.map (·.length)).sum + ts.length * sep.length ≤ n * (L + sep.length) := by
 have h1 := w6 h
 have h2 := Nat.mul_le_mul_right (L + sep.length) hn
 rw [Nat.mul_add] at h2
 omega
theorem qi {L n : Nat} {sep : Str} {ts : List Str} (h : ∀ t ∈ ts, t.length ≤ L) (hn : ts.length ≤ n) (hb : n * (L + sep.length) ≤ 10000000) : JoinOk sep ts = true := by
 unfold JoinOk Builtin.Str.tooLong
 rw [StrLaws.joinTotal, Bool.not_eq_true', decide_eq_false_iff_not]
 have := uF (sep := sep) h hn
 rw [sizeLine_eq]
 omega
theorem join_le {L n : Nat} {sep : Str} {ts : List Str} (h : ∀ t ∈ ts, t.length ≤ L) (hn : ts.length ≤ n) : (Txt.join sep ts).length ≤ n * (L + sep.length) := by
 show (Builtin.Str.glued sep ts).length ≤ _
 rw [StrLaws.glued_eq_join]
 exact Nat.le_trans (StrLaws.join_length_le sep ts) (uF h hn)
theorem fu {r : cV} (h : eN r) : (∀ t ∈ fD r, t.length ≤ 21) ∧ (fD r).length ≤ 202 := by
 cases r with
 | ins w is =>
  obtain ⟨_, h1, h2, h3, _⟩ := h
  refine ⟨fun t ht => ?_, ?_⟩
  ·rcases List.mem_cons.mp ht with rfl | ht
   ·omega
   ·obtain ⟨i, hi, rfl⟩ := List.mem_map.mp ht
    exact jB (h1 i hi)
  ·show (w :: is.map tsI).length ≤ 202
   rw [List.length_cons, List.length_map]
   omega
 | tab n gs =>
  obtain ⟨h1, h2, h3⟩ := h
  refine ⟨fun t ht => ?_, ?_⟩
  ·rcases List.mem_cons.mp ht with rfl | ht
   ·decide
   ·rcases List.mem_cons.mp ht with rfl | ht
    ·exact jB h1
    ·obtain ⟨i, hi, rfl⟩ := List.mem_map.mp ht
     exact jB (h2 i hi)
  ·show (("table" : Str) :: tsI n :: gs.map tsI).length ≤ 202
   rw [List.length_cons, List.length_cons, List.length_map]
   omega
theorem jm {r : cV} (h : eN r) : JoinOk " " (fD r) = true := qi (fu h).1 (fu h).2 (by decide)
theorem m9 {r : cV} (h : eN r) : (dO r).length ≤ 4444 := join_le (sep := " ") (fu h).1 (fu h).2
theorem m5 {rs : List cV} (h : ∀ r ∈ rs, eN r) (hl : rs.length ≤ 400) : JoinOk "\n" (rs.map dO) = true :=
 qi (L := 4444) (n := 400) (fun t ht => by
  obtain ⟨r, hr, rfl⟩ := List.mem_map.mp ht
  exact m9 (h r hr)) (by rw [List.length_map]; exact hl) (by decide)
theorem yw {rs : List cV} (h : ∀ r ∈ rs, eN r) (hl : rs.length ≤ 400) : (jG rs).length ≤ 1778000 :=
 join_le (L := 4444) (n := 400) (sep := "\n") (fun t ht => by
  obtain ⟨r, hr, rfl⟩ := List.mem_map.mp ht
  exact m9 (h r hr)) (by rw [List.length_map]; exact hl)
def iQ : Sp := fun vs H Q _ => ∃ (v : V) (ok : Addr → Prop) (r : cV), vs = [v] ∧ aK ok H v (dM r) ∧ eN r ∧ ∀ H', Same H H' → Q (.str (dO r)) H'
def mQ : Sp := fun vs H Q _ => ∃ (v : V) (ok : Addr → Prop) (rs : List cV), vs = [v] ∧ aK ok H v (.list (rs.map dM)) ∧ (∀ r ∈ rs, eN r) ∧ rs.length ≤ 400 ∧ ∀ H', Same H H' → Q (.str (jG rs)) H'
def wdV : V → Str
 | .str t => t
 | .int n => tsI n
 | _ => ""
def K7 : V → Prop
 | .str _ => True
 | .int n => SmI n
 | _ => False
theorem zV (w : Str) (is : List Int) : (V.str w :: is.map V.int).map wdV = fD (.ins w is) := by
 show w :: (is.map V.int).map wdV = w :: is.map tsI
 rw [List.map_map]
 rfl
theorem Jq (n : Int) (gs : List Int) : (V.str "table" :: V.int n :: gs.map V.int).map wdV = fD (.tab n gs) := by
 show ("table" : Str) :: tsI n :: (gs.map V.int).map wdV = ("table" : Str) :: tsI n :: gs.map tsI
 rw [List.map_map]
 rfl
theorem lq {is : List Int} (h : ∀ i ∈ is, SmI i) : ∀ v ∈ is.map V.int, K7 v := fun v hv => by
 obtain ⟨i, hi, rfl⟩ := List.mem_map.mp hv
 exact h i hi
def O4 (H : Hp) (ys : List V) : cV → Prop
 | .ins w is => ys = V.str w :: is.map V.int
 | .tab n gs => ∃ b, ys = [V.str "table", V.int n, V.ref b] ∧ H b = some (.tup (gs.map V.int))
theorem tG {ok : Addr → Prop} {H : Hp} {v : V} {r : cV} (t : aK ok H v (dM r)) : ∃ (a : Addr) (ys : List V), v = .ref a ∧ H a = some (.tup ys) ∧ O4 H ys r := by
 cases r with
 | ins w is =>
  cases t with
  | tup o e z ts =>
   cases ts with
   | cons t1 ts =>
    cases t1
    rw [ts.ints] at e
    exact ⟨_, _, rfl, e, rfl⟩
 | tab n gs =>
  cases t with
  | tup o e z ts => cases ts with | cons t1 ts => cases t1; cases ts with | cons t2 ts => cases t2; cases ts with | cons t3 ts => cases ts; cases t3 with | tup o3 e3 z3 ts3 => rw [ts3.ints] at e3; exact ⟨_, _, rfl, e, _, rfl, e3⟩
def pY : List Str → PyData
 | [] => .none
 | w :: ts => if ts.all aX = true then (if w = "table" ∧ ts ≠ [] then .tuple [.str "table", .int (dB (ts.headD "")), .tuple ((ts.tail.map dB).map PyData.int)]
   else .tuple (.str w :: (ts.map dB).map PyData.int)) else .none
theorem pX {t : Str} {r : List Str} (h : (t :: r).all aX = true) : pY ("table" :: t :: r) = .tuple [.str "table", .int (dB t), .tuple ((r.map dB).map PyData.int)] := by
 show (if (t :: r).all aX = true then _ else PyData.none) = _
 rw [if_pos h, if_pos ⟨rfl, List.cons_ne_nil _ _⟩]
 rfl
theorem kZ {w : Str} {ts : List Str} (h : ts.all aX = true) (hw : ¬ (w = "table" ∧ ts ≠ [])) : pY (w :: ts) = .tuple (.str w :: (ts.map dB).map PyData.int) := by
 show (if ts.all aX = true then _ else PyData.none) = _
 rw [if_pos h, if_neg hw]
def uc (x : Str) : PyData := pY (Txt.split x " ")
def pR : Sp := fun vs H Q _ => ∃ (x : Str) (ok : Addr → Prop), vs = [.str x] ∧ Jk ok H ∧ x.length ≤ sizeLine ∧ (Txt.split x " ").length ≤ 9000 ∧ ∀ (v : V) H', Same H H' → aK ok H' v (uc x) → Q v H'
theorem Cy (x : Str) (c : Nat) : ∀ t ∈ Txt.split x ⟨#[c]⟩, t.length ≤ x.length := by
 have h : ∀ (ps : List (List Nat)) (p : List Nat), p ∈ ps → p.length ≤ (jnL c ps).length := by
  intro ps
  induction ps with
  | nil => intro p hp; cases hp
  | cons a ps ih =>
   intro p hp
   cases ps with
   | nil =>
    have e := List.mem_singleton.mp hp
    exact e ▸ Nat.le_refl _
   | cons b r =>
    have e : (jnL c (a :: b :: r)).length = a.length + ((jnL c (b :: r)).length + 1) := by
     show (a ++ c :: jnL c (b :: r)).length = _
     rw [List.length_append, List.length_cons]
    rw [e]
    rcases List.mem_cons.mp hp with rfl | hp
    ·omega
    ·have := ih p hp
     omega
 intro t ht
 have e := congrArg (fun z : Str => z.cps.toList) (StrLaws.join_split x ⟨#[c]⟩)
 simp only [jU] at e
 have := h _ _ (List.mem_map_of_mem (f := fun t : Str => t.cps.toList) ht)
 rw [e] at this
 simp only [Array.length_toList] at this
 exact this
theorem wC : ((" " : Str)) = ⟨#[32]⟩ := by decide +kernel
theorem NK : (("\n" : Str)) = ⟨#[10]⟩ := by decide +kernel
theorem tO (x : Str) : ∃ w ts, Txt.split x " " = w :: ts := by
 rw [wC]
 cases e : Txt.split x ⟨#[32]⟩ with
 | nil => exact absurd e (tM x 32)
 | cons w ts => exact ⟨w, ts, rfl⟩
theorem u5 {w : Str} {is : List Int} (h : cN w is = true) : 32 ∉ w.cps.toList ∧ 10 ∉ w.cps.toList := by
 have hw : w = "pick" ∨ w = "is" ∨ w = "below" ∨ w = "within" ∨ w = "mask" := by
  unfold cN at h
  split at h
  ·rw [Bool.and_eq_true, decide_eq_true_eq] at h
   exact .inl h.1
  ·simp only [Bool.or_eq_true, decide_eq_true_eq] at h
   rcases h with h | h
   ·exact .inr (.inl h)
   ·exact .inr (.inr (.inl h))
  ·rw [Bool.and_eq_true, decide_eq_true_eq] at h
   exact .inr (.inr (.inr (.inl h.1)))
  ·rw [Bool.and_eq_true, decide_eq_true_eq] at h
   exact .inr (.inr (.inr (.inr h.1)))
  ·cases h
 rcases hw with rfl | rfl | rfl | rfl | rfl <;> exact ⟨by decide +kernel, by decide +kernel⟩
theorem nj {many own : Int} {r : cV} (h : eO many own r) (h0 : 0 ≤ own) (hm : many ≤ 1000000) : eN r := by
 cases r with
 | ins w is =>
  obtain ⟨h1, h2, _, h4, h5, h6⟩ := h
  exact ⟨h1, fun i hi => Nat.lt_of_le_of_lt (h4 i hi) (by decide), h5, h6, u5 h2⟩
 | tab n gs =>
  obtain ⟨_, h2, h3, h4⟩ := h
  refine ⟨Nat.lt_of_le_of_lt h4 (by decide), fun i hi => ?_, h2⟩
  have := List.all_eq_true.mp h3 i hi
  unfold btw at this
  simp only [Bool.and_eq_true, decide_eq_true_eq] at this
  show i.natAbs < 10 ^ 20
  have : i.natAbs < 1000000 := by omega
  exact Nat.lt_of_lt_of_le this (by decide)
theorem ni {r : cV} (h : eN r) : ∀ t ∈ fD r, 32 ∉ t.cps.toList ∧ 10 ∉ t.cps.toList := by
 have hi : ∀ i : Int, 32 ∉ (tsI i).cps.toList ∧ 10 ∉ (tsI i).cps.toList := fun i => ⟨int_text_free' 32 (by decide) i, int_text_free' 10 (by decide) i⟩
 intro t ht
 cases r with
 | ins w is =>
  rcases List.mem_cons.mp ht with rfl | ht
  ·exact h.2.2.2.2
  ·obtain ⟨i, _, rfl⟩ := List.mem_map.mp ht
   exact hi i
 | tab n gs =>
  rcases List.mem_cons.mp ht with rfl | ht
  ·exact ⟨by decide +kernel, by decide +kernel⟩
  ·rcases List.mem_cons.mp ht with rfl | ht
   ·exact hi n
   ·obtain ⟨i, _, rfl⟩ := List.mem_map.mp ht
    exact hi i
theorem Bk (r : cV) : fD r ≠ [] := by
 cases r <;> exact List.cons_ne_nil _ _
theorem Dj {c a : Nat} : ∀ {ps : List (List Nat)}, a ∈ jnL c ps → a = c ∨ ∃ p ∈ ps, a ∈ p
 | [], h => (nomatch h)
 | [p], h => .inr ⟨p, List.mem_singleton_self p, h⟩
 | p :: q :: r, h => by
  replace h : a ∈ p ++ c :: jnL c (q :: r) := h
  rcases List.mem_append.mp h with hp | h
  ·exact .inr ⟨p, List.mem_cons_self .., hp⟩
  ·rcases List.mem_cons.mp h with h | h
   ·exact .inl h
   ·rcases Dj h with h | ⟨s, hs, h⟩
    ·exact .inl h
    ·exact .inr ⟨s, List.mem_cons_of_mem _ hs, h⟩
theorem m8 {r : cV} (h : eN r) : Txt.split (dO r) " " = fD r := by
 unfold dO
 rw [wC]
 exact mO (Bk r) fun t ht => (ni h t ht).1
theorem yE {r : cV} (h : eN r) : 10 ∉ (dO r).cps.toList := by
 unfold dO
 rw [wC]
 show 10 ∉ (Builtin.Str.glued ⟨#[32]⟩ (fD r)).cps.toList
 rw [StrLaws.glued_eq_join, jU]
 intro z
 rcases Dj z with z | ⟨p, hp, z⟩
 ·cases z
 ·obtain ⟨t, ht, rfl⟩ := List.mem_map.mp hp
  exact (ni h t ht).2 z
theorem t7 {rs : List cV} (h : ∀ r ∈ rs, eN r) (hne : rs ≠ []) : Txt.split (jG rs) "\n" = rs.map dO := by
 unfold jG
 rw [NK]
 refine mO (by simpa using hne) fun t ht => ?_
 obtain ⟨r, hr, rfl⟩ := List.mem_map.mp ht
 exact yE (h r hr)
theorem qj {is : List Int} (h : ∀ i ∈ is, SmI i) : (is.map tsI).all aX = true ∧ (is.map tsI).map dB = is := by
 refine ⟨?_, ?_⟩
 ·rw [List.all_map, List.all_eq_true]
  exact fun i hi => (uY (h i hi)).1
 ·rw [List.map_map]
  refine (List.map_congr_left fun i hi => ?_).trans (List.map_id is)
  exact (uY (h i hi)).2
theorem vp {r : cV} (h : eN r) : uc (dO r) = dM r := by
 unfold uc
 rw [m8 h]
 cases r with
 | ins w is =>
  obtain ⟨h1, h2⟩ := qj h.2.1
  rw [show fD (.ins w is) = w :: is.map tsI from rfl, kZ h1 fun z => h.1 z.1, h2]
  rfl
 | tab n gs =>
  obtain ⟨h1, h2⟩ := qj h.2.1
  have hn := uY h.1
  rw [show fD (.tab n gs) = ("table" : Str) :: tsI n :: gs.map tsI from rfl, pX (by rw [List.all_cons, hn.1, h1]; rfl), h2, hn.2]
  rfl
def mR : Sp := fun vs H Q _ => ∃ (rs : List cV), vs = [.str (jG rs)] ∧ rs ≠ [] ∧ rs.length ≤ 400 ∧ (∀ (j : Nat) r, rs[j]? = some r → eO rs.length j r) ∧ ∀ (p : Addr) H', H p = none → Same H H' → aK (fun _ => True) H' (.ref p) (.list (rs.map dM)) → Q (.ref p) H'
def wD : Sp := fun vs H Q _ => ∃ (p : Addr) (m B : Int), vs = [.ref p, .int m] ∧ bW H p B ∧ 0 ≤ B ∧ B ≤ 800000 ∧ 1 ≤ m ∧ m ≤ 301 ∧
 ∀ (l : Addr) (rs : List cV) H', bM p H H' → bW H' p (B + 160000) → aK (· ≠ p) H' (.ref l) (.list (rs.map dM)) → (rs.length : Int) = m → (∀ (j : Nat) r, rs[j]? = some r → eO m j r) → Q (.ref l) H'
theorem jw : ∀ {is : List Int}, (∀ i ∈ is, SmI i) → ((PyData.shownAll (is.map PyData.int)).map fun x => x.length).sum + 2 * (PyData.shownAll (is.map PyData.int)).length ≤ 23 * is.length
 | [], _ => by simp [PyData.shownAll]
 | i :: is, h => by
  have h1 := jB (h i (List.mem_cons_self ..))
  have h2 := jw fun a ha => h a (List.mem_cons_of_mem _ ha)
  rw [List.map_cons, PyData.shownAll.eq_2, List.map_cons, List.sum_cons, List.length_cons, List.length_cons]
  have e : (PyData.int i).shown.length = (tsI i).length := rfl
  omega
theorem yC {r : cV} (h : eN r) (hw : ∀ w is, r = .ins w is → (reprText w).length ≤ 50) : (dM r).shown.length + 2 ≤ 5000 := by
 cases r with
 | ins w is =>
  have h1 := jw h.2.1
  have h2 := tupleText_len_le (PyData.shownAll (.str w :: is.map PyData.int))
  have h3 := hw w is rfl
  have h4 := h.2.2.1
  show (PyData.tuple (.str w :: is.map PyData.int)).shown.length + 2 ≤ 5000
  rw [PyData.shown.eq_6]
  rw [PyData.shownAll.eq_2, List.map_cons, List.sum_cons, List.length_cons] at h2
  have e : (PyData.str w).shown.length = (reprText w).length := rfl
  rw [PyData.shownAll.eq_2]
  omega
 | tab n gs =>
  have h1 := jw h.2.1
  have h2 := tupleText_len_le (PyData.shownAll (gs.map PyData.int))
  have h3 := tupleText_len_le (PyData.shownAll [.str "table", .int n, .tuple (gs.map PyData.int)])
  have h4 := h.2.2
  have h5 := jB h.1
  show (PyData.tuple [.str "table", .int n, .tuple (gs.map PyData.int)]).shown.length + 2 ≤ 5000
  rw [PyData.shown.eq_6]
  simp only [PyData.shownAll.eq_2, PyData.shownAll.eq_1, List.map_cons, List.map_nil, List.sum_cons, List.sum_nil, List.length_cons, List.length_nil] at h3 ⊢
  have e1 : (PyData.str "table").shown.length = 7 := by decide +kernel
  have e2 : (PyData.int n).shown.length = (tsI n).length := rfl
  have e3 : (PyData.tuple (gs.map PyData.int)).shown.length ≤ 4700 := by
   rw [PyData.shown.eq_6]
   omega
  omega
theorem mW {w : Str} {is : List Int} (h : cN w is = true) : (reprText w).length ≤ 50 ∧ (w.length ≤ 30 + 2 ∧ ∀ c ∈ w.cps.toList, c < 16 ^ 8) := by
 rcases Ei h with rfl | rfl | rfl | rfl | rfl <;> exact ⟨by decide +kernel, by decide +kernel, by decide +kernel⟩
theorem JM : ∀ {is : List Int}, (∀ i ∈ is, SmI i) → mK 2 (is.map PyData.int)
 | [], _ => trivial
 | i :: is, h => ⟨by have := h i (List.mem_cons_self ..); show i.natAbs ≤ 10 ^ 20 * 2 ^ 2; unfold SmI at this; omega, JM fun a ha => h a (List.mem_cons_of_mem _ ha)⟩
theorem wK {many own : Int} {r : cV} (h : eO many own r) (hs : eN r) : szD 2 (dM r) ∧ (dM r).depth ≤ 2 := by
 cases r with
 | ins w is =>
  refine ⟨⟨by rw [List.length_cons, List.length_map]; have := hs.2.2.1; show is.length + 1 ≤ 5250; omega, (mW h.2.1).2, JM hs.2.1⟩, ?_⟩
  show max 0 (PyData.depthAll (is.map PyData.int)) + 1 ≤ 2
  rw [oH]
  decide
 | tab n gs =>
  refine ⟨⟨by show 3 ≤ 5250; decide, ⟨by decide +kernel, by decide +kernel⟩, by have := hs.1; show n.natAbs ≤ 10 ^ 20 * 2 ^ 2; unfold SmI at this; omega, ⟨by rw [List.length_map]; have := hs.2.2; show gs.length ≤ 5250; omega, JM hs.2.1⟩, trivial⟩, ?_⟩
  show max 0 (max 0 (max (PyData.depthAll (gs.map PyData.int) + 1) 0)) + 1 ≤ 2
  rw [oH]
  decide
theorem qF {L : Nat} : ∀ {ds : List PyData}, (∀ d ∈ ds, d.shown.length + 2 ≤ L) → ((PyData.shownAll ds).map fun x => x.length).sum + 2 * (PyData.shownAll ds).length ≤ L * ds.length
 | [], _ => by simp [PyData.shownAll]
 | d :: ds, h => by
  have h1 := h d (List.mem_cons_self ..)
  have h2 := qF fun a ha => h a (List.mem_cons_of_mem _ ha)
  have e : L * (ds.length + 1) = L * ds.length + L := Nat.mul_succ L ds.length
  rw [PyData.shownAll.eq_2, List.map_cons, List.sum_cons, List.length_cons, List.length_cons, e]
  omega
theorem yp {rs : List cV} {m : Int} (h : ∀ (j : Nat) r, rs[j]? = some r → eO m j r) (hm : m ≤ 1000) (hl : rs.length ≤ 400) : Shw (.list (rs.map dM)) := by
 have hc : ∀ d ∈ rs.map dM, szD 2 d ∧ d.shown.length + 2 ≤ 5000 ∧ d.depth ≤ 2 := fun d hd => by
  obtain ⟨r, hr, rfl⟩ := List.mem_map.mp hd
  obtain ⟨j, hj, e⟩ := List.mem_iff_getElem.mp hr
  have hk := h j r (by rw [← e]; exact List.getElem?_eq_getElem hj)
  have hs := nj hk (by omega) (by omega)
  have h2 := wK hk hs
  exact ⟨h2.1, yC hs fun w is e => by subst e; exact (mW hk.2.1).1, h2.2⟩
 have hz : szD 2 (.list (rs.map dM)) := ⟨by rw [List.length_map]; show rs.length ≤ 5250; omega, pO.mpr fun d hd => (hc d hd).1⟩
 obtain ⟨s1, s2⟩ := wA _ hz
 have h1 := qF fun d hd => (hc d hd).2.1
 have h2 := listText_len_le (PyData.shownAll (rs.map dM))
 rw [List.length_map] at h1
 have d1 := iJ fun d hd => (hc d hd).2.2
 refine ⟨s1, s2, by show PyData.depthAll (rs.map dM) + 1 ≤ 100; omega, ?_⟩
 rw [PyData.shown.eq_5, sizeLine_eq]
 omega
end L2
local macro_rules | `(tactic| push_cast) => `(tactic| simp only [L2.rd0, L2.rd1, L2.rd2, L2.rd3, L2.rd4, L2.rd5, L2.rd6, L2.rd7, L2.rd8, L2.rd9, reduceIte, reduceCtorEq, Nat.reduceAdd, Nat.reduceSub])
local macro_rules | `(tactic| push_cast [$ls,*]) => `(tactic| simp only [L2.rd0, L2.rd1, L2.rd2, L2.rd3, L2.rd4, L2.rd5, L2.rd6, L2.rd7, L2.rd8, L2.rd9, reduceIte, reduceCtorEq, Nat.reduceAdd, Nat.reduceSub, $ls,*])
namespace K48
open PySem L2 PyProof.Rows
def top (i : Nat) : Stmt := PySem.Challenge.pw_caseways_k48_rows_written.main.body.getD i (.Pass ⟨0, 0, 0, 0⟩)
abbrev BLs : List Str := ["abs", "all", "bool", "enumerate", "int", "isinstance", "len", "list", "min", "range", "repr", "str", "tuple", "zip"]
theorem Dd : ("abs" : Str) ∈ BLs := by decide +kernel
theorem rQ : ("all" : Str) ∈ BLs := by decide +kernel
theorem mD : ("bool" : Str) ∈ BLs := by decide +kernel
theorem rP : ("enumerate" : Str) ∈ BLs := by decide +kernel
theorem rO : ("int" : Str) ∈ BLs := by decide +kernel
theorem aM : ("isinstance" : Str) ∈ BLs := by decide +kernel
theorem fM : ("len" : Str) ∈ BLs := by decide +kernel
theorem jR : ("list" : Str) ∈ BLs := by decide +kernel
theorem Le : ("min" : Str) ∈ BLs := by decide +kernel
theorem jQ : ("range" : Str) ∈ BLs := by decide +kernel
theorem wZ : ("repr" : Str) ∈ BLs := by decide +kernel
theorem jt : ("str" : Str) ∈ BLs := by decide +kernel
theorem eF : ("tuple" : Str) ∈ BLs := by decide +kernel
theorem Ld : ("zip" : Str) ∈ BLs := by decide +kernel
abbrev cO : Stmt := top 21
theorem yt : bB ["_law_script", "_law_k"] ["_law_script", "_law_k"] (ak cO) := ⟨rfl, rfl, rfl, by decide +kernel, rfl, by decide +kernel, by decide +kernel⟩
theorem nR : Nm ["_law_script", "_law_k"] (ak cO) 0 "_law_script" := .of (by decide +kernel)
theorem nQ : Nm ["_law_script", "_law_k"] (ak cO) 1 "_law_k" := .of (by decide +kernel)
theorem rY : (ak cO).names.lookup ("len" : Str) = some .globalImplicit := by decide +kernel
theorem zN : Bn "_law_cell_at" := ⟨by decide +kernel, by decide +kernel⟩
abbrev dF : Stmt := top 22
theorem wI : bB ["_law_script", "_law_k", "_law_cell"] ["_law_script", "_law_k"] (ak dF) := ⟨rfl, rfl, rfl, by decide +kernel, rfl, by decide +kernel, by decide +kernel⟩
theorem CV : Nm ["_law_script", "_law_k", "_law_cell"] (ak dF) 0 "_law_script" := .of (by decide +kernel)
theorem nM : Nm ["_law_script", "_law_k", "_law_cell"] (ak dF) 1 "_law_k" := .of (by decide +kernel)
theorem jM : Nm ["_law_script", "_law_k", "_law_cell"] (ak dF) 2 "_law_cell" := .of (by decide +kernel)
theorem nZ : (ak dF).names.lookup ("_law_cell_at" : Str) = some .globalImplicit := by decide +kernel
theorem nY : (ak dF).names.lookup ("abs" : Str) = some .globalImplicit := by decide +kernel
theorem vL : (ak dF).names.lookup ("int" : Str) = some .globalImplicit := by decide +kernel
theorem IK : Bn "_law_tape" := ⟨by decide +kernel, by decide +kernel⟩
abbrev dG : Stmt := top 23
theorem jD : bB ["_law_tape_here", "_law_many", "_law_found", "_law_prime", "_law_once"] ["_law_tape_here", "_law_many"] (ak dG) := ⟨rfl, rfl, rfl, by decide +kernel, rfl, by decide +kernel, by decide +kernel⟩
theorem bQ : Nm ["_law_tape_here", "_law_many", "_law_found", "_law_prime", "_law_once"] (ak dG) 0 "_law_tape_here" := .of (by decide +kernel)
theorem iu : Nm ["_law_tape_here", "_law_many", "_law_found", "_law_prime", "_law_once"] (ak dG) 1 "_law_many" := .of (by decide +kernel)
theorem ig : Nm ["_law_tape_here", "_law_many", "_law_found", "_law_prime", "_law_once"] (ak dG) 2 "_law_found" := .of (by decide +kernel)
theorem uq : Nm ["_law_tape_here", "_law_many", "_law_found", "_law_prime", "_law_once"] (ak dG) 3 "_law_prime" := .of (by decide +kernel)
theorem nO : Nm ["_law_tape_here", "_law_many", "_law_found", "_law_prime", "_law_once"] (ak dG) 4 "_law_once" := .of (by decide +kernel)
theorem rT : (ak dG).names.lookup ("_law_take" : Str) = some .globalImplicit := by decide +kernel
theorem cG : Bn "_law_take" := ⟨by decide +kernel, by decide +kernel⟩
section
variable {P : Program} {w : World} {K : PySem.W.Frag} {mg : Str → Option Value} {base : Heap} {f : Addr} {fd : FuncData} {bs : List Str}
theorem Hj (hB : ∀ x : Str, x ∈ BLs → mg x = none) (F : Fun K "_law_cell_at" "_law_cell_at" cO f fd) : dj P w K mg base CX0 1 f fd ["_law_script", "_law_k"] (Ax K) := by
 refine F.okq yt (fun vs H Q E h => ?_) (fun cdv A outer s H vs Q E hr h => ?_)
 ·obtain ⟨a, ns, k, rfl, _⟩ := h
  rfl
 ·obtain ⟨a, ns, k, rfl, hS, h0, q⟩ := h
  refine ⟨_, (aH (aP (wU (bK lG (aA nQ) (bI fj rY (hB "len" fM) PySem.boot_len fP (aj (aA nR) aq)) (aV _)) (bG xu (aA nR) (aA nQ) (fun _ _ => rfl)) ao))), ?_⟩
  push_cast
  refine ⟨_, .inl hS, ?_⟩
  split
  ·rename_i c
   rw [List.length_map] at c
   have hk : k.toNat < ns.length := by omega
   have ek : k = ((k.toNat : Nat) : Int) := by omega
   have z : atI (ns.map V.int) ((k.toNat : Nat) : Int) = some (.int ns[k.toNat]) := cj (by rw [List.getElem?_map, List.getElem?_eq_getElem hk]; rfl)
   rw [← ek] at z
   unfold MP
   exact ⟨a, _, k, _, rfl, rfl, hS, z, q _⟩
  ·exact q _
theorem G8 (hB : ∀ x : Str, x ∈ BLs → mg x = none) (CZCellAt : Cal P w K mg base "_law_cell_at" 1 ["_law_script", "_law_k"] (Ax K)) (F : Fun K "_law_tape" "_law_tape" dF f fd) : dj P w K mg base CX0 2 f fd ["_law_script", "_law_k"] (Aq K) := by
 refine F.okq wI (fun vs H Q E h => ?_) (fun cdv A outer s H vs Q E hr h => ?_)
 ·obtain ⟨a, ns, k, rfl, _⟩ := h
  rfl
 ·obtain ⟨a, ns, k, rfl, hS, h0, h1, q⟩ := h
  refine ⟨_, (aD (cX jM wI.nd (bH CZCellAt (hr.mono (by decide)) nZ zN (aj (aA CV) (aj (aA nM) aq))))
   (aH (aP (fZ (aj (aO eZ (bI uK nY (hB "abs" Dd) PyProof.Rows.Boot.«abs» Ea (aj (aA jM) aq)) (gY vY vL (hB "int" rO) boot_int sJ (aj (dU Jg (bI uK nY (hB "abs" Dd) PyProof.Rows.Boot.«abs» Ea (aj (aA jM) aq)) (aO CG ao ao) (aV _)) aq))) (aj (aO fJ (aO eZ (aO bJ (aO bJ (aO fJ (aA jM) ao) (aO eZ (aO eZ ao (aA nM)) (aA nM))) ao) ao) ao) (aj ao aq))))))), ?_⟩
  push_cast
  refine ⟨a, ns, k, rfl, hS, h0, fun v => ?_⟩
  push_cast
  refine ⟨⟨by decide, by decide, by decide⟩, ?_, by decide, .inl (by decide), .inr (by omega), .inr (by decide), by decide, aQ (by decide), fun p hp => q p _ hp (au hp) ⟨_, _, _, aB, ?_, ?_, ?_, Int.le_refl _, Int.le_refl _⟩⟩
  ·right
   generalize (if v < 0 then -v else v) = u
   split <;> decide
  ·refine Int.mul_nonneg ?_ ?_
   ·split <;> omega
   ·generalize (if v < 0 then -v else v) = u
    split <;> decide
  ·exact Int.emod_nonneg _ (by decide)
  ·exact Int.emod_lt_of_pos _ (by decide)
theorem wW {n : Nat} (hB : ∀ x : Str, x ∈ BLs → mg x = none) (hn : n ≤ 10) (CZTake : Cal P w K mg base "_law_take" n ["_law_tape_here", "_law_many"] (kE n)) (F : Fun K "_law_take" "_law_take" dG f fd) : dj P w K mg base CX0 (n + 1) f fd ["_law_tape_here", "_law_many"] (kE (n + 1)) := by
 refine F.okq jD (fun vs H Q E h => ?_) (fun cdv A outer s H vs Q E hr h => ?_)
 ·obtain ⟨p, m, B, rfl, _⟩ := h
  rfl
 ·obtain ⟨p, m, B, rfl, ⟨a, b, c, hp, ha, hb0, hb1, hc0, hc1⟩, hB0, hm0, hm1, hn1, hn2, q⟩ := h
  refine ⟨_, (aD (b7 (bK Nu (bG cU (aA bQ) ao (fun _ _ => rfl)) ao (aV _)) (aD (cX ig jD.nd (aO fJ (bG cU (aA bQ) ao (fun _ _ => rfl)) (aA iu)))
   (aD (nF (aO jK (bG cU (aA bQ) ao (fun _ _ => rfl)) (aA iu)) (rG (aA bQ) ao Az))
   (aH (aP (aA ig))))) bO)
   (aD (nF (aO bJ (bG cU (aA bQ) ao (fun _ _ => rfl)) ao) (rG (aA bQ) ao Az))
   (aD (cX uq jD.nd (bG cU (fZ (aj ao (aj ao (aj ao (aj ao (aj ao (aj ao (aj ao aq)))))))) (aO fJ (bG cU (aA bQ) ao (fun _ _ => rfl)) ao) (fun _ _ => rfl)))
   (aD (cX nO jD.nd (aO fJ (aO eZ (aO bJ (bG cU (aA bQ) ao (fun _ _ => rfl)) (aO eZ ao (bG cU (aA bQ) ao (fun _ _ => rfl)))) (aO bJ ao (bG cU (aA bQ) ao (fun _ _ => rfl)))) (aA uq)))
   (aD (nF (aO fJ (aO bJ (aO eZ (aA nO) (aO bJ (aO fJ (aA nO) ao) ao)) (bG cU (aA bQ) ao (fun _ _ => rfl))) ao) (rG (aA bQ) ao Az))
   (aD (cX ig jD.nd (aO jK (aO fJ (aO eZ (bG cU (aA bQ) ao (fun _ _ => rfl)) (aO bJ (aO fJ (bG cU (aA bQ) ao (fun _ _ => rfl)) ao) ao)) ao) ao))
   (aH (aP (wU (bK lG (aA iu) (aO CG ao ao) (aV _)) (aO fJ (aA ig) (aA iu)) (aO fJ (aO bJ (aO eZ (aA ig) ao) (bH CZTake (hr.mono (by omega)) rT cG (aj (aA bQ) (aj ao aq)))) (aA iu))))))))))), ?_⟩
  push_cast [hp]
  split
  ·refine ⟨hm0, ⟨hm0, hm1⟩, ?_⟩
   refine q _ _ (Int.emod_nonneg _ (by omega)) (Int.emod_lt_of_pos _ hm0) bM.upd ⟨_, _, _, aB, Int.ediv_nonneg ha (by omega), hb0, hb1, hc0, by omega⟩
  ·refine ⟨aQ (by decide), fun p1 hp1 => ?_⟩
   have np : p ≠ p1 := fun z => by rw [← z, aB] at hp1; cases hp1
   push_cast [hp, aJ np, ne_eq, np, not_false_eq_true]
   obtain ⟨v, hv, v0⟩ := Kq (c + 1)
   have m1 : ∀ x : Int, 0 ≤ x % 40009 ∧ x % 40009 < 40009 := fun x => ⟨Int.emod_nonneg _ (by decide), Int.emod_lt_of_pos _ (by decide)⟩
   have m2 : ∀ x : Int, 0 ≤ x % 1009 ∧ x % 1009 < 1009 := fun x => ⟨Int.emod_nonneg _ (by decide), Int.emod_lt_of_pos _ (by decide)⟩
   have m3 : ∀ x : Int, 0 ≤ x % 2147483629 ∧ x % 2147483629 < 2147483629 := fun x => ⟨Int.emod_nonneg _ (by decide), Int.emod_lt_of_pos _ (by decide)⟩
   refine ⟨by decide, _, hv, .inl (by decide), .inr (by omega), v, rfl, v0, by decide, .inr ?_, by decide, by decide, .inr ?_, by decide, by decide, by decide, ?_⟩
   ·have := m1 ((b + 39373 * (c + 1)) * (48271 + (c + 1)) % v)
    omega
   ·have := m2 (((b + 39373 * (c + 1)) * (48271 + (c + 1)) % v * ((b + 39373 * (c + 1)) * (48271 + (c + 1)) % v % 40009 + 7) + (c + 1)) % 2147483629)
    omega
   ·have e3 := m3 ((b + 39373 * (c + 1)) * (48271 + (c + 1)) % v * ((b + 39373 * (c + 1)) * (48271 + (c + 1)) % v % 40009 + 7) + (c + 1))
    generalize ((b + 39373 * (c + 1)) * (48271 + (c + 1)) % v * ((b + 39373 * (c + 1)) * (48271 + (c + 1)) % v % 40009 + 7) + (c + 1)) % 2147483629 = y at e3 ⊢
    have sx : bM p H (upd (upd (upd H p (HO.lst [V.int a, V.int b, V.int (c + 1)])) p1 (HO.lst [V.int 2147483587, V.int 2147483579, V.int 2147483563, V.int 2147483549, V.int 2147483543, V.int 2147483497, V.int 2147483489])) p (HO.lst [V.int a, V.int y, V.int (c + 1)])) :=
     (bM.upd.trans (au hp1).x).trans bM.upd
    have tp : bW (upd (upd (upd H p (HO.lst [V.int a, V.int b, V.int (c + 1)])) p1 (HO.lst [V.int 2147483587, V.int 2147483579, V.int 2147483563, V.int 2147483549, V.int 2147483543, V.int 2147483497, V.int 2147483489])) p (HO.lst [V.int a, V.int y, V.int (c + 1)])) p (B + 1) :=
     ⟨a, y, c + 1, aB, ha, e3.1, e3.2, by omega, by omega⟩
    generalize upd (upd (upd H p (HO.lst [V.int a, V.int b, V.int (c + 1)])) p1 (HO.lst [V.int 2147483587, V.int 2147483579, V.int 2147483563, V.int 2147483549, V.int 2147483543, V.int 2147483497, V.int 2147483489])) p (HO.lst [V.int a, V.int y, V.int (c + 1)]) = H2 at sx tp ⊢
    split
    ·refine ⟨hm0, q _ _ (Int.emod_nonneg _ (by omega)) (Int.emod_lt_of_pos _ hm0) sx ?_⟩
     obtain ⟨a', b', c', z1, z2, z3, z4, z5, z6⟩ := tp
     exact ⟨a', b', c', z1, z2, z3, z4, z5, by omega⟩
    ·rename_i hm
     have hm' : 1000000 ≤ m := by
      rw [show (10 : Int) ^ Int.toNat 6 = 1000000 from by decide] at hm
      omega
     have hn3 := hn2 hm'
     refine ⟨.inr (by decide), p, 99991, B + 1, rfl, tp, by omega, by decide, by decide, by omega, fun z => absurd z (by decide), fun r H3 r0 r1 s3 t3 => ?_⟩
     push_cast
     refine ⟨hm0, q _ _ (Int.emod_nonneg _ (by omega)) (Int.emod_lt_of_pos _ hm0) (sx.trans s3) ?_⟩
     obtain ⟨a', b', c', z1, z2, z3, z4, z5, z6⟩ := t3
     exact ⟨a', b', c', z1, z2, z3, z4, z5, by omega⟩
theorem yh : dj P w K mg base CX0 0 f fd ["_law_tape_here", "_law_many"] (kE 0) := by
 have no : ∀ vs H Q E, ¬ kE 0 vs H Q E := fun vs H Q E h => by
  obtain ⟨p, m, B, _, _, _, _, _, h1, _⟩ := h
  omega
 exact ⟨fun vs H Q E h => absurd h (no vs H Q E), fun A outer s H args us vs Q E _ _ _ _ h => absurd h (no vs H Q E)⟩
abbrev cA : Stmt := top 24
theorem Fo : bB ["_law_found", "_law_due"] ["_law_found", "_law_due"] (ak cA) := ⟨rfl, rfl, rfl, by decide +kernel, rfl, by decide +kernel, by decide +kernel⟩
theorem cQ : Nm ["_law_found", "_law_due"] (ak cA) 0 "_law_found" := .of (by decide +kernel)
theorem cI : Nm ["_law_found", "_law_due"] (ak cA) 1 "_law_due" := .of (by decide +kernel)
theorem vO : (ak cA).names.lookup ("all" : Str) = some .globalImplicit := by decide +kernel
theorem iG : (ak cA).names.lookup ("bool" : Str) = some .globalImplicit := by decide +kernel
theorem vN : (ak cA).names.lookup ("int" : Str) = some .globalImplicit := by decide +kernel
theorem aL : (ak cA).names.lookup ("isinstance" : Str) = some .globalImplicit := by decide +kernel
theorem n6 : (ak cA).names.lookup ("len" : Str) = some .globalImplicit := by decide +kernel
theorem iD : (ak cA).names.lookup ("list" : Str) = some .globalImplicit := by decide +kernel
theorem jx : (ak cA).names.lookup ("str" : Str) = some .globalImplicit := by decide +kernel
theorem gK : (ak cA).names.lookup ("tuple" : Str) = some .globalImplicit := by decide +kernel
theorem vM : (ak cA).names.lookup ("zip" : Str) = some .globalImplicit := by decide +kernel
theorem sS : Bn "_law_same" := ⟨by decide +kernel, by decide +kernel⟩
theorem G9 {n : Nat} (hB : ∀ x : Str, x ∈ BLs → mg x = none) (CZSame : Cal P w K mg base "_law_same" n ["_law_found", "_law_due"] (iM n)) (F : Fun K "_law_same" "_law_same" cA f fd) : dj P w K mg base CX0 (n + 1) f fd ["_law_found", "_law_due"] (iM (n + 1)) := by
 refine F.okq Fo (fun vs H Q E h => ?_) (fun cdv A outer s H vs Q E hr h => ?_)
 ·obtain ⟨x, y, ok, d, rfl, _⟩ := h
  rfl
 ·obtain ⟨x, y, ok, d, rfl, tx, ty, hd, q⟩ := h
  refine ⟨_, (aD (b7 (dR (bI zG aL (hB "isinstance" aM) boot_isinstance aN (aj (aA cI) (aj (cP (aj (d9 "list" iD (hB "list" jR) boot_list j9) (aj (d9 "tuple" gK (hB "tuple" eF) boot_tuple eH) aq))) aq)))) (aD (b7 (rD (nu (bK (lg hr.bN) (bI bF aL (hB "isinstance" aM) boot_isinstance aN (aj (aA cQ) (aj (d9 "list" iD (hB "list" jR) boot_list j9) aq))) (bI bF aL (hB "isinstance" aM) boot_isinstance aN (aj (aA cI) (aj (d9 "list" iD (hB "list" jR) boot_list j9) aq))) (aV _)) (jn (bK (lg hr.bN) (bI bF aL (hB "isinstance" aM) boot_isinstance aN (aj (aA cQ) (aj (d9 "tuple" gK (hB "tuple" eF) boot_tuple eH) aq))) (bI bF aL (hB "isinstance" aM) boot_isinstance aN (aj (aA cI) (aj (d9 "tuple" gK (hB "tuple" eF) boot_tuple eH) aq))) (aV _))))) (aH (aP jf)) bO)
   (aD (b7 (bK (lg hr.bN) (bI cT n6 (hB "len" fM) PySem.boot_len fP (aj (aA cQ) aq)) (bI cT n6 (hB "len" fM) PySem.boot_len fP (aj (aA cI) aq)) (aV _)) (aH (aP jf)) bO)
   (aH (aP (bI (iY rfl) vO (hB "all" rQ) PyProof.Rows.Boot.«all» sO (aj (dZ (NX := ["_law_found", "_law_due"]) (kX := (ak cA).names) ["_law_one", "_law_other"] [none, none] rfl rfl ⟨rfl, by decide +kernel, by decide +kernel, by decide +kernel, by decide +kernel⟩ rfl (Gn vM (hB "zip" Ld) (aj (aA cQ) (aj (aA cI) aq))) (fun _ _ _ _ _ => (rF (n := 2) rfl (d8 (dh 0 (show List.Nodup (["_law_one", "_law_other"] : List Str) from by decide +kernel) rfl (Or.inl rfl)) (d8 (dh 1 (show List.Nodup (["_law_one", "_law_other"] : List Str) from by decide +kernel) rfl (Or.inl rfl)) mC)))) (fun _ _ _ _ _ => fH) (fun _ _ _ _ _ => (bH CZSame (hr.mono (by omega)) rfl sS (aj (gW 0) (aj (gW 1) aq))))) aq)))))) bO)
   (aD (b7 (rD (nu (bK CJ (aA cI) jo (aV _)) (jn (dR (bI bF aL (hB "isinstance" aM) boot_isinstance aN (aj (aA cI) (aj (d9 "str" jx (hB "str" jt) boot_str jy) aq))))))) (aH (aP (fG (dU (cL hr.bN) (aA cQ) (aA cI) (aV _)) (gF (dU (cL hr.bN) (bI bF aL (hB "isinstance" aM) boot_isinstance aN (aj (aA cQ) (aj (d9 "str" jx (hB "str" jt) boot_str jy) aq))) (bI bF aL (hB "isinstance" aM) boot_isinstance aN (aj (aA cI) (aj (d9 "str" jx (hB "str" jt) boot_str jy) aq))) (aV _)))))) bO)
   (aD (b7 (dR (bI bF aL (hB "isinstance" aM) boot_isinstance aN (aj (aA cI) (aj (d9 "bool" iG (hB "bool" mD) boot_bool mF) aq)))) (aH (aP (fG (bI bF aL (hB "isinstance" aM) boot_isinstance aN (aj (aA cQ) (aj (d9 "bool" iG (hB "bool" mD) boot_bool mF) aq))) (gF (dU (cL hr.bN) (aA cQ) (aA cI) (aV _)))))) bO)
   (aH (aP (fG (bI bF aL (hB "isinstance" aM) boot_isinstance aN (aj (aA cQ) (aj (d9 "int" vN (hB "int" rO) boot_int sJ) aq))) (fG (Ce (bI bF aL (hB "isinstance" aM) boot_isinstance aN (aj (aA cQ) (aj (d9 "bool" iG (hB "bool" mD) boot_bool mF) aq)))) (gF (dU (cL hr.bN) (aA cQ) (aA cI) (aV _)))))))))), ?_⟩
  cases tx with
  | non => cases ty; push_cast; exact ⟨aQ (by decide), fun t ht => q _ (au ht)⟩
  | bl b => cases ty; push_cast; exact ⟨aQ (by decide), fun t ht => q _ (au ht)⟩
  | int i => cases ty; push_cast; exact ⟨aQ (by decide), fun t ht => q _ (au ht)⟩
  | str x => cases ty; push_cast; exact ⟨aQ (by decide), fun t ht => q _ (au ht)⟩
  | lst o1 e1 z1 ts1 =>
   rename_i p1 xs1 ds
   cases ty with
   | lst o2 e2 z2 ts2 =>
    rename_i p2 xs2
    have l1 := ts1.length
    have l2 := ts2.length
    push_cast [e1, e2]
    refine ⟨aQ (by decide), fun t ht => ?_⟩
    have s1 := au (o := HO.tup [V.ty "list", V.ty "tuple"]) ht
    have e1 := s1 _ _ e1
    have e2 := s1 _ _ e2
    generalize upd H t (HO.tup [V.ty "list", V.ty "tuple"]) = H1 at s1 e1 e2 ⊢
    push_cast [e1, e2]
    rw [decide_eq_true (show (xs1.length : Int) = (xs2.length : Int) by omega), Bool.not_true, if_neg (by decide)]
    refine eX fun R hR => ?_
    push_cast [e1, e2]
    obtain ⟨Pc, hPc⟩ : ∃ Pv : Nat → List V → L2.St → Hp → Prop, Pv = fun (i : Nat) acc τ H' => ∃ (o0 o1 : Option V), Same H1 H' ∧ acc = (List.replicate i true).map V.bl ∧ τ = [o0, o1] := ⟨_, rfl⟩
    refine Iv hR (xs := xs1) (ys := xs2) (aQ z1) (by omega) Pc (by rw [hPc]; exact ⟨_, _, Same.refl _, rfl, rfl⟩) ?_ ?_ ?_ ?_
    ·intro i acc τ H2 pc
     rw [hPc] at pc
     obtain ⟨_, _, _, rfl, _⟩ := pc
     simp
    ·intro i acc τ H2 pc
     rw [hPc] at pc
     obtain ⟨_, _, s2, _, _⟩ := pc
     exact ⟨s2 _ _ e1, s2 _ _ e2⟩
    ·intro i x y acc τ H2 r hx hy pc hr2
     rw [hPc] at pc
     obtain ⟨o0, o1, s2, rfl, rfl⟩ := pc
     obtain ⟨dx, hdx, tx⟩ := ts1.get hx
     obtain ⟨dy, hdy, ty⟩ := ts2.get hy
     rw [hdx] at hdy
     cases hdy
     have s3 := au (o := HO.tup [x, y]) hr2
     have s13 := (s1.trans s2).trans s3
     push_cast
     refine ⟨x, y, ok, dx, rfl, tx.same s13, ty.same s13, by have := (qt (List.mem_of_getElem? hdx)).1; omega, fun H4 s4 => ?_⟩
     rw [hPc]
     refine ⟨_, _, (s2.trans s3).trans s4, ?_, rfl⟩
     rw [List.replicate_succ', List.map_append]
     rfl
    ·intro acc τ H2 d2 pc hd2
     rw [hPc] at pc
     obtain ⟨o0, o1, s2, rfl, rfl⟩ := pc
     have s3 := s1.trans (s2.trans (au (o := HO.lst ((List.replicate xs1.length true).map V.bl)) hd2))
     have e3 : upd H2 d2 (HO.lst ((List.replicate xs1.length true).map V.bl)) d2 = _ := aB
     generalize upd H2 d2 (HO.lst ((List.replicate xs1.length true).map V.bl)) = H3 at s3 e3 ⊢
     push_cast [e3]
     refine ⟨_, rfl, ?_⟩
     rw [show (List.replicate xs1.length true).all id = true by simp]
     exact q _ s3
  | tup o1 e1 z1 ts1 =>
   rename_i p1 xs1 ds
   cases ty with
   | tup o2 e2 z2 ts2 =>
    rename_i p2 xs2
    have l1 := ts1.length
    have l2 := ts2.length
    push_cast [e1, e2]
    refine ⟨aQ (by decide), fun t ht => ?_⟩
    have s1 := au (o := HO.tup [V.ty "list", V.ty "tuple"]) ht
    have e1 := s1 _ _ e1
    have e2 := s1 _ _ e2
    generalize upd H t (HO.tup [V.ty "list", V.ty "tuple"]) = H1 at s1 e1 e2 ⊢
    push_cast [e1, e2]
    rw [decide_eq_true (show (xs1.length : Int) = (xs2.length : Int) by omega), Bool.not_true, if_neg (by decide)]
    refine eX fun R hR => ?_
    push_cast [e1, e2]
    obtain ⟨Pc, hPc⟩ : ∃ Pv : Nat → List V → L2.St → Hp → Prop, Pv = fun (i : Nat) acc τ H' => ∃ (o0 o1 : Option V), Same H1 H' ∧ acc = (List.replicate i true).map V.bl ∧ τ = [o0, o1] := ⟨_, rfl⟩
    refine Iu hR (xs := xs1) (ys := xs2) (aQ z1) (by omega) Pc (by rw [hPc]; exact ⟨_, _, Same.refl _, rfl, rfl⟩) ?_ ?_ ?_ ?_
    ·intro i acc τ H2 pc
     rw [hPc] at pc
     obtain ⟨_, _, _, rfl, _⟩ := pc
     simp
    ·intro i acc τ H2 pc
     rw [hPc] at pc
     obtain ⟨_, _, s2, _, _⟩ := pc
     exact ⟨s2 _ _ e1, s2 _ _ e2⟩
    ·intro i x y acc τ H2 r hx hy pc hr2
     rw [hPc] at pc
     obtain ⟨o0, o1, s2, rfl, rfl⟩ := pc
     obtain ⟨dx, hdx, tx⟩ := ts1.get hx
     obtain ⟨dy, hdy, ty⟩ := ts2.get hy
     rw [hdx] at hdy
     cases hdy
     have s3 := au (o := HO.tup [x, y]) hr2
     have s13 := (s1.trans s2).trans s3
     push_cast
     refine ⟨x, y, ok, dx, rfl, tx.same s13, ty.same s13, by have := (qt (List.mem_of_getElem? hdx)).2; omega, fun H4 s4 => ?_⟩
     rw [hPc]
     refine ⟨_, _, (s2.trans s3).trans s4, ?_, rfl⟩
     rw [List.replicate_succ', List.map_append]
     rfl
    ·intro acc τ H2 d2 pc hd2
     rw [hPc] at pc
     obtain ⟨o0, o1, s2, rfl, rfl⟩ := pc
     have s3 := s1.trans (s2.trans (au (o := HO.lst ((List.replicate xs1.length true).map V.bl)) hd2))
     have e3 : upd H2 d2 (HO.lst ((List.replicate xs1.length true).map V.bl)) d2 = _ := aB
     generalize upd H2 d2 (HO.lst ((List.replicate xs1.length true).map V.bl)) = H3 at s3 e3 ⊢
     push_cast [e3]
     refine ⟨_, rfl, ?_⟩
     rw [show (List.replicate xs1.length true).all id = true by simp]
     exact q _ s3
theorem same_none : dj P w K mg base CX0 0 f fd ["_law_found", "_law_due"] (iM 0) := by
 have no : ∀ vs H Q E, ¬ iM 0 vs H Q E := fun vs H Q E h => by
  obtain ⟨x, y, ok, d, _, _, _, h1, _⟩ := h
  omega
 exact ⟨fun vs H Q E h => absurd h (no vs H Q E), fun A outer s H args us vs Q E _ _ _ _ h => absurd h (no vs H Q E)⟩
theorem zR : Bn "FIGURES" := ⟨by decide +kernel, by decide +kernel⟩
theorem pH : Bn "MOST_FIGURES" := ⟨by decide +kernel, by decide +kernel⟩
theorem v9 : Bn "MOST_WIDE" := ⟨by decide +kernel, by decide +kernel⟩
abbrev bZ : Stmt := top 1
theorem vd : bB ["thing"] ["thing"] (ak bZ) := ⟨rfl, rfl, rfl, by decide +kernel, rfl, by decide +kernel, by decide +kernel⟩
theorem lK : Nm ["thing"] (ak bZ) 0 "thing" := .of (by decide +kernel)
theorem oF : (ak bZ).names.lookup ("bool" : Str) = some .globalImplicit := by decide +kernel
theorem pF : (ak bZ).names.lookup ("int" : Str) = some .globalImplicit := by decide +kernel
theorem eG : (ak bZ).names.lookup ("isinstance" : Str) = some .globalImplicit := by decide +kernel
theorem jz : Bn "is_number" := ⟨by decide +kernel, by decide +kernel⟩
abbrev cZ : Stmt := top 7
theorem Bf : bB ["thing", "own", "many"] ["thing", "own", "many"] (ak cZ) := ⟨rfl, rfl, rfl, by decide +kernel, rfl, by decide +kernel, by decide +kernel⟩
theorem qd : Nm ["thing", "own", "many"] (ak cZ) 0 "thing" := .of (by decide +kernel)
theorem yZ : Nm ["thing", "own", "many"] (ak cZ) 1 "own" := .of (by decide +kernel)
theorem yX : Nm ["thing", "own", "many"] (ak cZ) 2 "many" := .of (by decide +kernel)
theorem lD : (ak cZ).names.lookup ("is_number" : Str) = some .globalImplicit := by decide +kernel
theorem uM : Bn "is_goal" := ⟨by decide +kernel, by decide +kernel⟩
abbrev dH : Stmt := top 9
theorem Bd : bB ["wide", "bits"] ["wide", "bits"] (ak dH) := ⟨rfl, rfl, rfl, by decide +kernel, rfl, by decide +kernel, by decide +kernel⟩
theorem qb : Nm ["wide", "bits"] (ak dH) 0 "wide" := .of (by decide +kernel)
theorem yW : Nm ["wide", "bits"] (ak dH) 1 "bits" := .of (by decide +kernel)
theorem lB : (ak dH).names.lookup ("MOST_WIDE" : Str) = some .globalImplicit := by decide +kernel
theorem Eb : Bn "is_mask" := ⟨by decide +kernel, by decide +kernel⟩
abbrev bL : Stmt := top 8
theorem pU : bB ["thing", "own", "many", "goals"] ["thing", "own", "many"] (ak bL) := ⟨rfl, rfl, rfl, by decide +kernel, rfl, by decide +kernel, by decide +kernel⟩
theorem jr : Nm ["thing", "own", "many", "goals"] (ak bL) 0 "thing" := .of (by decide +kernel)
theorem gH : Nm ["thing", "own", "many", "goals"] (ak bL) 3 "goals" := .of (by decide +kernel)
theorem su : (ak bL).names.lookup ("all" : Str) = some .globalImplicit := by decide +kernel
theorem jY : (ak bL).names.lookup ("is_number" : Str) = some .globalImplicit := by decide +kernel
theorem jb : (ak bL).names.lookup ("isinstance" : Str) = some .globalImplicit := by decide +kernel
theorem rZ : (ak bL).names.lookup ("len" : Str) = some .globalImplicit := by decide +kernel
theorem oA : (ak bL).names.lookup ("tuple" : Str) = some .globalImplicit := by decide +kernel
theorem zQ : Bn "is_table" := ⟨by decide +kernel, by decide +kernel⟩
theorem CP (hB : ∀ x : Str, x ∈ BLs → mg x = none) (F : Fun K "is_number" "is_number" bZ f fd) : dj P w K mg base CX0 1 f fd ["thing"] qN := by
 refine F.okq vd (fun vs H Q E h => ?_) (fun cdv A outer s H vs Q E hr h => ?_)
 ·obtain ⟨v, ok, d, rfl, _⟩ := h
  rfl
 ·obtain ⟨v, ok, d, rfl, t, q⟩ := h
  refine ⟨_, (aH (aP (fG (bI bF eG (hB "isinstance" aM) boot_isinstance aN (aj (aA lK) (aj (d9 "int" pF (hB "int" rO) boot_int sJ) aq))) (gF (Ce (bI bF eG (hB "isinstance" aM) boot_isinstance aN (aj (aA lK) (aj (d9 "bool" oF (hB "bool" mD) boot_bool mF) aq)))))))), ?_⟩
  cases t with
  | non => push_cast; exact q
  | bl b => push_cast; exact q
  | int i => push_cast; exact q
  | str x => push_cast; exact q
  | lst o e z t => push_cast [e]; exact q
  | tup o e z t => push_cast [e]; exact q
theorem yR (hB : ∀ x : Str, x ∈ BLs → mg x = none) (CIsNumber : Cal P w K mg base "is_number" 1 ["thing"] qN) (F : Fun K "is_goal" "is_goal" cZ f fd) : dj P w K mg base CX0 2 f fd ["thing", "own", "many"] qO := by
 refine F.okq Bf (fun vs H Q E h => ?_) (fun cdv A outer s H vs Q E hr h => ?_)
 ·obtain ⟨v, ok, d, own, many, rfl, _⟩ := h
  rfl
 ·obtain ⟨v, ok, d, own, many, rfl, t, q⟩ := h
  refine ⟨_, (aH (aP (fG (bH CIsNumber (hr.mono (by decide)) lD jz (aj (aA qd) aq)) (gF (nG lG lG (aA yZ) (aA qd) (aA yX)))))), ?_⟩
  push_cast
  refine ⟨v, ok, d, rfl, t, ?_⟩
  cases t with
  | int i =>
   push_cast [bV]
   replace q : Q (.bl (decide (own < i) && decide (i < many))) H := q
   split
   ·rename_i c
    rw [decide_eq_true c, Bool.true_and] at q
    exact q
   ·rename_i c
    rw [decide_eq_false c, Bool.false_and] at q
    exact q
  | _ => push_cast [bV]; exact q
theorem yQ (hB : ∀ x : Str, x ∈ BLs → mg x = none) (cgMostWide : mg "MOST_WIDE" = some (.int 64 ckMostWide)) (F : Fun K "is_mask" "is_mask" dH f fd) : dj P w K mg base CX0 1 f fd ["wide", "bits"] wG := by
 refine F.okq Bd (fun vs H Q E h => ?_) (fun cdv A outer s H vs Q E hr h => ?_)
 ·obtain ⟨wd, bits, rfl, _⟩ := h
  rfl
 ·obtain ⟨wd, bits, rfl, q⟩ := h
  refine ⟨_, (aH (aP (fG (nG p7 p7 ao (aA qb) (rH (v := V.int 64) lB cgMostWide ⟨_, rfl⟩ v9)) (gF (nG p7 lG ao (aA yW) (aO Cz ao (aA qb))))))), ?_⟩
  push_cast [Int.one_mul]
  split
  ·rename_i c1
   rw [decide_eq_true c1, Bool.true_and] at q
   split
   ·rename_i c2
    rw [decide_eq_true c2, Bool.true_and] at q
    split
    ·rename_i c3
     rw [decide_eq_true c3, Bool.true_and] at q
     exact ⟨⟨by omega, by omega, by decide⟩, q⟩
    ·rename_i c3
     rw [decide_eq_false c3, Bool.false_and] at q
     exact q
   ·rename_i c2
    rw [decide_eq_false c2, Bool.false_and] at q
    exact q
  ·rename_i c1
   rw [decide_eq_false c1, Bool.false_and, Bool.false_and] at q
   exact q
theorem vD (hB : ∀ x : Str, x ∈ BLs → mg x = none) (CIsNumber : Cal P w K mg base "is_number" 1 ["thing"] qN) (CIsGoal : Cal P w K mg base "is_goal" 2 ["thing", "own", "many"] qO) (F : Fun K "is_table" "is_table" bL f fd) : dj P w K mg base CX0 3 f fd ["thing", "own", "many"] Ar := by
 refine F.okq pU (fun vs H Q E h => ?_) (fun cdv A outer s H vs Q E hr h => ?_)
 ·obtain ⟨v, ok, dw, ps, own, many, rfl, _⟩ := h
  rfl
 ·obtain ⟨v, ok, dw, ps, own, many, rfl, t, q⟩ := h
  refine ⟨_, (aD (b7 (rD (nu (bK (lg hr.bN) (bI cT rZ (hB "len" fM) PySem.boot_len fP (aj (aA jr) aq)) ao (aV _)) (jn (eU (dR (bH CIsNumber (hr.mono (by decide)) jY jz (aj (bG cU (aA jr) ao (fun _ _ => rfl)) aq))))))) (aH (aP jf)) bO)
   (aD (cX gH pU.nd (bG cU (aA jr) ao (fun _ _ => rfl)))
   (aD (b7 (rD (nu (eU (dR (bI bF jb (hB "isinstance" aM) boot_isinstance aN (aj (aA gH) (aj (d9 "tuple" oA (hB "tuple" eF) boot_tuple eH) aq))))) (jn (eU (vz (aA gH)))))) (aH (aP jf)) bO)
   (aH (aP (bI (iY rfl) su (hB "all" rQ) PyProof.Rows.Boot.«all» sO (aj (dZ (NX := ["thing", "own", "many", "goals"]) (kX := (ak bL).names) ["goal", "own", "many"] [none, some 1, some 2] rfl rfl ⟨rfl, by decide +kernel, by decide +kernel, by decide +kernel, by decide +kernel⟩ rfl (fU (aA gH)) (fun _ _ _ _ _ => (dh 0 (show List.Nodup (["goal", "own", "many"] : List Str) from by decide +kernel) rfl (Or.inl rfl))) (fun _ _ _ _ _ => fH) (fun _ _ _ _ _ => (bH CIsGoal (hr.mono (by decide)) rfl uM (aj (gW 0) (aj (gW 1) (aj (gW 2) aq)))))) aq))))))), ?_⟩
  cases t with
  | tup o e z ts =>
   rename_i p xs
   have hlen := ts.length
   refine bC fun k hk => ?_
   push_cast [e]
   by_cases h3 : xs.length = 3
   ·rw [h3, show (!decide (((3 : Nat) : Int) = 3)) = false from rfl, if_neg (by decide)]
    obtain ⟨x, y, y2, d0, dy, dz, rfl, eds, tx, ty, tz⟩ := ts.three h3
    cases eds
    push_cast [e]
    refine ⟨y, ok, dy, rfl, ty, ?_⟩
    have ty' := ty
    cases ty with
    | int n =>
     push_cast [bV]
     subst hk
     refine bC fun k hk => ?_
     push_cast [e]
     subst hk
     refine bC fun k hk => ?_
     cases tz with
     | tup o2 e2 z2 ts2 =>
      rename_i p2 xs2 gs
      replace q : ∀ H', Same H H' → Q (.bl (match (if (!gs.isEmpty && gs.all bV) = true then some gs else none : Option (List PyData)) with | some gs => (gs.map oY).all (btw own many) | none => false)) H' := q
      have hl2 := ts2.length
      push_cast [e2]
      cases hx : xs2.isEmpty with
      | true =>
       have hd : gs.isEmpty = true := by rw [List.isEmpty_iff_length_eq_zero] at hx ⊢; omega
       have qq := q _ (Same.refl _)
       rw [hd, Bool.not_true, Bool.false_and] at qq
       push_cast
       exact qq
      | false =>
       have hd : gs.isEmpty = false := by
        cases zz : gs.isEmpty with
        | false => rfl
        | true => rw [List.isEmpty_iff_length_eq_zero] at zz; rw [show xs2.isEmpty = true from List.isEmpty_iff_length_eq_zero.mpr (by omega)] at hx; cases hx
       rw [hd, Bool.not_false, Bool.true_and] at q
       push_cast
       subst hk
       push_cast
       refine eX fun R hR => ?_
       push_cast [e2]
       refine j7 (sI own many) (fun τ => ∃ o1, τ = [o1, some (.int own), some (.int many)]) hR ts2 e2 z2 ⟨none, rfl⟩ ?_ ?_
       ·rintro x1 d1 τ H3 Qn _ s3 t3 ⟨o1, rfl⟩ qn
        push_cast
        exact ⟨x1, ok, d1, own, many, rfl, t3, qn _ _ ⟨_, rfl⟩ (Same.refl _)⟩
       ·intro H3 l s3 hl
        have s5 := s3.trans (au (o := HO.lst ((gs.map (sI own many)).map V.bl)) hl)
        have e5 : upd H3 l (HO.lst ((gs.map (sI own many)).map V.bl)) l = _ := aB
        generalize upd H3 l (HO.lst ((gs.map (sI own many)).map V.bl)) = H5 at s5 e5 ⊢
        push_cast [e5]
        refine ⟨_, rfl, ?_⟩
        rw [oM]
        have qq := q _ s5
        rw [qm] 
        exact qq
     | lst o2 e2 z2 ts2 => push_cast [e2]; exact q _ (Same.refl _)
     | _ => push_cast; exact q _ (Same.refl _)
    | _ => push_cast [bV]; exact q _ (Same.refl _)
   ·rw [decide_eq_false (show ¬ ((xs.length : Int) = 3) by omega), if_pos (by decide)]
    have qq := q _ (Same.refl _)
    rw [Ac (by rw [List.length_cons] at hlen; omega)] at qq
    exact qq
abbrev cD : Stmt := top 10
theorem wJ : bB ["thing", "own", "many", "word"] ["thing", "own", "many"] (ak cD) := ⟨rfl, rfl, rfl, by decide +kernel, rfl, by decide +kernel, by decide +kernel⟩
theorem bR : Nm ["thing", "own", "many", "word"] (ak cD) 0 "thing" := .of (by decide +kernel)
theorem uD : Nm ["thing", "own", "many", "word"] (ak cD) 1 "own" := .of (by decide +kernel)
theorem uz : Nm ["thing", "own", "many", "word"] (ak cD) 2 "many" := .of (by decide +kernel)
theorem gw : Nm ["thing", "own", "many", "word"] (ak cD) 3 "word" := .of (by decide +kernel)
theorem vR : (ak cD).names.lookup ("all" : Str) = some .globalImplicit := by decide +kernel
theorem pD : (ak cD).names.lookup ("is_goal" : Str) = some .globalImplicit := by decide +kernel
theorem pC : (ak cD).names.lookup ("is_mask" : Str) = some .globalImplicit := by decide +kernel
theorem oE : (ak cD).names.lookup ("is_table" : Str) = some .globalImplicit := by decide +kernel
theorem jZ : (ak cD).names.lookup ("isinstance" : Str) = some .globalImplicit := by decide +kernel
theorem gM : (ak cD).names.lookup ("len" : Str) = some .globalImplicit := by decide +kernel
theorem sy : (ak cD).names.lookup ("tuple" : Str) = some .globalImplicit := by decide +kernel
theorem IW : Bn "is_row" := ⟨by decide +kernel, by decide +kernel⟩
theorem CN (hB : ∀ x : Str, x ∈ BLs → mg x = none) (CIsNumber : Cal P w K mg base "is_number" 1 ["thing"] qN) (CIsGoal : Cal P w K mg base "is_goal" 2 ["thing", "own", "many"] qO) (CIsMask : Cal P w K mg base "is_mask" 1 ["wide", "bits"] wG) (CIsTable : Cal P w K mg base "is_table" 3 ["thing", "own", "many"] Ar) (F : Fun K "is_row" "is_row" cD f fd) : dj P w K mg base CX0 4 f fd ["thing", "own", "many"] Av := by
 refine F.okq wJ (fun vs H Q E h => ?_) (fun cdv A outer s H vs Q E hr h => ?_)
 ·obtain ⟨v, ok, d, own, many, rfl, _⟩ := h
  rfl
 ·obtain ⟨v, ok, d, own, many, rfl, t, q⟩ := h
  refine ⟨_, (aD (b7 (rD (nu (eU (dR (bI bF jZ (hB "isinstance" aM) boot_isinstance aN (aj (aA bR) (aj (d9 "tuple" sy (hB "tuple" eF) boot_tuple eH) aq))))) (jn (eU (vz (aA bR)))))) (aH (aP jf)) bO)
   (aD (cX gw wJ.nd (bG cU (aA bR) ao (fun _ _ => rfl)))
   (aD (b7 (bK (cL hr.bN) (aA gw) bh (aV _)) (aH (aP (bH CIsTable (hr.mono (by decide)) oE zQ (aj (aA bR) (aj (aA uD) (aj (aA uz) aq)))))) bO)
   (aD (b7 (eU (dR (bI (iY rfl) vR (hB "all" rQ) PyProof.Rows.Boot.«all» sO (aj (dZ (NX := ["thing", "own", "many", "word"]) (kX := (ak cD).names) ["part"] [none] rfl rfl ⟨rfl, by decide +kernel, by decide +kernel, by decide +kernel, by decide +kernel⟩ rfl (fU (jJ JS (aA bR) (mq ao) mz)) (fun _ _ _ _ _ => (dh 0 (show List.Nodup (["part"] : List Str) from by decide +kernel) rfl (Or.inl rfl))) (fun _ _ _ _ _ => fH) (fun _ _ _ _ _ => (bH CIsNumber (hr.mono (by decide)) rfl jz (aj (gW 0) aq)))) aq)))) (aH (aP jf)) bO)
   (aD (b7 (bK (cL hr.bN) (aA gw) bh (aV _)) (aH (aP (fG (dU (cL hr.bN) (bI cT gM (hB "len" fM) PySem.boot_len fP (aj (aA bR) aq)) ao (aV _)) (gF (dU Jg (bG cU (aA bR) ao (fun _ _ => rfl)) ao (aV _)))))) bO)
   (aD (b7 (eU (dR (bH CIsGoal (hr.mono (by decide)) pD uM (aj (bG cU (aA bR) (wR qH ao) (fun _ _ => rfl)) (aj (aA uD) (aj (aA uz) aq)))))) (aH (aP jf)) bO)
   (aD (b7 (bK (KZ hr.un1) (aA gw) (cP (aj bh (aj bh aq))) (by with_unfolding_all rfl)) (aH (aP (dU (cL hr.bN) (bI cT gM (hB "len" fM) PySem.boot_len fP (aj (aA bR) aq)) ao (aV _)))) bO)
   (aD (b7 (bK (cL hr.bN) (aA gw) bh (aV _)) (aH (aP (fG (dU (cL hr.bN) (bI cT gM (hB "len" fM) PySem.boot_len fP (aj (aA bR) aq)) ao (aV _)) (gF (dU p7 (bG cU (aA bR) ao (fun _ _ => rfl)) (bG cU (aA bR) ao (fun _ _ => rfl)) (aV _)))))) bO)
   (aH (aP (fG (dU (cL hr.bN) (aA gw) bh (aV _)) (fG (dU (cL hr.bN) (bI cT gM (hB "len" fM) PySem.boot_len fP (aj (aA bR) aq)) ao (aV _)) (gF (bH CIsMask (hr.mono (by decide)) pC Eb (aj (bG cU (aA bR) ao (fun _ _ => rfl)) (aj (bG cU (aA bR) ao (fun _ _ => rfl)) aq)))))))))))))))), ?_⟩
  have t0 := t
  refine bC fun k hk => ?_
  cases t with
  | tup o e z ts =>
   rename_i p xs ds
   cases ts with
   | nil => push_cast [e]; exact q _ (Same.refl _)
   | cons tx tps =>
    rename_i x dw xs ps
    push_cast [e]
    rw [show (!(!(x :: xs).isEmpty)) = false from rfl, if_neg (by decide)]
    subst hk
    refine bC fun k hk => ?_
    push_cast [e]
    subst hk
    refine bC fun k hk => ?_
    push_cast
    refine j4 tx ?_
    push_cast
    cases hT : bw dw "table" with
    | true =>
     rw [if_pos rfl]
     cases fB hT
     rw [yx] at q
     exact ⟨_, ok, _, ps, own, many, rfl, t0, q⟩
    | false =>
     rw [if_neg (by decide)]
     subst hk
     refine bC fun k hk => ?_
     push_cast
     refine eX fun R hR => ?_
     push_cast [e]
     refine ⟨Ma x xs, fun sl hsl => ?_⟩
     rw [DW x xs]
     have s1 := au (o := HO.tup xs) hsl
     have e1 : upd H sl (HO.tup xs) sl = _ := aB
     have tp1 := tps.same s1
     generalize upd H sl (HO.tup xs) = H1 at s1 e1 tp1 ⊢
     refine j7 bV (fun τ => ∃ o1, τ = [o1]) hR tp1 e1 (by rw [List.length_cons] at z; omega) ⟨none, rfl⟩ ?_ ?_
     ·rintro x1 d1 τ H3 Qn _ s3 t3 ⟨o1, rfl⟩ qn
      push_cast
      exact ⟨x1, ok, d1, rfl, t3, qn _ _ ⟨_, rfl⟩ (Same.refl _)⟩
     ·intro H3 l s3 hl
      have s5 := (s1.trans s3).trans (au (o := HO.lst ((ps.map bV).map V.bl)) hl)
      have e5 : upd H3 l (HO.lst ((ps.map bV).map V.bl)) l = _ := aB
      generalize upd H3 l (HO.lst ((ps.map bV).map V.bl)) = H5 at s5 e5 ⊢
      push_cast [e5]
      refine ⟨_, rfl, ?_⟩
      rw [oM]
      have e6 := s5 _ _ e
      have tx6 := tx.same s5
      cases hn : ps.all bV with
      | false =>
       rw [if_pos (by decide)]
       have qq := q _ s5
       rw [yD hT hn] at qq
       exact qq
      | true =>
       rw [if_neg (by decide)]
       have ep := ints_of hn
       generalize ps.map oY = is at ep
       subst ep
       have exs := tps.ints
       subst exs
       clear hR
       subst hk
       refine bC fun k hk => ?_
       push_cast
       refine j4 tx6 ?_
       push_cast
       cases hP : bw dw "pick" with
       | true =>
        rw [if_pos rfl]
        cases fB hP
        rw [Bh] at q
        have qq := q _ s5
        match is, e6, qq with
        | [], e6, qq => push_cast [e6]; exact qq
        | [a], e6, qq => push_cast [e6]; exact qq
        | a :: b :: r, e6, qq =>
         push_cast [e6]
         rw [if_neg (by omega)]
         exact qq
       | false =>
        rw [if_neg (by decide)]
        subst hk
        refine bC fun k hk => ?_
        have after : (∀ H', Same H H' → Q (.bl (jl dw is)) H') → k [some (V.ref p), some (V.int own), some (V.int many), some x] H5 := by
         intro qs
         subst hk
         refine bC fun k hk => ?_
         push_cast
         refine ⟨aQ (by decide), fun t ht => ?_⟩
         have s6 := au (o := HO.tup [V.str "is", V.str "below"]) ht
         refine ⟨t, ["is", "below"], dw, ok, rfl, aB, tx6.same s6, ?_⟩
         have e7 := s6 _ _ e6
         have tx7 := tx6.same s6
         have s7 := s5.trans s6
         generalize upd H5 t (HO.tup [V.str "is", V.str "below"]) = H7 at s6 e7 tx7 s7 ⊢
         push_cast
         rw [Oz]
         have qq := qs _ s7
         cases hI : (bw dw "is" || bw dw "below") with
         | true =>
          rw [if_pos rfl]
          rw [yq hI] at qq
          push_cast [e7, List.length_map]
          rw [show decide (((is.length + 1 : Nat) : Int) = 3) = decide (is.length = 2) from decide_eq_decide.mpr (by omega)]
          exact qq
         | false =>
          rw [if_neg (by decide)]
          subst hk
          refine bC fun k hk => ?_
          push_cast
          refine j4 tx7 ?_
          push_cast
          cases hW : bw dw "within" with
          | true =>
           rw [if_pos rfl]
           cases fB hW
           rw [show jl (.str "within") is = _ from jC is] at qq
           match is, e7, qq with
           | [], e7, qq => push_cast [e7]; exact qq
           | [a], e7, qq => push_cast [e7]; exact qq
           | [a, b], e7, qq => push_cast [e7]; exact qq
           | [a, b, c], e7, qq => push_cast [e7]; exact qq
           | a :: b :: c :: d :: r, e7, qq =>
            push_cast [e7]
            rw [if_neg (by omega)]
            exact qq
          | false =>
           rw [if_neg (by decide)]
           subst hk
           push_cast
           refine j4 tx7 ?_
           push_cast
           cases hM : bw dw "mask" with
           | true =>
            rw [if_pos rfl]
            cases fB hM
            rw [show jl (.str "mask") is = _ from mX is] at qq
            match is, e7, qq with
            | [], e7, qq => push_cast [e7]; exact qq
            | [a], e7, qq => push_cast [e7]; exact qq
            | [a, b], e7, qq => push_cast [e7]; exact qq
            | [a, b, c], e7, qq => push_cast [e7]; exact qq
            | [a, b, c, d], e7, qq =>
             push_cast [e7]
             rw [if_pos (show ((5 : Nat) : Int) = 5 from rfl)]
             exact ⟨V.int c, rfl, b, c, rfl, qq⟩
            | a :: b :: c :: d :: e :: r, e7, qq =>
             push_cast [e7]
             rw [if_neg (by omega)]
             exact qq
           | false =>
            rw [if_neg (by decide)]
            rw [qQ hI hW hM hP] at qq
            exact qq
        cases hi : is with
        | nil =>
         subst hi
         have qn : ∀ H', Same H H' → Q (.bl false) H' := fun H' s' => by
          have := q H' s'
          rw [show List.map PyData.int [] = [] from rfl, Fq] at this
          exact this
         push_cast [e6]
         refine ⟨x, rfl, ?_⟩
         refine ⟨x, ok, dw, own, many, rfl, tx6, ?_⟩
         push_cast
         cases hb : sI own many dw with
         | false => rw [if_pos (by decide)]; exact qn _ s5
         | true =>
          rw [if_neg (by decide)]
          refine after fun H' s' => ?_
          rw [show jl dw [] = false by cases dw <;> rfl]
          exact qn H' s'
        | cons i0 r0 =>
         obtain ⟨t, ht⟩ := zf (is := is) (by rw [hi]; exact List.cons_ne_nil _ _)
         push_cast [e6]
         refine ⟨V.int t, Dh ht, ?_⟩
         refine ⟨V.int t, ok, .int t, own, many, rfl, .int t, ?_⟩
         push_cast
         cases hb : btw own many t with
         | false =>
          rw [show sI own many (.int t) = false from hb, if_pos (by decide)]
          have qq := q _ s5
          rw [vo hT hP ht hb] at qq
          exact qq
         | true =>
          rw [show sI own many (.int t) = true from hb, if_neg (by decide)]
          rw [Bj hT hP ht hb] at q
          exact after q
  | lst o e z ts => push_cast [e]; exact q _ (Same.refl _)
  | _ => push_cast; exact q _ (Same.refl _)
abbrev aU : Stmt := top 14
theorem jE : bB ["word", "figures"] ["word"] (ak aU) := ⟨rfl, rfl, rfl, by decide +kernel, rfl, by decide +kernel, by decide +kernel⟩
theorem cY : Nm ["word", "figures"] (ak aU) 0 "word" := .of (by decide +kernel)
theorem d7 : Nm ["word", "figures"] (ak aU) 1 "figures" := .of (by decide +kernel)
theorem gB : (ak aU).names.lookup ("MOST_FIGURES" : Str) = some .globalImplicit := by decide +kernel
theorem lY : (ak aU).names.lookup ("all" : Str) = some .globalImplicit := by decide +kernel
theorem lX : (ak aU).names.lookup ("int" : Str) = some .globalImplicit := by decide +kernel
theorem lW : (ak aU).names.lookup ("len" : Str) = some .globalImplicit := by decide +kernel
theorem sU : Bn "number_from" := ⟨by decide +kernel, by decide +kernel⟩
abbrev bf : Stmt := top 15
theorem je : bB ["words", "numbers"] ["words"] (ak bf) := ⟨rfl, rfl, rfl, by decide +kernel, rfl, by decide +kernel, by decide +kernel⟩
theorem nT : Nm ["words", "numbers"] (ak bf) 0 "words" := .of (by decide +kernel)
theorem fL : Nm ["words", "numbers"] (ak bf) 1 "numbers" := .of (by decide +kernel)
theorem pG : Bn "numbers_from" := ⟨by decide +kernel, by decide +kernel⟩
theorem Hg (hB : ∀ x : Str, x ∈ BLs → mg x = none) {ckFigures ckMostFigures : Tok} (cgFigures : mg "FIGURES" = some (.str "0123456789" ckFigures)) (cgMostFigures : mg "MOST_FIGURES" = some (.int 20 ckMostFigures)) (F : Fun K "number_from" "number_from" aU f fd) : dj P w K mg base CX0 1 f fd ["word"] Aw := by
 refine F.okq jE (fun vs H Q E h => ?_) (fun cdv A outer s H vs Q E hr h => ?_)
 ·obtain ⟨x, rfl, _⟩ := h
  rfl
 ·obtain ⟨x, rfl, hx, q⟩ := h
  refine ⟨_, (aD (cX d7 jE.nd (wU (dR (lF PySem.F.slot_str_startswith PySem.F.type_str_startswith za (aA cY) (aj bh aq))) (jJ JR (aA cY) (mq ao) mz) (aA cY)))
   (aD (b7 (rD (nu (eU (BX p7 p7 ao (bI zE lW (hB "len" fM) PySem.boot_len fP (aj (aA d7) aq)) (rH (v := V.int 20) gB cgMostFigures ⟨_, rfl⟩ pH))) (jn (eU (dR (bI (iY rfl) lY (hB "all" rQ) PyProof.Rows.Boot.«all» sO (aj (dZ (NX := ["word", "figures"]) (kX := (ak aU).names) ["sign"] [none] rfl rfl ⟨rfl, by decide +kernel, by decide +kernel, by decide +kernel, by decide +kernel⟩ rfl (Ka (aA d7)) (fun _ _ _ _ _ => (dh 0 (show List.Nodup (["sign"] : List Str) from by decide +kernel) rfl (Or.inl rfl))) (fun _ _ _ _ _ => fH) (fun _ _ _ _ _ => (dU K1 (gW 0) (rH (v := V.str "0123456789") rfl cgFigures ⟨_, rfl⟩ zR) (by with_unfolding_all rfl)))) aq))))))) (aH (aP jo)) bO)
   (aD (b7 (rD (BW (bK (cL hr.bN) (bG Hy (aA d7) ao (fun _ _ => rfl)) bh (aV _)) (wQ (bK (lg hr.bN) (aA cY) bh (aV _))))) (aH (aP jo)) bO)
   (aH (aP (gY zK lX (hB "int" rO) boot_int sJ (aj (aA cY) aq))))))), ?_⟩
  refine bC fun k hk => ?_
  push_cast [rdT]
  rw [show (("-" : Str)) = ⟨#[45]⟩ by decide +kernel]
  obtain ⟨fg, hfg⟩ : ∃ fg : Str, fg = if Txt.startswith x ⟨#[45]⟩ = true then Txt.slice x (some 1) none else x := ⟨_, rfl⟩
  have hfl : eV x = fg.cps.toList := by rw [hfg]; exact Il
  have hflen : fg.length ≤ sizeLine := by
   rw [hfg]
   split
   ·exact Nat.le_trans (Txt.slice_le x _ _) hx
   ·exact hx
  have hlen : fg.length = (eV x).length := by rw [hfl]; simp [Str.length]
  suffices go : k [some (V.str x), some (V.str fg)] H by
   rw [hfg] at go
   split at go
   ·rename_i c
    rw [if_pos c]
    exact ⟨hx, go⟩
   ·rename_i c
    rw [if_neg c]
    exact go
  subst hk
  refine bC fun k hk => ?_
  push_cast [rdT]
  have hno : ∀ {H' : Hp}, Same H H' → aX x = false → Q V.non H' := fun {H'} s' z => by
   have := q H' s'
   unfold gm at this
   rw [if_neg (by rw [z]; decide)] at this
   exact this
  refine ⟨hflen, ?_⟩
  by_cases c1 : (1 : Int) ≤ fg.length
  ·rw [if_pos c1]
   by_cases c2 : (fg.length : Int) ≤ 20
   ·rw [if_neg (by rw [decide_eq_true c2]; decide)]
    refine eX fun R hR => ?_
    push_cast [rdT]
    obtain ⟨Pc, hPc⟩ : ∃ Pv : Nat → List V → L2.St → Hp → Prop, Pv = fun (i : Nat) acc τ H' => ∃ (o1 : Option V), H' = H ∧ acc = ((fg.cps.toList.take i).map gP).map V.bl ∧ τ = [o1] := ⟨_, rfl⟩
    refine Mg hR hflen Pc (by rw [hPc]; exact ⟨none, rfl, rfl, rfl⟩) ?_ ?_ ?_
    ·intro i acc τ H1 pc
     rw [hPc] at pc
     obtain ⟨_, _, rfl, _⟩ := pc
     rw [List.length_map, List.length_map]
     exact List.length_take_le _ _
    ·intro i c acc τ H1 hc pc
     rw [hPc] at pc
     obtain ⟨_, rfl, rfl, rfl⟩ := pc
     push_cast [rdT]
     rw [LR, hPc]
     refine ⟨_, rfl, ?_, rfl⟩
     rw [take_snoc (show fg.cps.toList[i]? = some c by rw [Array.getElem?_toList]; exact hc), List.map_append, List.map_append]
     rfl
    ·intro acc τ H1 d pc hd
     rw [hPc] at pc
     obtain ⟨_, rfl, rfl, rfl⟩ := pc
     rw [List.take_of_length_le (show fg.cps.toList.length ≤ fg.length by simp [Str.length])]
     have s1 := au (o := HO.lst ((fg.cps.toList.map gP).map V.bl)) hd
     have e1 : upd H1 d (HO.lst ((fg.cps.toList.map gP).map V.bl)) d = _ := aB
     generalize upd H1 d (HO.lst ((fg.cps.toList.map gP).map V.bl)) = H2 at s1 e1 ⊢
     push_cast [e1]
     refine ⟨_, rfl, ?_⟩
     have hall : (fg.cps.toList.map gP).all id = (eV x).all gP := by rw [hfl, List.all_map]; rfl
     rw [hall]
     cases c3 : (eV x).all gP with
     | false =>
      rw [if_pos (show (!false) = true from rfl)]
      refine hno s1 ?_
      unfold aX
      rw [c3, Bool.and_false]
      rfl
     | true =>
      rw [if_neg (show ¬ (!true) = true by decide)]
      subst hk
      refine bC fun k hk => ?_
      push_cast [rdT]
      obtain ⟨c0, r0, hcr⟩ : ∃ c r, fg.cps.toList = c :: r := by
       cases e : fg.cps.toList with
       | nil =>
        rw [hfl, e] at hlen
        have : fg.length = 0 := hlen
        omega
       | cons c r => exact ⟨c, r, rfl⟩
      refine ⟨hflen, c0, cj (j := 0) (by rw [hcr]; rfl), ?_⟩
      have hc0 : ((⟨#[c0]⟩ : Str) = "0") ↔ (eV x).head? = some 48 := by
       rw [hfl, hcr, List.head?_cons]
       constructor
       ·intro z
        have := congrArg (fun y : Str => y.cps.toList.head?) z
        exact this
       ·intro z
        cases z
        decide +kernel
      have last : aX x = true → k [some (V.str x), some (V.str fg)] H2 := fun z => by
       subst hk
       push_cast [rdT]
       have := q H2 s1
       unfold gm at this
       rw [if_pos z] at this
       exact ⟨_, (nH z).1, Nat.le_trans (nH z).2 (by decide), this⟩
      have l1 : 1 ≤ (eV x).length := by omega
      have l2 : (eV x).length ≤ 20 := by omega
      by_cases c4 : (⟨#[c0]⟩ : Str) = "0"
      ·rw [if_pos c4]
       by_cases c5 : x = "0"
       ·rw [if_neg (by rw [decide_eq_true c5]; decide)]
        refine last ?_
        unfold aX
        rw [decide_eq_true l1, decide_eq_true l2, c3, decide_eq_false (show ¬ x ≠ "0" from fun z => z c5), Bool.and_false]
        rfl
       ·rw [if_pos (by rw [decide_eq_false c5]; decide)]
        refine hno s1 ?_
        unfold aX
        rw [decide_eq_true (hc0.mp c4), decide_eq_true c5]
        simp
      ·rw [if_neg c4]
       refine last ?_
       unfold aX
       rw [decide_eq_true l1, decide_eq_true l2, c3, decide_eq_false (fun z => c4 (hc0.mpr z))]
       rfl
   ·rw [if_pos (by rw [decide_eq_false c2]; decide)]
    refine hno (Same.refl _) ?_
    unfold aX
    rw [decide_eq_false (show ¬ (eV x).length ≤ 20 by omega), Bool.and_false]
    rfl
  ·rw [if_neg c1]
   refine hno (Same.refl _) ?_
   unfold aX
   rw [decide_eq_false (show ¬ 1 ≤ (eV x).length by omega)]
   rfl
theorem CK (hB : ∀ x : Str, x ∈ BLs → mg x = none) (CNumberFrom : Cal P w K mg base "number_from" 1 ["word"] Aw) (F : Fun K "numbers_from" "numbers_from" bf f fd) : dj P w K mg base CX0 2 f fd ["words"] wF := by
 refine F.okq je (fun vs H Q E h => ?_) (fun cdv A outer s H vs Q E hr h => ?_)
 ·obtain ⟨a, ts, rfl, _⟩ := h
  rfl
 ·obtain ⟨a, ts, rfl, ea, hz, ht, q1, q2⟩ := h
  refine ⟨_, (aD (Gm (NX := ["words", "numbers"]) (kX := (ak bf).names) ["word"] [none] fL je.nd rfl rfl ⟨rfl, by decide +kernel, by decide +kernel, by decide +kernel, by decide +kernel⟩ rfl (fU (aA nT)) (fun _ _ _ _ _ => (dh 0 (show List.Nodup (["word"] : List Str) from by decide +kernel) rfl (Or.inl rfl))) (fun _ _ _ _ _ => fH) (fun _ _ _ _ _ => (bH CNumberFrom (hr.mono (by decide)) rfl sU (aj (gW 0) aq))))
   (aH (aP (wU (bK K3 jo (aA fL) (by with_unfolding_all rfl)) jo (aA fL))))), ?_⟩
  refine bC fun k hk => ?_
  push_cast
  refine eX fun R hR => ?_
  push_cast [ea]
  obtain ⟨Pc, hPc⟩ : ∃ Pv : Nat → List V → L2.St → Hp → Prop, Pv = fun (i : Nat) acc τ H' => ∃ (o1 : Option V), Same H H' ∧ acc = (ts.take i).map gm ∧ τ = [o1] := ⟨_, rfl⟩
  refine sE hR (xs := ts.map V.str) (aQ (by rw [List.length_map]; exact hz)) Pc (by rw [hPc]; exact ⟨none, Same.refl _, rfl, rfl⟩) ?_ ?_ ?_ ?_
  ·intro i acc τ H1 pc
   rw [hPc] at pc
   obtain ⟨_, _, rfl, _⟩ := pc
   rw [List.length_map]
   exact List.length_take_le _ _
  ·intro i acc τ H1 pc
   rw [hPc] at pc
   obtain ⟨_, s1, _⟩ := pc
   exact SqL.of (s1 _ _ ea)
  ·intro i x acc τ H1 hx pc
   rw [hPc] at pc
   obtain ⟨_, s1, rfl, rfl⟩ := pc
   rw [List.getElem?_map] at hx
   obtain ⟨t, ht1, rfl⟩ := Option.map_eq_some_iff.mp hx
   push_cast
   refine ⟨t, rfl, ht t (List.mem_of_getElem? ht1), fun H2 s2 => ?_⟩
   rw [hPc]
   refine ⟨_, s1.trans s2, ?_, rfl⟩
   rw [take_snoc ht1, List.map_append]
   rfl
  ·intro acc τ H1 d pc hd
   rw [hPc] at pc
   obtain ⟨_, s1, rfl, rfl⟩ := pc
   rw [List.length_map, List.take_length]
   have s2 := s1.trans (au (o := HO.lst (ts.map gm)) hd)
   have e2 : upd H1 d (HO.lst (ts.map gm)) d = _ := aB
   have hd0 : H d = none := s1.none hd
   generalize upd H1 d (HO.lst (ts.map gm)) = H2 at s2 e2 ⊢
   subst hk
   push_cast [e2]
   refine ⟨rfl, yU ts, ?_⟩
   split
   ·rename_i c
    exact q1 _ s2 ((wY ts).mp c)
   ·rename_i c
    have hok : ∀ t ∈ ts, aX t = true := fun t ht => by
     cases e : aX t with
     | true => rfl
     | false => exact absurd ((wY ts).mpr ⟨t, ht, e⟩) c
    exact q2 d _ hd0 s2 hok (by rw [e2, yS hok])
abbrev cH : Stmt := top 16
theorem kJ : bB ["row", "parts"] ["row"] (ak cH) := ⟨rfl, rfl, rfl, by decide +kernel, rfl, by decide +kernel, by decide +kernel⟩
theorem fK : Nm ["row", "parts"] (ak cH) 0 "row" := .of (by decide +kernel)
theorem jq : Nm ["row", "parts"] (ak cH) 1 "parts" := .of (by decide +kernel)
theorem ji : (ak cH).names.lookup ("list" : Str) = some .globalImplicit := by decide +kernel
theorem zO : Bn "row_text" := ⟨by decide +kernel, by decide +kernel⟩
abbrev cJ : Stmt := top 17
theorem u9 : bB ["rows"] ["rows"] (ak cJ) := ⟨rfl, rfl, rfl, by decide +kernel, rfl, by decide +kernel, by decide +kernel⟩
theorem ux : Nm ["rows"] (ak cJ) 0 "rows" := .of (by decide +kernel)
theorem v7 : Bn "rows_text" := ⟨by decide +kernel, by decide +kernel⟩
abbrev bY : Stmt := top 26
theorem u6 : bB ["_law_row"] ["_law_row"] (ak bY) := ⟨rfl, rfl, rfl, by decide +kernel, rfl, by decide +kernel, by decide +kernel⟩
theorem fW : Nm ["_law_row"] (ak bY) 0 "_law_row" := .of (by decide +kernel)
theorem oZ : (ak bY).names.lookup ("str" : Str) = some .globalImplicit := by decide +kernel
theorem v5 : Bn "_law_row_text" := ⟨by decide +kernel, by decide +kernel⟩
theorem vB (hB : ∀ x : Str, x ∈ BLs → mg x = none) (F : Fun K "row_text" "row_text" cH f fd) : dj P w K mg base CX0 1 f fd ["row"] iQ := by
 refine F.okq kJ (fun vs H Q E h => ?_) (fun cdv A outer s H vs Q E hr h => ?_)
 ·obtain ⟨v, ok, r, rfl, _⟩ := h
  rfl
 ·obtain ⟨v, ok, r, rfl, t, hsm, q⟩ := h
  refine ⟨_, (aD (cX jq kJ.nd (gY j8 ji (hB "list" jR) boot_list j9 (aj (aA fK) aq)))
   (aD (b7 (bK (cL hr.bN) (bG cU (aA fK) ao (fun _ _ => rfl)) bh (aV _)) (aH (cX jq kJ.nd (aO bJ (fZ (aj (bG cU (aA fK) ao (fun _ _ => rfl)) (aj (bG cU (aA fK) ao (fun _ _ => rfl)) aq))) (gY j8 ji (hB "list" jR) boot_list j9 (aj (bG cU (aA fK) ao (fun _ _ => rfl)) aq))))) bO)
   (aH (aP (lF PySem.F.slot_str_join PySem.F.type_str_join jP bh (aj (dZ (NX := ["row", "parts"]) (kX := (ak cH).names) ["part"] [none] rfl rfl ⟨rfl, by decide +kernel, by decide +kernel, by decide +kernel, by decide +kernel⟩ rfl (fU (aA jq)) (fun _ _ _ _ _ => (dh 0 (show List.Nodup (["part"] : List Str) from by decide +kernel) rfl (Or.inl rfl))) (fun _ _ _ _ _ => fH) (fun _ _ _ _ _ => (gY iW rfl (hB "str" jt) boot_str jy (aj (gW 0) aq)))) aq)))))), ?_⟩
  obtain ⟨a, ys, rfl, e, y0⟩ := tG t
  refine bC fun k hk => ?_
  push_cast [e]
  refine ⟨ys, .inr (SqT.of e), fun p1 hp1 => ?_⟩
  have s1 := au (o := HO.lst ys) hp1
  have e1 : upd H p1 (HO.lst ys) p1 = _ := aB
  generalize upd H p1 (HO.lst ys) = H1 at s1 e1 ⊢
  subst hk
  refine bC fun k hk => ?_
  have tail : ∀ (p : Addr) (H' : Hp) (vs : List V), Same H H' → H' p = some (.lst vs) → (∀ v ∈ vs, K7 v) → vs.map wdV = fD r → k [some (.ref a), some (.ref p)] H' := by
   intro p H2 vs s2 e2 hok hwd
   subst hk
   push_cast [rdT]
   refine eX fun R hR => ?_
   push_cast [e2]
   have hvl : vs.length ≤ 202 := by
    have := (fu hsm).2
    rw [← hwd, List.length_map] at this
    exact this
   obtain ⟨Pc, hPc⟩ : ∃ Pv : Nat → List V → L2.St → Hp → Prop, Pv = fun (i : Nat) acc τ H' => ∃ (o1 : Option V), H' = H2 ∧ acc = ((vs.take i).map wdV).map V.str ∧ τ = [o1] := ⟨_, rfl⟩
   refine sE hR (xs := vs) (aQ (by omega)) Pc (by rw [hPc]; exact ⟨none, rfl, rfl, rfl⟩) ?_ ?_ ?_ ?_
   ·intro i acc τ H3 pc
    rw [hPc] at pc
    obtain ⟨_, _, rfl, _⟩ := pc
    rw [List.length_map, List.length_map]
    exact List.length_take_le _ _
   ·intro i acc τ H3 pc
    rw [hPc] at pc
    obtain ⟨_, rfl, _⟩ := pc
    exact SqL.of e2
   ·intro i x acc τ H3 hx pc
    rw [hPc] at pc
    obtain ⟨_, rfl, rfl, rfl⟩ := pc
    have hx1 := hok x (List.mem_of_getElem? hx)
    have fin : Pc (i + 1) (((vs.take i).map wdV).map V.str ++ [V.str (wdV x)]) [some x] H3 := by
     rw [hPc]
     refine ⟨_, rfl, ?_, rfl⟩
     rw [take_snoc hx, List.map_append, List.map_append]
     rfl
    cases x with
    | str t =>
     push_cast [rdT]
     exact fin
    | int n =>
     push_cast [rdT]
     exact ⟨mj hx1, fin⟩
    | _ => exact hx1.elim
   ·intro acc τ H3 d pc hd
    rw [hPc] at pc
    obtain ⟨_, rfl, rfl, rfl⟩ := pc
    rw [List.take_length]
    have s4 := s2.trans (au (o := HO.lst ((vs.map wdV).map V.str)) hd)
    have e4 : upd H3 d (HO.lst ((vs.map wdV).map V.str)) d = _ := aB
    generalize upd H3 d (HO.lst ((vs.map wdV).map V.str)) = H4 at s4 e4 ⊢
    push_cast [rdT, e4]
    rw [hwd]
    exact ⟨_, rfl, jm hsm, q H4 s4⟩
  have e' := s1 _ _ e
  cases r with
  | ins w is =>
   obtain ⟨hw, hi, hl, hwl, _⟩ := id hsm
   replace y0 : ys = V.str w :: is.map V.int := y0
   subst y0
   have h0 : atI (V.str w :: is.map V.int) 0 = some (V.str w) := cj (j := 0) rfl
   push_cast [e', h0]
   rw [if_neg hw]
   exact tail p1 H1 _ s1 e1 (fun v hv => by
    rcases List.mem_cons.mp hv with rfl | hv2
    ·trivial
    ·exact lq hi v hv2) (zV w is)
  | tab n gs =>
   obtain ⟨hn, hg, hgl⟩ := id hsm
   replace y0 : ∃ b, ys = [V.str "table", V.int n, V.ref b] ∧ H b = some (.tup (gs.map V.int)) := y0
   obtain ⟨b, rfl, eb⟩ := y0
   push_cast [e']
   refine ⟨aQ (by decide), fun p2 hp2 => ?_⟩
   have s2 := s1.trans (au (o := HO.lst [V.str "table", V.int n]) hp2)
   have e2 : upd H1 p2 (HO.lst [V.str "table", V.int n]) p2 = _ := aB
   generalize upd H1 p2 (HO.lst [V.str "table", V.int n]) = H2 at s2 e2 ⊢
   have ea2 := s2 _ _ e
   push_cast [ea2]
   refine ⟨_, .inr (SqT.of (s2 _ _ eb)), fun p3 hp3 => ?_⟩
   have s3 := s2.trans (au (o := HO.lst (gs.map V.int)) hp3)
   have e23 := au (o := HO.lst (gs.map V.int)) hp3 _ _ e2
   rw [e23, wg]
   generalize upd H2 p3 (HO.lst (gs.map V.int)) = H3 at s3 e23 ⊢
   refine ⟨aQ (by rw [List.length_map]; show 2 + gs.length ≤ 9000; omega), fun p4 hp4 => ?_⟩
   exact tail p4 _ (V.str "table" :: V.int n :: gs.map V.int) (s3.trans (au hp4)) aB (fun v hv => by
    rcases List.mem_cons.mp hv with rfl | hv2
    ·trivial
    ·rcases List.mem_cons.mp hv2 with rfl | hv3
     ·exact hn
     ·exact lq hg v hv3) (Jq n gs)
theorem uf (hB : ∀ x : Str, x ∈ BLs → mg x = none) (CRowText : Cal P w K mg base "row_text" 1 ["row"] iQ) (F : Fun K "rows_text" "rows_text" cJ f fd) : dj P w K mg base CX0 2 f fd ["rows"] mQ := by
 refine F.okq u9 (fun vs H Q E h => ?_) (fun cdv A outer s H vs Q E hr h => ?_)
 ·obtain ⟨v, ok, rs, rfl, _⟩ := h
  rfl
 ·obtain ⟨v, ok, rs, rfl, t, hsm, hl, q⟩ := h
  refine ⟨_, (aH (aP (lF PySem.F.slot_str_join PySem.F.type_str_join jP bh (aj (dZ (NX := ["rows"]) (kX := (ak cJ).names) ["row"] [none] rfl rfl ⟨rfl, by decide +kernel, by decide +kernel, by decide +kernel, by decide +kernel⟩ rfl (fU (aA ux)) (fun _ _ _ _ _ => (dh 0 (show List.Nodup (["row"] : List Str) from by decide +kernel) rfl (Or.inl rfl))) (fun _ _ _ _ _ => fH) (fun _ _ _ _ _ => (bH CRowText (hr.mono (by decide)) rfl zO (aj (gW 0) aq)))) aq)))), ?_⟩
  cases t with
  | lst o e z ts =>
   rename_i a xs
   have hxl := ts.length
   rw [List.length_map] at hxl
   push_cast [rdT]
   refine eX fun R hR => ?_
   push_cast [e]
   obtain ⟨Pc, hPc⟩ : ∃ Pv : Nat → List V → L2.St → Hp → Prop, Pv = fun (i : Nat) acc τ H' => ∃ (o1 : Option V), Same H H' ∧ acc = ((rs.take i).map dO).map V.str ∧ τ = [o1] := ⟨_, rfl⟩
   refine sE hR (xs := xs) (aQ z) Pc (by rw [hPc]; exact ⟨none, Same.refl _, rfl, rfl⟩) ?_ ?_ ?_ ?_
   ·intro i acc τ H3 pc
    rw [hPc] at pc
    obtain ⟨_, _, rfl, _⟩ := pc
    rw [List.length_map, List.length_map]
    exact List.length_take_le _ _
   ·intro i acc τ H3 pc
    rw [hPc] at pc
    obtain ⟨_, s3, _⟩ := pc
    exact SqL.of (s3 _ _ e)
   ·intro i x acc τ H3 hx pc
    rw [hPc] at pc
    obtain ⟨_, s3, rfl, rfl⟩ := pc
    obtain ⟨d, hd, td⟩ := (ts.same s3).get hx
    rw [List.getElem?_map] at hd
    obtain ⟨r, hr1, rfl⟩ := Option.map_eq_some_iff.mp hd
    push_cast
    refine ⟨x, ok, r, rfl, td, hsm r (List.mem_of_getElem? hr1), fun H4 s4 => ?_⟩
    rw [hPc]
    refine ⟨_, s3.trans s4, ?_, rfl⟩
    rw [take_snoc hr1, List.map_append, List.map_append]
    rfl
   ·intro acc τ H3 d pc hd
    rw [hPc] at pc
    obtain ⟨_, s3, rfl, rfl⟩ := pc
    rw [hxl, List.take_length]
    have s4 := s3.trans (au (o := HO.lst ((rs.map dO).map V.str)) hd)
    have e4 : upd H3 d (HO.lst ((rs.map dO).map V.str)) d = _ := aB
    generalize upd H3 d (HO.lst ((rs.map dO).map V.str)) = H4 at s4 e4 ⊢
    push_cast [rdT, e4]
    exact ⟨_, rfl, m5 hsm hl, q H4 s4⟩
theorem uh (hB : ∀ x : Str, x ∈ BLs → mg x = none) (F : Fun K "_law_row_text" "_law_row_text" bY f fd) : dj P w K mg base CX0 1 f fd ["_law_row"] iQ := by
 refine F.okq u6 (fun vs H Q E h => ?_) (fun cdv A outer s H vs Q E hr h => ?_)
 ·obtain ⟨v, ok, r, rfl, _⟩ := h
  rfl
 ·obtain ⟨v, ok, r, rfl, t, hsm, q⟩ := h
  refine ⟨_, (aD (b7 (bK (cL hr.bN) (bG cU (aA fW) ao (fun _ _ => rfl)) bh (aV _)) (aH (aP (lF PySem.F.slot_str_join PySem.F.type_str_join jP bh (aj (aO bJ (fZ (aj bh (aj (gY iW oZ (hB "str" jt) boot_str jy (aj (bG cU (aA fW) ao (fun _ _ => rfl)) aq)) aq))) (dZ (NX := ["_law_row"]) (kX := (ak bY).names) ["_law_goal"] [none] rfl rfl ⟨rfl, by decide +kernel, by decide +kernel, by decide +kernel, by decide +kernel⟩ rfl (fU (bG cU (aA fW) ao (fun _ _ => rfl))) (fun _ _ _ _ _ => (dh 0 (show List.Nodup (["_law_goal"] : List Str) from by decide +kernel) rfl (Or.inl rfl))) (fun _ _ _ _ _ => fH) (fun _ _ _ _ _ => (gY iW rfl (hB "str" jt) boot_str jy (aj (gW 0) aq))))) aq)))) bO)
   (aH (aP (lF PySem.F.slot_str_join PySem.F.type_str_join jP bh (aj (dZ (NX := ["_law_row"]) (kX := (ak bY).names) ["_law_one"] [none] rfl rfl ⟨rfl, by decide +kernel, by decide +kernel, by decide +kernel, by decide +kernel⟩ rfl (fU (aA fW)) (fun _ _ _ _ _ => (dh 0 (show List.Nodup (["_law_one"] : List Str) from by decide +kernel) rfl (Or.inl rfl))) (fun _ _ _ _ _ => fH) (fun _ _ _ _ _ => (gY iW rfl (hB "str" jt) boot_str jy (aj (gW 0) aq)))) aq))))), ?_⟩
  obtain ⟨a, ys, rfl, e, y0⟩ := tG t
  cases r with
  | ins w is =>
   obtain ⟨hw, hi, hl, hwl, _⟩ := id hsm
   replace y0 : ys = V.str w :: is.map V.int := y0
   have h0 : atI ys 0 = some (V.str w) := by rw [y0]; exact cj (j := 0) rfl
   have hok : ∀ v ∈ ys, K7 v := fun v hv => by
    rw [y0] at hv
    rcases List.mem_cons.mp hv with rfl | hv2
    ·trivial
    ·exact lq hi v hv2
   have hwd : ys.map wdV = fD (.ins w is) := by rw [y0]; exact zV w is
   have hyl : ys.length ≤ 202 := by rw [y0, List.length_cons, List.length_map]; omega
   clear y0
   refine bC fun k hk => ?_
   push_cast [e, h0]
   rw [if_neg hw]
   subst hk
   push_cast [rdT]
   refine eX fun R hR => ?_
   push_cast [e]
   obtain ⟨Pc, hPc⟩ : ∃ Pv : Nat → List V → L2.St → Hp → Prop, Pv = fun (i : Nat) acc τ H' => ∃ (o1 : Option V), H' = H ∧ acc = ((ys.take i).map wdV).map V.str ∧ τ = [o1] := ⟨_, rfl⟩
   refine vW hR (xs := ys) (aQ (by omega)) Pc (by rw [hPc]; exact ⟨none, rfl, rfl, rfl⟩) ?_ ?_ ?_ ?_
   ·intro i acc τ H3 pc
    rw [hPc] at pc
    obtain ⟨_, _, rfl, _⟩ := pc
    rw [List.length_map, List.length_map]
    exact List.length_take_le _ _
   ·intro i acc τ H3 pc
    rw [hPc] at pc
    obtain ⟨_, rfl, _⟩ := pc
    exact SqT.of e
   ·intro i x acc τ H3 hx pc
    rw [hPc] at pc
    obtain ⟨_, rfl, rfl, rfl⟩ := pc
    have hx1 := hok x (List.mem_of_getElem? hx)
    have fin : Pc (i + 1) (((ys.take i).map wdV).map V.str ++ [V.str (wdV x)]) [some x] H3 := by
     rw [hPc]
     refine ⟨_, rfl, ?_, rfl⟩
     rw [take_snoc hx, List.map_append, List.map_append]
     rfl
    cases x with
    | str t =>
     push_cast [rdT]
     exact fin
    | int n =>
     push_cast [rdT]
     exact ⟨mj hx1, fin⟩
    | _ => exact hx1.elim
   ·intro acc τ H3 d pc hd
    rw [hPc] at pc
    obtain ⟨_, rfl, rfl, rfl⟩ := pc
    rw [List.take_length]
    have s4 := au (o := HO.lst ((ys.map wdV).map V.str)) hd
    have e4 : upd H3 d (HO.lst ((ys.map wdV).map V.str)) d = _ := aB
    generalize upd H3 d (HO.lst ((ys.map wdV).map V.str)) = H4 at s4 e4 ⊢
    push_cast [rdT, e4]
    rw [hwd]
    exact ⟨_, rfl, jm hsm, q H4 s4⟩
  | tab n gs =>
   obtain ⟨hn, hg, hgl⟩ := id hsm
   replace y0 : ∃ b, ys = [V.str "table", V.int n, V.ref b] ∧ H b = some (.tup (gs.map V.int)) := y0
   obtain ⟨b, rfl, eb⟩ := y0
   refine bC fun k hk => ?_
   push_cast [e, rdT]
   refine ⟨mj hn, aQ (by decide), fun p2 hp2 => ?_⟩
   have s2 := au (o := HO.lst [V.str "table", V.str (tsI n)]) hp2
   have e2 : upd H p2 (HO.lst [V.str "table", V.str (tsI n)]) p2 = _ := aB
   generalize upd H p2 (HO.lst [V.str "table", V.str (tsI n)]) = H2 at s2 e2 ⊢
   refine eX fun R hR => ?_
   have ea2 := s2 _ _ e
   have eb2 := s2 _ _ eb
   push_cast [ea2, eb2]
   obtain ⟨Pc, hPc⟩ : ∃ Pv : Nat → List V → L2.St → Hp → Prop, Pv = fun (i : Nat) acc τ H' => ∃ (o1 : Option V), H' = H2 ∧ acc = ((gs.take i).map tsI).map V.str ∧ τ = [o1] := ⟨_, rfl⟩
   refine vW hR (xs := gs.map V.int) (aQ (by rw [List.length_map]; omega)) Pc (by rw [hPc]; exact ⟨none, rfl, rfl, rfl⟩) ?_ ?_ ?_ ?_
   ·intro i acc τ H3 pc
    rw [hPc] at pc
    obtain ⟨_, _, rfl, _⟩ := pc
    rw [List.length_map, List.length_map]
    exact List.length_take_le _ _
   ·intro i acc τ H3 pc
    rw [hPc] at pc
    obtain ⟨_, rfl, _⟩ := pc
    exact SqT.of eb2
   ·intro i x acc τ H3 hx pc
    rw [hPc] at pc
    obtain ⟨_, rfl, rfl, rfl⟩ := pc
    rw [List.getElem?_map] at hx
    obtain ⟨g, hg1, rfl⟩ := Option.map_eq_some_iff.mp hx
    push_cast [rdT]
    refine ⟨mj (hg g (List.mem_of_getElem? hg1)), ?_⟩
    rw [hPc]
    refine ⟨_, rfl, ?_, rfl⟩
    rw [take_snoc hg1, List.map_append, List.map_append]
    rfl
   ·intro acc τ H3 d pc hd
    rw [hPc] at pc
    obtain ⟨_, rfl, rfl, rfl⟩ := pc
    rw [List.length_map, List.take_length]
    have s4 := s2.trans (au (o := HO.lst ((gs.map tsI).map V.str)) hd)
    have e24 := au (o := HO.lst ((gs.map tsI).map V.str)) hd _ _ e2
    push_cast
    rw [e24, wg]
    generalize upd H3 d (HO.lst ((gs.map tsI).map V.str)) = H4 at s4 e24 ⊢
    refine ⟨aQ (by rw [List.length_map, List.length_map]; show 2 + gs.length ≤ 9000; omega), fun p5 hp5 => ?_⟩
    push_cast [rdT]
    exact ⟨fD (.tab n gs), rfl, jm hsm, q _ (s4.trans (au hp5))⟩
abbrev cB : Stmt := top 18
theorem kO : bB ["text", "words", "numbers"] ["text"] (ak cB) := ⟨rfl, rfl, rfl, by decide +kernel, rfl, by decide +kernel, by decide +kernel⟩
theorem vG : Nm ["text", "words", "numbers"] (ak cB) 0 "text" := .of (by decide +kernel)
theorem gG : Nm ["text", "words", "numbers"] (ak cB) 1 "words" := .of (by decide +kernel)
theorem dX : Nm ["text", "words", "numbers"] (ak cB) 2 "numbers" := .of (by decide +kernel)
theorem iI : (ak cB).names.lookup ("numbers_from" : Str) = some .globalImplicit := by decide +kernel
theorem iH : (ak cB).names.lookup ("tuple" : Str) = some .globalImplicit := by decide +kernel
theorem zP : Bn "row_from" := ⟨by decide +kernel, by decide +kernel⟩
abbrev aW : Stmt := top 19
theorem dN : bB ["text", "written", "rows", "own", "part", "row"] ["text"] (ak aW) := ⟨rfl, rfl, rfl, by decide +kernel, rfl, by decide +kernel, by decide +kernel⟩
theorem uy : Nm ["text", "written", "rows", "own", "part", "row"] (ak aW) 0 "text" := .of (by decide +kernel)
theorem iB : Nm ["text", "written", "rows", "own", "part", "row"] (ak aW) 1 "written" := .of (by decide +kernel)
theorem iz : Nm ["text", "written", "rows", "own", "part", "row"] (ak aW) 2 "rows" := .of (by decide +kernel)
theorem lJ : Nm ["text", "written", "rows", "own", "part", "row"] (ak aW) 3 "own" := .of (by decide +kernel)
theorem lH : Nm ["text", "written", "rows", "own", "part", "row"] (ak aW) 4 "part" := .of (by decide +kernel)
theorem iy : Nm ["text", "written", "rows", "own", "part", "row"] (ak aW) 5 "row" := .of (by decide +kernel)
theorem iZ : (ak aW).names.lookup ("enumerate" : Str) = some .globalImplicit := by decide +kernel
theorem lV : (ak aW).names.lookup ("is_row" : Str) = some .globalImplicit := by decide +kernel
theorem pq : (ak aW).names.lookup ("len" : Str) = some .globalImplicit := by decide +kernel
theorem jX : (ak aW).names.lookup ("row_from" : Str) = some .globalImplicit := by decide +kernel
theorem v8 : Bn "rows_from" := ⟨by decide +kernel, by decide +kernel⟩
theorem vC (hB : ∀ x : Str, x ∈ BLs → mg x = none) (CNumbersFrom : Cal P w K mg base "numbers_from" 2 ["words"] wF) (F : Fun K "row_from" "row_from" cB f fd) : dj P w K mg base CX0 3 f fd ["text"] pR := by
 refine F.okq kO (fun vs H Q E h => ?_) (fun cdv A outer s H vs Q E hr h => ?_)
 ·obtain ⟨x, ok, rfl, _⟩ := h
  rfl
 ·obtain ⟨x, ok, rfl, hn, hx, hl, q⟩ := h
  refine ⟨_, (aD (cX gG kO.nd (lF PySem.F.slot_str_split PySem.F.type_str_split uE (aA vG) (aj bh aq)))
   (aD (cX dX kO.nd (bH CNumbersFrom (hr.mono (by decide)) iI pG (aj (jJ JS (aA gG) (mq ao) mz) aq)))
   (aD (b7 (bK CJ (aA dX) jo (aV _)) (aH (aP jo)) bO)
   (aD (b7 (rD (BW (bK (cL hr.bN) (bG cU (aA gG) ao (fun _ _ => rfl)) bh (aV _)) (wQ (vz (aA dX))))) (aH (aP (cP (aj bh (aj (bG cU (aA dX) ao (fun _ _ => rfl)) (aj (gY gh iH (hB "tuple" eF) boot_tuple eH (aj (jJ JS (aA dX) (mq ao) mz) aq)) aq)))))) bO)
   (aH (aP (aO G6 (cP (aj (bG cU (aA gG) ao (fun _ _ => rfl)) aq)) (gY gh iH (hB "tuple" eF) boot_tuple eH (aj (aA dX) aq))))))))), ?_⟩
  obtain ⟨w0, ts, hsp⟩ := tO x
  have htl : ∀ t ∈ w0 :: ts, t.length ≤ sizeLine := fun t ht => by
   rw [← hsp, wC] at ht
   exact Nat.le_trans (Cy x 32 t ht) hx
  have hrow : uc x = pY (w0 :: ts) := by unfold uc; rw [hsp]
  rw [hsp] at hl
  refine bC fun k hk => ?_
  push_cast [rdT]
  refine ⟨by decide, hx, by rw [hsp]; exact aQ hl, fun p1 hp1 => ?_⟩
  rw [hsp]
  have s1 := au (o := HO.lst ((w0 :: ts).map V.str)) hp1
  have e1 : upd H p1 (HO.lst ((w0 :: ts).map V.str)) p1 = _ := aB
  generalize upd H p1 (HO.lst ((w0 :: ts).map V.str)) = H1 at s1 e1 ⊢
  subst hk
  refine bC fun k hk => ?_
  push_cast [e1]
  intro p2 hp2
  have hcut : jc (V.str w0 :: ts.map V.str) (some 1) none = ts.map V.str := (uH ((w0 :: ts).map V.str) 1 (by rw [List.length_map, List.length_cons]; omega)).trans rfl
  rw [hcut]
  have s2 := s1.trans (au (o := HO.lst (ts.map V.str)) hp2)
  have e12 := au (o := HO.lst (ts.map V.str)) hp2 _ _ e1
  have e2 : upd H1 p2 (HO.lst (ts.map V.str)) p2 = _ := aB
  generalize upd H1 p2 (HO.lst (ts.map V.str)) = H2 at s2 e12 e2 ⊢
  rw [List.length_cons] at hl
  refine ⟨p2, ts, rfl, e2, by omega, fun t ht => htl t (List.mem_cons_of_mem _ ht), fun H3 s3 hbad => ?_, fun p3 H3 hp3 s3 hok e3 => ?_⟩
  ·subst hk
   push_cast
   have hd : pY (w0 :: ts) = .none := by
    obtain ⟨t, ht, hf⟩ := hbad
    show (if ts.all aX = true then _ else PyData.none) = .none
    rw [if_neg fun z => by have := List.all_eq_true.mp z t ht; rw [hf] at this; cases this]
   exact q _ _ (s2.trans s3) (by rw [hrow, hd]; exact .non)
  ·subst hk
   refine bC fun k hk => ?_
   push_cast
   subst hk
   have hall : ts.all aX = true := List.all_eq_true.mpr hok
   have e13 := s3 _ _ e12
   have s03 := s2.trans s3
   have h0 : atI ((w0 :: ts).map V.str) 0 = some (V.str w0) := cj (j := 0) rfl
   refine bC fun k hk => ?_
   push_cast [e13, h0, e3]
   have last : pY (w0 :: ts) = .tuple (.str w0 :: (ts.map dB).map PyData.int) → k [some (V.str x), some (V.ref p1), some (V.ref p3)] H3 := by
    intro hd
    subst hk
    push_cast [e13, h0]
    refine ⟨aQ (by decide), fun p4 hp4 => ?_⟩
    have s4 := s03.trans (au (o := HO.tup [V.str w0]) hp4)
    have o4 := hn _ _ s03 hp4
    have e4 : upd H3 p4 (HO.tup [V.str w0]) p4 = _ := aB
    have e34 := au (o := HO.tup [V.str w0]) hp4 _ _ e3
    generalize upd H3 p4 (HO.tup [V.str w0]) = H4 at s4 e4 e34 ⊢
    refine ⟨_, .inl ⟨SqL.of e34, fun p5 hp5 => ?_⟩⟩
    have s5 := s4.trans (au (o := HO.tup ((ts.map dB).map V.int)) hp5)
    have e45 := au (o := HO.tup ((ts.map dB).map V.int)) hp5 _ _ e4
    have e5 : upd H4 p5 (HO.tup ((ts.map dB).map V.int)) p5 = _ := aB
    generalize upd H4 p5 (HO.tup ((ts.map dB).map V.int)) = H5 at s5 e45 e5 ⊢
    rw [Gg, e45, e5, Mf]
    have hlen : ((ts.map dB).map V.int).length ≤ 8999 := by rw [List.length_map, List.length_map]; omega
    refine ⟨List.cons_ne_nil _ _, aQ (by show 1 + _ ≤ 9000; omega), fun hnil => ?_, fun _ p6 hp6 => ?_⟩
    ·refine q _ _ s5 ?_
     rw [hrow, hd]
     have : ts = [] := by
      have := congrArg List.length hnil
      rw [List.length_map, List.length_map] at this
      exact List.eq_nil_of_length_eq_zero this
     subst this
     exact .tup o4 e45 (by show 1 ≤ 9000; decide) (.cons (.str _) .nil)
    ·refine q _ _ (s5.trans (au hp6)) ?_
     rw [hrow, hd]
     exact .tup (hn _ _ s5 hp6) aB (by rw [List.length_append]; show 1 + _ ≤ 9000; omega) (.cons (.str _) (kj _))
   by_cases c1 : w0 = "table"
   ·rw [if_pos c1]
    subst c1
    cases ts with
    | nil =>
     rw [if_neg (by simp)]
     exact last (kZ hall fun z => z.2 rfl)
    | cons t r =>
     rw [if_pos (by simp)]
     have hF := pX hall
     refine ⟨V.int (dB t), cj (j := 0) rfl, fun p4 hp4 => ?_⟩
     have hcut2 : jc (((t :: r).map dB).map V.int) (some 1) none = (r.map dB).map V.int := (uH (((t :: r).map dB).map V.int) 1 (by rw [List.length_map, List.length_map, List.length_cons]; omega)).trans rfl
     rw [hcut2]
     have s4 := s03.trans (au (o := HO.lst ((r.map dB).map V.int)) hp4)
     have e4 : upd H3 p4 (HO.lst ((r.map dB).map V.int)) p4 = _ := aB
     generalize upd H3 p4 (HO.lst ((r.map dB).map V.int)) = H4 at s4 e4 ⊢
     refine ⟨_, .inl ⟨SqL.of e4, fun p5 hp5 => ⟨aQ (by decide), fun p6 hp6 => ?_⟩⟩⟩
     have s5 := s4.trans (au (o := HO.tup ((r.map dB).map V.int)) hp5)
     refine q _ _ (s5.trans (au hp6)) ?_
     rw [hrow, hF]
     rw [List.length_cons] at hl
     exact .tup (hn _ _ s5 hp6) aB (by show 3 ≤ 9000; decide) (.cons (.str _) (.cons (.int _) (.cons (.tup (hn _ _ s4 hp5) (au hp6 _ _ aB) (by rw [List.length_map, List.length_map]; omega) (kj _)) .nil)))
   ·rw [if_neg c1]
    exact last (kZ hall fun z => c1 z.1)
theorem ug (hB : ∀ x : Str, x ∈ BLs → mg x = none) (CRowFrom : Cal P w K mg base "row_from" 3 ["text"] pR) (CIsRow : Cal P w K mg base "is_row" 4 ["thing", "own", "many"] Av) (F : Fun K "rows_from" "rows_from" aW f fd) : dj P w K mg base CX0 5 f fd ["text"] mR := by
 refine F.okq dN (fun vs H Q E h => ?_) (fun cdv A outer s H vs Q E hr h => ?_)
 ·obtain ⟨rs, rfl, _⟩ := h
  rfl
 ·obtain ⟨rs, rfl, hne, hl, hok, q⟩ := h
  refine ⟨_, (aD (cX iB dN.nd (lF PySem.F.slot_str_split PySem.F.type_str_split uE (aA uy) (aj bh aq)))
   (aD (cX iz dN.nd (fZ aq))
   (aD (rE PassesOwn.never rfl (Cd iZ (hB "enumerate" rP) (aj (aA iB) aq)) (rF (n := 2) rfl (d8 (jH lJ dN.nd) (d8 (jH lH dN.nd) mC)))
   (aD (cX iy dN.nd (bH CRowFrom (hr.mono (by decide)) jX zP (aj (aA lH) aq)))
   (aD (b7 (eU (dR (bH CIsRow (hr.mono (by decide)) lV IW (aj (aA iy) (aj (aA lJ) (aj (bI cT pq (hB "len" fM) PySem.boot_len fP (aj (aA iB) aq)) aq)))))) (aH Ca) bO)
   (aH (fQ (fV (aA iz) (aA iy)))))))
   (aH (aP (aA iz)))))), ?_⟩
  have hsm : ∀ r ∈ rs, eN r := fun r hr => by
   obtain ⟨j, hj⟩ := List.mem_iff_getElem?.mp hr
   exact nj (hok j r hj) (by omega) (by omega)
  have hsp := t7 hsm hne
  have hxl := yw hsm hl
  refine bC fun k hk => ?_
  push_cast [rdT]
  refine ⟨by decide, by rw [sizeLine_eq]; omega, by rw [hsp, List.length_map]; exact aQ (by omega), fun p1 hp1 => ?_⟩
  rw [hsp]
  have s1 := au (o := HO.lst ((rs.map dO).map V.str)) hp1
  have e1 : upd H p1 (HO.lst ((rs.map dO).map V.str)) p1 = _ := aB
  generalize upd H p1 (HO.lst ((rs.map dO).map V.str)) = H1 at s1 e1 ⊢
  subst hk
  refine bC fun k hk => ?_
  push_cast
  refine ⟨Nat.zero_le _, fun r0 hr0 => ?_⟩
  have hr00 : H r0 = none := s1.none hr0
  have nr : p1 ≠ r0 := aF e1 hr0
  have s2 := s1.trans (au (o := HO.lst []) hr0)
  have e12 := au (o := HO.lst []) hr0 _ _ e1
  have e2 : upd H1 r0 (HO.lst []) r0 = some (.lst []) := aB
  generalize upd H1 r0 (HO.lst []) = H2 at s2 e12 e2 ⊢
  subst hk
  refine bC fun k hk => ?_
  refine xK fun R hR => ?_
  push_cast [zp, Ig, e12, Ie]
  obtain ⟨Pv, hPv⟩ : ∃ Pv : Nat → L2.St → Hp → Prop, Pv = fun (i : Nat) σ H' => ∃ (vs : List V) (o3 o4 o5 : Option V), bM r0 H2 H' ∧ H' r0 = some (.lst vs) ∧ aG (· ≠ r0) H' vs ((rs.take i).map dM) ∧ σ = [some (.str (jG rs)), some (.ref p1), some (.ref r0), o3, o4, o5] := ⟨_, rfl⟩
  refine N5 hR (xs := (rs.map dO).map V.str) Pv (by rw [hPv]; exact ⟨[], _, _, _, bM.refl _ _, e2, .nil, rfl⟩) ?_ ?_ ?_
  ·intro i σ H3 pv
   rw [hPv] at pv
   obtain ⟨_, _, _, _, s3, _⟩ := pv
   exact s3 _ _ nr e12
  ·intro i x σ H3 p3 hx pv hp3
   rw [hPv] at pv
   obtain ⟨vs, o3, o4, o5, s3, e3, t3, rfl⟩ := pv
   rw [List.getElem?_map, List.getElem?_map] at hx
   cases hri : rs[i]? with
   | none => rw [hri] at hx; cases hx
   | some r =>
    rw [hri] at hx
    cases hx
    have hrs := hsm r (List.mem_of_getElem? hri)
    have hi : i < rs.length := (List.getElem?_eq_some_iff.mp hri).1
    have s4 := au (o := HO.tup [V.int (i : Nat), V.str (dO r)]) hp3
    have e4 : upd H3 p3 (HO.tup [V.int (i : Nat), V.str (dO r)]) p3 = _ := aB
    have er4 := s4 _ _ e3
    have t4 := t3.same s4
    have sx4 := s3.trans s4.x
    generalize upd H3 p3 (HO.tup [V.int (i : Nat), V.str (dO r)]) = H4 at s4 e4 er4 t4 sx4 ⊢
    push_cast [e4]
    refine ⟨dO r, (· ≠ r0), rfl, CT er4, by have := m9 hrs; rw [sizeLine_eq]; omega, by rw [m8 hrs]; have := (fu hrs).2; omega, fun v H5 s5 tv => ?_⟩
    rw [vp hrs] at tv
    have e15 := s5 _ _ (sx4 _ _ nr e12)
    push_cast [e15]
    refine ⟨v, _, dM r, (i : Int), _, rfl, tv, fun H6 s6 => ?_⟩
    have hgood : dI (i : Int) ((((rs.map dO).map V.str).length : Nat) : Int) (dM r) = true := by
     rw [List.length_map, List.length_map]
     obtain ⟨g1, g2⟩ := Ft (hok i r hri)
     unfold dI
     rw [g1, g2]
     rfl
    rw [hgood]
    have er6 := s6 _ _ (s5 _ _ er4)
    have htl := t3.length
    rw [List.length_map, List.length_take] at htl
    push_cast [er6]
    refine ⟨Nat.lt_of_lt_of_le (show vs.length < 9000 by omega) (aQ (Nat.le_refl 9000)), ?_⟩
    rw [hPv]
    have sx : bM r0 H4 (upd H6 r0 (HO.lst (vs ++ [v]))) := (s5.trans s6).x.trans bM.upd
    refine ⟨vs ++ [v], _, _, _, sx4.trans sx, aB, ?_, rfl⟩
    rw [take_snoc hri, List.map_append]
    exact (t4.Bg sx).append (.cons (tv.Bg (s6.x.trans bM.upd)) .nil)
  ·intro σ H3 pv
   rw [hPv] at pv
   obtain ⟨vs, o3, o4, o5, s3, e3, t3, rfl⟩ := pv
   show k _ _
   subst hk
   push_cast
   rw [List.length_map, List.length_map, List.take_length] at t3
   have htl := t3.length
   rw [List.length_map] at htl
   exact q r0 H3 hr00 (rA (s2.x.trans s3) hr00) (.lst trivial e3 (by omega) (t3.keep fun a o _ e => ⟨trivial, e⟩))
abbrev bU : Stmt := top 25
theorem dY : bB ["_law_tape_here", "_law_many", "_law_rows_here", "_law_at", "_law_goal", "_law_n", "_law_way", "_law_low", "_law_wide", "_law_bits"] ["_law_tape_here", "_law_many"] (ak bU) := ⟨rfl, rfl, rfl, by decide +kernel, rfl, by decide +kernel, by decide +kernel⟩
theorem cR : Nm ["_law_tape_here", "_law_many", "_law_rows_here", "_law_at", "_law_goal", "_law_n", "_law_way", "_law_low", "_law_wide", "_law_bits"] (ak bU) 0 "_law_tape_here" := .of (by decide +kernel)
theorem uw : Nm ["_law_tape_here", "_law_many", "_law_rows_here", "_law_at", "_law_goal", "_law_n", "_law_way", "_law_low", "_law_wide", "_law_bits"] (ak bU) 1 "_law_many" := .of (by decide +kernel)
theorem eE : Nm ["_law_tape_here", "_law_many", "_law_rows_here", "_law_at", "_law_goal", "_law_n", "_law_way", "_law_low", "_law_wide", "_law_bits"] (ak bU) 2 "_law_rows_here" := .of (by decide +kernel)
theorem nP : Nm ["_law_tape_here", "_law_many", "_law_rows_here", "_law_at", "_law_goal", "_law_n", "_law_way", "_law_low", "_law_wide", "_law_bits"] (ak bU) 3 "_law_at" := .of (by decide +kernel)
theorem jO : Nm ["_law_tape_here", "_law_many", "_law_rows_here", "_law_at", "_law_goal", "_law_n", "_law_way", "_law_low", "_law_wide", "_law_bits"] (ak bU) 4 "_law_goal" := .of (by decide +kernel)
theorem gq : Nm ["_law_tape_here", "_law_many", "_law_rows_here", "_law_at", "_law_goal", "_law_n", "_law_way", "_law_low", "_law_wide", "_law_bits"] (ak bU) 5 "_law_n" := .of (by decide +kernel)
theorem gn : Nm ["_law_tape_here", "_law_many", "_law_rows_here", "_law_at", "_law_goal", "_law_n", "_law_way", "_law_low", "_law_wide", "_law_bits"] (ak bU) 6 "_law_way" := .of (by decide +kernel)
theorem jN : Nm ["_law_tape_here", "_law_many", "_law_rows_here", "_law_at", "_law_goal", "_law_n", "_law_way", "_law_low", "_law_wide", "_law_bits"] (ak bU) 7 "_law_low" := .of (by decide +kernel)
theorem iw : Nm ["_law_tape_here", "_law_many", "_law_rows_here", "_law_at", "_law_goal", "_law_n", "_law_way", "_law_low", "_law_wide", "_law_bits"] (ak bU) 8 "_law_wide" := .of (by decide +kernel)
theorem ur : Nm ["_law_tape_here", "_law_many", "_law_rows_here", "_law_at", "_law_goal", "_law_n", "_law_way", "_law_low", "_law_wide", "_law_bits"] (ak bU) 9 "_law_bits" := .of (by decide +kernel)
theorem bx : (ak bU).names.lookup ("_law_take" : Str) = some .globalImplicit := by decide +kernel
theorem jW : (ak bU).names.lookup ("range" : Str) = some .globalImplicit := by decide +kernel
theorem rW : (ak bU).names.lookup ("tuple" : Str) = some .globalImplicit := by decide +kernel
theorem IV : Bn "_law_rows" := ⟨by decide +kernel, by decide +kernel⟩
theorem Hf (hB : ∀ x : Str, x ∈ BLs → mg x = none) (CZTake : Cal P w K mg base "_law_take" 2 ["_law_tape_here", "_law_many"] (kE 2)) (F : Fun K "_law_rows" "_law_rows" bU f fd) : dj P w K mg base CX0 3 f fd ["_law_tape_here", "_law_many"] wD := by
 refine F.okq dY (fun vs H Q E h => ?_) (fun cdv A outer s H vs Q E hr h => ?_)
 ·obtain ⟨p, m, B, rfl, _⟩ := h
  rfl
 ·obtain ⟨p, m, B, rfl, tp, hB0, hB1, hm1, hm2, q⟩ := h
  refine ⟨_, (aD (cX eE dY.nd (fZ aq))
   (aD (rE PassesOwn.never rfl (iR jW (hB "range" jQ) (aj (aO gZ (aA uw) ao) aq)) (jH nP dY.nd)
   (aD (BZ (i := 4) (j := 5) rfl dY.nd rfl rfl (by decide) rfl rfl (aj (aO bJ (aO bJ (aA nP) ao) (bH CZTake (hr.mono (by decide)) bx cG (aj (aA cR) (aj (aO gZ (aO gZ (aA uw) (aA nP)) ao) aq)))) (aj (aO gZ (bH CZTake (hr.mono (by decide)) bx cG (aj (aA cR) (aj ao aq))) ao) aq)) (by rfl))
   (aD (cX gn dY.nd (bH CZTake (hr.mono (by decide)) bx cG (aj (aA cR) (aj ao aq))))
   (aH (b7 (bK (cL hr.bN) (aA gn) ao (aV _)) (aH (fQ (fV (aA eE) (cP (aj bh (aj (aA gq) (aj (aA jO) aq))))))) (aH (b7 (bK lG (aA gn) ao (aV _)) (aH (fQ (fV (aA eE) (cP (aj bh (aj (aA gq) (aj (aO bJ (aA gq) (bH CZTake (hr.mono (by decide)) bx cG (aj (aA cR) (aj ao aq)))) (aj (aA jO) aq)))))))) (aH (b7 (bK lG (aA gn) ao (aV _)) (aH (fQ (fV (aA eE) (cP (aj bh (aj (aA gq) (aj (aA jO) aq))))))) (aH (b7 (bK lG (aA gn) ao (aV _)) (aD (nF (bG cU (fZ (aj (cP (aj (aO gZ (aA gq) ao) (aj (aO bJ ao (bH CZTake (hr.mono (by decide)) bx cG (aj (aA cR) (aj ao aq)))) aq))) (aj (cP (aj (wR qH ao) (aj ao aq))) aq))) (aO jK (bH CZTake (hr.mono (by decide)) bx cG (aj (aA cR) (aj ao aq))) ao) (fun _ _ => rfl)) (rF (n := 2) rfl (d8 (jH jN dY.nd) (d8 (jH iw dY.nd) mC))))
   (aD (cX ur dY.nd (bH CZTake (hr.mono (by decide)) bx cG (aj (aA cR) (aj (aO Cz ao (aA iw)) aq))))
   (aH (fQ (fV (aA eE) (cP (aj bh (aj (aA jN) (aj (aA iw) (aj (aA ur) (aj (aA jO) aq))))))))))) (aH (b7 (bK (cL hr.bN) (aA gn) ao (aV _)) (aD (nF (bG cU (fZ (aj (cP (aj (aO gZ (aA gq) ao) (aj (aO bJ ao (bH CZTake (hr.mono (by decide)) bx cG (aj (aA cR) (aj ao aq)))) aq))) (aj (cP (aj (wR qH ao) (aj ao aq))) (aj (cP (aj (wR qH ao) (aj ao aq))) aq)))) (aO jK (bH CZTake (hr.mono (by decide)) bx cG (aj (aA cR) (aj ao aq))) ao) (fun _ _ => rfl)) (rF (n := 2) rfl (d8 (jH jN dY.nd) (d8 (jH iw dY.nd) mC))))
   (aH (fQ (fV (aA eE) (cP (aj bh (aj (aA jN) (aj (gY gh rW (hB "tuple" eF) boot_tuple eH (aj (dZ (NX := ["_law_tape_here", "_law_many", "_law_rows_here", "_law_at", "_law_goal", "_law_n", "_law_way", "_law_low", "_law_wide", "_law_bits"]) (kX := (ak bU).names) ["_law_k", "_law_at", "_law_tape_here", "_law_many"] [none, some 3, some 0, some 1] rfl rfl ⟨rfl, by decide +kernel, by decide +kernel, by decide +kernel, by decide +kernel⟩ rfl (iR jW (hB "range" jQ) (aj (aA iw) aq)) (fun _ _ _ _ _ => (dh 0 (show List.Nodup (["_law_k", "_law_at", "_law_tape_here", "_law_many"] : List Str) from by decide +kernel) rfl (Or.inl rfl))) (fun _ _ _ _ _ => fH) (fun _ _ _ _ _ => (aO bJ (aO bJ (gW 1) ao) (bH CZTake (hr.mono (by decide)) rfl cG (aj (gW 2) (aj (aO gZ (aO gZ (gW 3) (gW 1)) ao) aq)))))) aq)) aq)))))))) (aH (fQ (fV (aA eE) (cP (aj bh (aj (bH CZTake (hr.mono (by decide)) bx cG (aj (aA cR) (aj ao aq))) aq)))))))))))))))))))
   (aH (aP (aO bJ (aA eE) (fZ (aj (cP (aj bh (aj (bH CZTake (hr.mono (by decide)) bx cG (aj (aA cR) (aj ao aq))) aq))) aq))))))), ?_⟩
  refine bC fun k hk => ?_
  push_cast
  refine ⟨aQ (by decide), fun l hl => ?_⟩
  have hlp : l ≠ p := tp.ne hl
  have s6 := au (o := HO.lst []) hl
  have tp6 := tp.same s6
  have e6 : upd H l (HO.lst []) l = _ := aB
  generalize upd H l (HO.lst []) = H6 at s6 tp6 e6 ⊢
  subst hk
  obtain ⟨OD, hOD⟩ : ∃ OD : Addr → Prop, OD = fun a => a ≠ p ∧ a ≠ l := ⟨_, rfl⟩
  have kd : ∀ {H H' : Hp}, bM p H H' → ∀ a o, OD a → H a = some o → OD a ∧ H' a = some o := fun {H H'} sx a o h e => by
   refine ⟨h, sx a o ?_ e⟩
   rw [hOD] at h
   exact h.1
  refine bC fun k hk => ?_
  refine xK fun R hR => ?_
  push_cast [ql]
  refine ⟨by omega, by omega, ?_⟩
  obtain ⟨Pv, hPv⟩ : ∃ Pv : Nat → L2.St → Hp → Prop, Pv = fun (i : Nat) σ H' => ∃ (xs : List V) (rs : List cV) (o3 o4 o5 o6 o7 o8 o9 : Option V), bM p H H' ∧ bW H' p (B + 2 + 500 * (i : Int)) ∧ H' l = some (.lst xs) ∧ aG OD H' xs (rs.map dM) ∧ rs.length = i ∧ (∀ (j : Nat) r, rs[j]? = some r → eO m j r) ∧
   σ = [some (.ref p), some (.int m), some (.ref l), o3, o4, o5, o6, o7, o8, o9] := ⟨_, rfl⟩
  refine Dz hR Pv (by rw [hPv]; exact ⟨[], [], _, _, _, _, _, _, _, s6.x, tp6.le (by show B ≤ B + 2 + 500 * ((0 : Nat) : Int); omega), e6, .nil, rfl, fun j r h => (by cases h), rfl⟩) ?_ ?_
  ·intro i σ H7 hi pv
   rw [hPv] at pv
   obtain ⟨xs, rs, o3, o4, o5, o6, o7, o8, o9, sx7, tp7, e7, ts7, hrl, rok, rfl⟩ := pv
   have hi20 : (i : Int) < m - 1 := by omega
   refine bC fun k2 hk2 => ?_
   push_cast
   refine ⟨p, m - (0 + (i : Int)) - 1, B + 2 + 500 * (i : Int), rfl, tp7, by show B + 2 + 500 * (i : Int) + 2 ≤ 1000100; omega, by omega, by omega, by decide, fun z => absurd z (by omega), fun g8 H8 g80 g81 s8 tp8 => ?_⟩
   push_cast
   refine ⟨p, 24, B + 2 + 500 * (i : Int) + 2, rfl, tp8, by show B + 2 + 500 * (i : Int) + 2 + 2 ≤ 1000100; omega, by decide, by decide, by decide, fun z => absurd z (by decide), fun n9 H9 n90 n91 s9 tp9 => ?_⟩
   push_cast
   subst hk2
   refine bC fun k2 hk2 => ?_
   push_cast
   refine ⟨p, 9, B + 2 + 500 * (i : Int) + 2 + 2, rfl, tp9, by show B + 2 + 500 * (i : Int) + 2 + 2 + 2 ≤ 1000100; omega, by decide, by decide, by decide, fun z => absurd z (by decide), fun way H10 way0 way1 s10 tp10 => ?_⟩
   push_cast
   have s710 := (s8.trans s9).trans s10
   have e10 := s710 _ _ hlp e7
   have ts10 := ts7.keep (kd s710)
   have sx10 := sx7.trans s710
   have hgoal : btw (i : Int) m (0 + (i : Int) + 1 + g8) = true := by rw [Int.zero_add]; exact uL g80 (by omega)
   have bgoal : (0 + (i : Int) + 1 + g8).natAbs ≤ 2 ^ 64 := by omega
   generalize 0 + (i : Int) + 1 + g8 = goal at hgoal bgoal ⊢
   have bn : -4 ≤ n9 - 4 ∧ n9 - 4 < 20 := by omega
   generalize n9 - 4 = n at bn ⊢
   have fin : ∀ (t : Addr) (r : cV) (H16 : Hp) (o7 o8 o9 : Option V), bM p H H16 → H16 l = some (.lst xs) → aG OD H16 xs (rs.map dM) → aK OD H16 (.ref t) (dM r) → bW H16 p (B + 2 + 500 * (i : Int) + 490) → eO m i r →
     apq (H16 l) l (.ref t) H16 fun _ H1 => Pv (i + 1) [some (.ref p), some (.int m), some (.ref l), some (.int (0 + (i : Int))), some (.int goal), some (.int n), some (.int way), o7, o8, o9] H1 := by
    intro t r H16 o7 o8 o9 sx16 e16 ts16 tt tp16 rk
    have hxl := ts16.length
    rw [List.length_map] at hxl
    rw [e16, sW]
    refine ⟨Nat.lt_of_lt_of_le (show xs.length < 1000 by omega) (aQ (by decide)), ?_⟩
    have sx18 : bM p H (upd H16 l (HO.lst (xs ++ [V.ref t]))) := yu sx16 hl
    have tp18 : bW (upd H16 l (HO.lst (xs ++ [V.ref t]))) p (B + 2 + 500 * (i : Int) + 490) := tp16.upd hlp
    have e18 : upd H16 l (HO.lst (xs ++ [V.ref t])) l = _ := aB
    have kk : ∀ a o, OD a → H16 a = some o → OD a ∧ upd H16 l (HO.lst (xs ++ [V.ref t])) a = some o := fun a o h e => by
     refine ⟨h, ?_⟩
     rw [hOD] at h
     rw [aJ h.2]
     exact e
    have ts18 := (ts16.keep kk).append (.cons (tt.keep kk) .nil)
    rw [hPv]
    exact ⟨_, rs ++ [r], _, _, _, _, _, _, _, sx18, tp18.le (by show B + 2 + 500 * (i : Int) + 490 ≤ B + 2 + 500 * ((i + 1 : Nat) : Int); omega), e18, by rw [List.map_append]; exact ts18, by rw [List.length_append, List.length_singleton, hrl], pW rok (by rw [hrl]; exact rk), rfl⟩
   have new : ∀ {H16 : Hp} {t : Addr} {B' : Int}, bW H16 p B' → H16 l = some (.lst xs) → H16 t = none → OD t := fun tp e ht => by
    rw [hOD]
    exact ⟨tp.ne ht, (aF e ht).symm⟩
   subst hk2
   push_cast
   by_cases c0 : way = 0
   ·rw [if_pos c0]
    push_cast [e10]
    refine ⟨aQ (by decide), fun t ht => ?_⟩
    have s11 := au (o := HO.tup [V.str "is", V.int n, V.int goal]) ht
    exact fin t (.ins "is" [n, goal]) _ _ _ _ (sx10.trans s11.x) (s11 _ _ e10) (ts10.same s11) (.tup (new tp10 e10 ht) aB (by show 3 ≤ 9000; decide) (.cons (.str _) (.cons (.int _) (.cons (.int _) .nil)))) ((tp10.same s11).le (by show B + 2 + 500 * (i : Int) + 2 + 2 + 2 ≤ _; omega)) (Jh (by omega) bgoal hgoal).1
   rw [if_neg c0]
   by_cases c1 : way < 3
   ·rw [if_pos c1]
    push_cast [e10]
    refine ⟨p, 8, B + 2 + 500 * (i : Int) + 2 + 2 + 2, rfl, tp10, by show B + 2 + 500 * (i : Int) + 2 + 2 + 2 + 2 ≤ 1000100; omega, by decide, by decide, by decide, fun z => absurd z (by decide), fun u H11 u0 u1 s11 tp11 => ?_⟩
    push_cast
    refine ⟨aQ (by decide), fun t ht => ?_⟩
    have e11 := s11 _ _ hlp e10
    have ts11 := ts10.keep (kd s11)
    have s12 := au (o := HO.tup [V.str "within", V.int n, V.int (n + u), V.int goal]) ht
    exact fin t (.ins "within" [n, n + u, goal]) _ _ _ _ ((sx10.trans s11).trans s12.x) (s12 _ _ e11) (ts11.same s12) (.tup (new tp11 e11 ht) aB (by show 4 ≤ 9000; decide) (.cons (.str _) (.cons (.int _) (.cons (.int _) (.cons (.int _) .nil))))) ((tp11.same s12).le (by show B + 2 + 500 * (i : Int) + 2 + 2 + 2 + 2 ≤ _; omega)) (yP (by omega) (by omega) (by omega) bgoal hgoal)
   rw [if_neg c1]
   by_cases c2 : way < 5
   ·rw [if_pos c2]
    push_cast [e10]
    refine ⟨aQ (by decide), fun t ht => ?_⟩
    have s11 := au (o := HO.tup [V.str "below", V.int n, V.int goal]) ht
    exact fin t (.ins "below" [n, goal]) _ _ _ _ (sx10.trans s11.x) (s11 _ _ e10) (ts10.same s11) (.tup (new tp10 e10 ht) aB (by show 3 ≤ 9000; decide) (.cons (.str _) (.cons (.int _) (.cons (.int _) .nil)))) ((tp10.same s11).le (by show B + 2 + 500 * (i : Int) + 2 + 2 + 2 ≤ _; omega)) (Jh (by omega) bgoal hgoal).2
   rw [if_neg c2]
   by_cases c3 : way < 7
   ·rw [if_pos c3]
    refine ⟨p, 12, B + 2 + 500 * (i : Int) + 2 + 2 + 2, rfl, tp10, by show B + 2 + 500 * (i : Int) + 2 + 2 + 2 + 2 ≤ 1000100; omega, by decide, by decide, by decide, fun z => absurd z (by decide), fun u H11 u0 u1 s11 tp11 => ?_⟩
    push_cast
    refine ⟨aQ (by decide), fun t1 ht1 => ⟨aQ (by decide), fun t2 ht2 => ⟨aQ (by decide), fun t3 ht3 => ?_⟩⟩⟩
    have e11 := s11 _ _ hlp e10
    have ts11 := ts10.keep (kd s11)
    have v1 := au (o := HO.tup [V.int (n - 3), V.int (1 + u)]) ht1
    have v2 := au (o := HO.tup [V.int (-20), V.int 64]) ht2
    have v3 := au (o := HO.lst [V.ref t1, V.ref t2]) ht3
    have f1 := (v2.trans v3) _ _ (show upd H11 t1 (HO.tup [V.int (n - 3), V.int (1 + u)]) t1 = _ from aB)
    have f2 := v3 _ _ (show upd (upd H11 t1 (HO.tup [V.int (n - 3), V.int (1 + u)])) t2 (HO.tup [V.int (-20), V.int 64]) t2 = _ from aB)
    have f3 : upd (upd (upd H11 t1 (HO.tup [V.int (n - 3), V.int (1 + u)])) t2 (HO.tup [V.int (-20), V.int 64])) t3 (HO.lst [V.ref t1, V.ref t2]) t3 = _ := aB
    have v := (v1.trans v2).trans v3
    have n1 := tp11.ne ht1
    have n2 := (tp11.same v1).ne ht2
    have n3 := (tp11.same (v1.trans v2)).ne ht3
    have tp12 := tp11.same v
    have e12 := v _ _ e11
    have ts12 := ts11.same v
    generalize upd (upd (upd H11 t1 (HO.tup [V.int (n - 3), V.int (1 + u)])) t2 (HO.tup [V.int (-20), V.int 64])) t3 (HO.lst [V.ref t1, V.ref t2]) = H12 at v3 f1 f2 f3 v tp12 e12 ts12 ⊢
    refine ⟨p, 4, B + 2 + 500 * (i : Int) + 2 + 2 + 2 + 2, rfl, tp12, by show B + 2 + 500 * (i : Int) + 2 + 2 + 2 + 2 + 2 ≤ 1000100; omega, by decide, by decide, by decide, fun z => absurd z (by decide), fun u4 H13 u40 u41 s13 tp13 => ?_⟩
    have f1 := s13 _ _ n1 f1
    have f2 := s13 _ _ n2 f2
    have f3 := s13 _ _ n3 f3
    have e13 := s13 _ _ hlp e12
    have ts13 := ts12.keep (kd s13)
    have sx13 := ((sx10.trans s11).trans v.x).trans s13
    obtain ⟨tk, lo, wd, hat, etk, blo, bwd⟩ : ∃ (tk : Addr) (lo wd : Int), atI [V.ref t1, V.ref t2] (u4 / 2) = some (V.ref tk) ∧ H13 tk = some (.tup [V.int lo, V.int wd]) ∧ lo.natAbs ≤ 100 ∧ (1 ≤ wd ∧ wd ≤ 64) := by
     have : u4 / 2 = 0 ∨ u4 / 2 = 1 := by omega
     rcases this with z | z
     ·rw [z]; exact ⟨t1, n - 3, 1 + u, rfl, f1, by omega, by omega⟩
     ·rw [z]; exact ⟨t2, -20, 64, rfl, f2, by decide, by decide⟩
    push_cast [f3, hat, etk, Int.one_mul]
    have pw1 := two_pow_pos wd.toNat
    have pw2 := pZ (k := wd.toNat) (by omega)
    refine ⟨⟨by decide, by decide⟩, ⟨by omega, by omega, by decide⟩, p, 2 ^ wd.toNat, B + 2 + 500 * (i : Int) + 2 + 2 + 2 + 2 + 2, rfl, tp13, by show B + 2 + 500 * (i : Int) + 2 + 2 + 2 + 2 + 2 + 2 ≤ 1000100; omega, pw1, by omega, by decide, fun _ => by decide, fun bits H14 bits0 bits1 s14 tp14 => ?_⟩
    have e14 := s14 _ _ hlp e13
    have ts14 := ts13.keep (kd s14)
    push_cast [e14]
    refine ⟨aQ (by decide), fun t ht => ?_⟩
    have s15 := au (o := HO.tup [V.str "mask", V.int lo, V.int wd, V.int bits, V.int goal]) ht
    exact fin t (.ins "mask" [lo, wd, bits, goal]) _ _ _ _ ((sx13.trans s14).trans s15.x) (s15 _ _ e14) (ts14.same s15) (.tup (new tp14 e14 ht) aB (by show 5 ≤ 9000; decide) (.cons (.str _) (.cons (.int _) (.cons (.int _) (.cons (.int _) (.cons (.int _) .nil)))))) ((tp14.same s15).le (by show B + 2 + 500 * (i : Int) + 2 + 2 + 2 + 2 + 2 + 2 ≤ _; omega)) (Hi bwd ⟨bits0, bits1⟩ (by omega) bgoal hgoal)
   rw [if_neg c3]
   by_cases c4 : way = 7
   ·rw [if_pos c4]
    refine ⟨p, 12, B + 2 + 500 * (i : Int) + 2 + 2 + 2, rfl, tp10, by show B + 2 + 500 * (i : Int) + 2 + 2 + 2 + 2 ≤ 1000100; omega, by decide, by decide, by decide, fun z => absurd z (by decide), fun u H11 u0 u1 s11 tp11 => ?_⟩
    push_cast
    refine ⟨aQ (by decide), fun t1 ht1 => ⟨aQ (by decide), fun t2 ht2 => ⟨aQ (by decide), fun t4 ht4 => ⟨aQ (by decide), fun t3 ht3 => ?_⟩⟩⟩⟩
    have e11 := s11 _ _ hlp e10
    have ts11 := ts10.keep (kd s11)
    have v1 := au (o := HO.tup [V.int (n - 3), V.int (1 + u)]) ht1
    have v2 := au (o := HO.tup [V.int (-20), V.int 64]) ht2
    have v4 := au (o := HO.tup [V.int (-100), V.int 200]) ht4
    have v3 := au (o := HO.lst [V.ref t1, V.ref t2, V.ref t4]) ht3
    have f1 := ((v2.trans v4).trans v3) _ _ (show upd H11 t1 (HO.tup [V.int (n - 3), V.int (1 + u)]) t1 = _ from aB)
    have f2 := (v4.trans v3) _ _ (show upd (upd H11 t1 (HO.tup [V.int (n - 3), V.int (1 + u)])) t2 (HO.tup [V.int (-20), V.int 64]) t2 = _ from aB)
    have f4 := v3 _ _ (show upd (upd (upd H11 t1 (HO.tup [V.int (n - 3), V.int (1 + u)])) t2 (HO.tup [V.int (-20), V.int 64])) t4 (HO.tup [V.int (-100), V.int 200]) t4 = _ from aB)
    have f3 : upd (upd (upd (upd H11 t1 (HO.tup [V.int (n - 3), V.int (1 + u)])) t2 (HO.tup [V.int (-20), V.int 64])) t4 (HO.tup [V.int (-100), V.int 200])) t3 (HO.lst [V.ref t1, V.ref t2, V.ref t4]) t3 = _ := aB
    have v := ((v1.trans v2).trans v4).trans v3
    have n1 := tp11.ne ht1
    have n2 := (tp11.same v1).ne ht2
    have n4 := (tp11.same (v1.trans v2)).ne ht4
    have n3 := (tp11.same ((v1.trans v2).trans v4)).ne ht3
    have tp12 := tp11.same v
    have e12 := v _ _ e11
    have ts12 := ts11.same v
    generalize upd (upd (upd (upd H11 t1 (HO.tup [V.int (n - 3), V.int (1 + u)])) t2 (HO.tup [V.int (-20), V.int 64])) t4 (HO.tup [V.int (-100), V.int 200])) t3 (HO.lst [V.ref t1, V.ref t2, V.ref t4]) = H12 at v3 f1 f2 f4 f3 v tp12 e12 ts12 ⊢
    refine ⟨p, 6, B + 2 + 500 * (i : Int) + 2 + 2 + 2 + 2, rfl, tp12, by show B + 2 + 500 * (i : Int) + 2 + 2 + 2 + 2 + 2 ≤ 1000100; omega, by decide, by decide, by decide, fun z => absurd z (by decide), fun u4 H13 u40 u41 s13 tp13 => ?_⟩
    have f1 := s13 _ _ n1 f1
    have f2 := s13 _ _ n2 f2
    have f4 := s13 _ _ n4 f4
    have f3 := s13 _ _ n3 f3
    have e13 := s13 _ _ hlp e12
    have ts13 := ts12.keep (kd s13)
    have sx13 := ((sx10.trans s11).trans v.x).trans s13
    obtain ⟨tk, lo, wd, hat, etk, blo, bwd⟩ : ∃ (tk : Addr) (lo wd : Int), atI [V.ref t1, V.ref t2, V.ref t4] (u4 / 2) = some (V.ref tk) ∧ H13 tk = some (.tup [V.int lo, V.int wd]) ∧ lo.natAbs ≤ 100 ∧ (1 ≤ wd ∧ wd ≤ 200) := by
     have : u4 / 2 = 0 ∨ u4 / 2 = 1 ∨ u4 / 2 = 2 := by omega
     rcases this with z | z | z
     ·rw [z]; exact ⟨t1, n - 3, 1 + u, rfl, f1, by omega, by omega⟩
     ·rw [z]; exact ⟨t2, -20, 64, rfl, f2, by decide, by decide⟩
     ·rw [z]; exact ⟨t4, -100, 200, rfl, f4, by decide, by decide⟩
    push_cast [f3, hat, etk, e13]
    refine ⟨⟨by decide, by decide⟩, ?_⟩
    refine eX fun R2 hR2 => ?_
    push_cast [ql]
    refine ⟨by omega, by omega, ?_⟩
    obtain ⟨Pc, hPc⟩ : ∃ Pv : Nat → List V → L2.St → Hp → Prop, Pv = fun (j : Nat) acc τ H' => ∃ (gs : List Int) (o0 : Option V), bM p H13 H' ∧ bW H' p (B + 2 + 500 * (i : Int) + 10 + 2 * (j : Int)) ∧ acc = gs.map V.int ∧ gs.length = j ∧ gs.all (btw (i : Int) m) = true ∧ τ = [o0, some (V.int (0 + (i : Int))), some (V.ref p), some (V.int m)] := ⟨_, rfl⟩
    refine Mh hR2 (aQ (by omega)) Pc (by rw [hPc]; exact ⟨[], _, bM.refl _ _, tp13.le (by show B + 2 + 500 * (i : Int) + 2 + 2 + 2 + 2 + 2 ≤ B + 2 + 500 * (i : Int) + 10 + 2 * ((0 : Nat) : Int); omega), rfl, rfl, rfl, rfl⟩) ?_ ?_ ?_
    ·intro j acc τ H14 pc
     rw [hPc] at pc
     obtain ⟨gs, _, _, _, rfl, hg, _⟩ := pc
     rw [List.length_map]
     omega
    ·intro j acc τ H14 hj pc
     rw [hPc] at pc
     obtain ⟨gs, o0, s14, tp14, rfl, hgl, hga, rfl⟩ := pc
     push_cast
     refine ⟨p, m - (0 + (i : Int)) - 1, B + 2 + 500 * (i : Int) + 10 + 2 * (j : Int), rfl, tp14, by show B + 2 + 500 * (i : Int) + 10 + 2 * (j : Int) + 2 ≤ 1000100; omega, by omega, by omega, by decide, fun z => absurd z (by omega), fun g H15 g0 g1 s15 tp15 => ?_⟩
     push_cast
     rw [hPc]
     have hb : btw (i : Int) m (0 + (i : Int) + 1 + g) = true := by rw [Int.zero_add]; exact uL g0 (by omega)
     refine ⟨gs ++ [0 + (i : Int) + 1 + g], _, s14.trans s15, tp15.le (by show B + 2 + 500 * (i : Int) + 10 + 2 * (j : Int) + 2 ≤ B + 2 + 500 * (i : Int) + 10 + 2 * ((j + 1 : Nat) : Int); omega), by rw [List.map_append]; rfl, by rw [List.length_append, List.length_singleton, hgl], by rw [List.all_append, hga, List.all_cons, hb]; rfl, rfl⟩
    ·intro acc τ H14 d14 pc hd14
     rw [hPc] at pc
     obtain ⟨gs, o0, s14, tp14, rfl, hgl, hga, rfl⟩ := pc
     have s15 := au (o := HO.lst (gs.map V.int)) hd14
     have e15 : upd H14 d14 (HO.lst (gs.map V.int)) d14 = _ := aB
     have el := s15 _ _ (s14 _ _ hlp e13)
     have ts15 := (ts13.keep (kd s14)).same s15
     have tp15 := tp14.same s15
     have sx15 := (sx13.trans s14).trans s15.x
     generalize upd H14 d14 (HO.lst (gs.map V.int)) = H15 at s15 e15 el ts15 tp15 sx15 ⊢
     push_cast [e15]
     refine ⟨gs.map V.int, .inl ⟨SqL.of e15, fun lt hlt => ⟨aQ (by decide), fun t ht => ?_⟩⟩⟩
     have w1 := au (o := HO.tup (gs.map V.int)) hlt
     have w2 := au (o := HO.tup [V.str "table", V.int lo, V.ref lt]) ht
     have g1 := w2 _ _ (show upd H15 lt (HO.tup (gs.map V.int)) lt = _ from aB)
     have w := w1.trans w2
     have okl : OD lt := new tp15 el hlt
     have okt : OD t := new (tp15.same w1) (w1 _ _ el) ht
     have glen : gs.length ≤ 200 := by omega
     refine fin t (.tab lo gs) _ _ _ _ (sx15.trans w.x) (w _ _ el) (ts15.same w) (.tup okt aB (by show 3 ≤ 9000; decide) (.cons (.str _) (.cons (.int _) (.cons (.tup okl g1 (by rw [List.length_map]; omega) (pK gs)) .nil)))) ((tp15.same w).le (by omega)) ⟨fun z => ?_, glen, hga, by omega⟩
     rw [z] at hgl
     simp at hgl
     omega
   rw [if_neg c4]
   push_cast [e10]
   refine ⟨p, 5, B + 2 + 500 * (i : Int) + 2 + 2 + 2, rfl, tp10, by show B + 2 + 500 * (i : Int) + 2 + 2 + 2 + 2 ≤ 1000100; omega, by decide, by decide, by decide, fun z => absurd z (by decide), fun u H11 u0 u1 s11 tp11 => ?_⟩
   push_cast
   refine ⟨aQ (by decide), fun t ht => ?_⟩
   have e11 := s11 _ _ hlp e10
   have ts11 := ts10.keep (kd s11)
   have s12 := au (o := HO.tup [V.str "pick", V.int u]) ht
   exact fin t (.ins "pick" [u]) _ _ _ _ ((sx10.trans s11).trans s12.x) (s12 _ _ e11) (ts11.same s12) (.tup (new tp11 e11 ht) aB (by show 2 ≤ 9000; decide) (.cons (.str _) (.cons (.int _) .nil))) ((tp11.same s12).le (by show B + 2 + 500 * (i : Int) + 2 + 2 + 2 + 2 ≤ _; omega)) (wX u0 (by omega))
  ·intro σ H7 pv
   rw [hPv] at pv
   obtain ⟨xs, rs, o3, o4, o5, o6, o7, o8, o9, sx7, tp7, e7, ts7, hrl, rok, rfl⟩ := pv
   show k _ _
   subst hk
   have hxl := ts7.length
   rw [List.length_map] at hxl
   push_cast
   refine ⟨p, 5, B + 2 + 500 * (((m - 1).toNat : Nat) : Int), rfl, tp7, by show B + 2 + 500 * (((m - 1).toNat : Nat) : Int) + 2 ≤ 1000100; omega, by decide, by decide, by decide, fun z => absurd z (by decide), fun u H8 u0 u1 s8 tp8 => ?_⟩
   have e8 := s8 _ _ hlp e7
   have ts8 := ts7.keep (kd s8)
   push_cast
   refine ⟨aQ (by decide), fun t ht => ⟨aQ (by decide), fun l9 hl9 => ?_⟩⟩
   have v1 := au (o := HO.tup [V.str "pick", V.int u]) ht
   have v2 := au (o := HO.lst [V.ref t]) hl9
   have f1 := v2 _ _ (show upd H8 t (HO.tup [V.str "pick", V.int u]) t = _ from aB)
   have v := v1.trans v2
   have e9 := v _ _ e8
   have ts9 := ts8.same v
   have tp9 := tp8.same v
   have sx9 := (sx7.trans s8).trans v.x
   have okt : OD t := by
    rw [hOD]
    exact ⟨tp8.ne ht, (aF e8 ht).symm⟩
   push_cast [e9]
   generalize upd (upd H8 t (HO.tup [V.str "pick", V.int u])) l9 (HO.lst [V.ref t]) = H9 at v2 f1 v e9 ts9 tp9 sx9 ⊢
   refine ⟨aQ (by omega), fun l10 hl10 => ?_⟩
   have v3 := au (o := HO.lst (xs ++ [V.ref t])) hl10
   have tall : aG OD H9 (xs ++ [V.ref t]) ((rs ++ [cV.ins "pick" [u]]).map dM) := by
    rw [List.map_append]
    exact ts9.append (.cons (.tup okt f1 (by show 2 ≤ 9000; decide) (.cons (.str _) (.cons (.int _) .nil))) .nil)
   refine q l10 (rs ++ [cV.ins "pick" [u]]) _ (sx9.trans v3.x) ((tp9.same v3).le (by omega)) (.lst (tp9.ne hl10) aB (by rw [List.length_append, List.length_singleton]; omega) ((tall.same v3).keep fun a o h e => ?_)) (by rw [List.length_append, List.length_singleton]; omega) (pW rok (wX u0 (by omega)))
   rw [hOD] at h
   exact ⟨h.1, e⟩
abbrev dm : Stmt := top 27
theorem mY : bB ["_law_script", "_law_k", "_law_tape_here", "_law_rows_here", "_law_kept", "_law_due", "_law_turn", "_law_found"] ["_law_script"] (ak dm) := ⟨rfl, rfl, rfl, by decide +kernel, rfl, by decide +kernel, by decide +kernel⟩
theorem Dc : Nm ["_law_script", "_law_k", "_law_tape_here", "_law_rows_here", "_law_kept", "_law_due", "_law_turn", "_law_found"] (ak dm) 0 "_law_script" := .of (by decide +kernel)
theorem CZ : Nm ["_law_script", "_law_k", "_law_tape_here", "_law_rows_here", "_law_kept", "_law_due", "_law_turn", "_law_found"] (ak dm) 1 "_law_k" := .of (by decide +kernel)
theorem rM : Nm ["_law_script", "_law_k", "_law_tape_here", "_law_rows_here", "_law_kept", "_law_due", "_law_turn", "_law_found"] (ak dm) 2 "_law_tape_here" := .of (by decide +kernel)
theorem lz : Nm ["_law_script", "_law_k", "_law_tape_here", "_law_rows_here", "_law_kept", "_law_due", "_law_turn", "_law_found"] (ak dm) 3 "_law_rows_here" := .of (by decide +kernel)
theorem La : Nm ["_law_script", "_law_k", "_law_tape_here", "_law_rows_here", "_law_kept", "_law_due", "_law_turn", "_law_found"] (ak dm) 4 "_law_kept" := .of (by decide +kernel)
theorem CW : Nm ["_law_script", "_law_k", "_law_tape_here", "_law_rows_here", "_law_kept", "_law_due", "_law_turn", "_law_found"] (ak dm) 5 "_law_due" := .of (by decide +kernel)
theorem K9 : Nm ["_law_script", "_law_k", "_law_tape_here", "_law_rows_here", "_law_kept", "_law_due", "_law_turn", "_law_found"] (ak dm) 6 "_law_turn" := .of (by decide +kernel)
theorem vH : Nm ["_law_script", "_law_k", "_law_tape_here", "_law_rows_here", "_law_kept", "_law_due", "_law_turn", "_law_found"] (ak dm) 7 "_law_found" := .of (by decide +kernel)
theorem vQ : (ak dm).names.lookup ("_law_rows" : Str) = some .globalImplicit := by decide +kernel
theorem ou : (ak dm).names.lookup ("_law_same" : Str) = some .globalImplicit := by decide +kernel
theorem oh : (ak dm).names.lookup ("_law_take" : Str) = some .globalImplicit := by decide +kernel
theorem vP : (ak dm).names.lookup ("_law_tape" : Str) = some .globalImplicit := by decide +kernel
theorem Dw : (ak dm).names.lookup ("len" : Str) = some .globalImplicit := by decide +kernel
theorem Dv : (ak dm).names.lookup ("min" : Str) = some .globalImplicit := by decide +kernel
theorem n8 : (ak dm).names.lookup ("range" : Str) = some .globalImplicit := by decide +kernel
theorem qp : (ak dm).names.lookup ("repr" : Str) = some .globalImplicit := by decide +kernel
theorem pB : (ak dm).names.lookup ("rows_from" : Str) = some .globalImplicit := by decide +kernel
theorem pA : (ak dm).names.lookup ("rows_text" : Str) = some .globalImplicit := by decide +kernel
def wH (K : PySem.W.Frag) : Sp := fun vs H Q _ => ∃ (a : Addr) (ns : List Int), vs = [.ref a] ∧ SqL K H a (ns.map V.int) ∧ ns.length ≤ 63 ∧ ∀ H', Q (.bl true) H'
theorem K6 (hB : ∀ x : Str, x ∈ BLs → mg x = none) (CZTake : Cal P w K mg base "_law_take" 2 ["_law_tape_here", "_law_many"] (kE 2)) (CZTape : Cal P w K mg base "_law_tape" 2 ["_law_script", "_law_k"] (Aq K)) (CZRows : Cal P w K mg base "_law_rows" 3 ["_law_tape_here", "_law_many"] wD)
  (CZRowText : Cal P w K mg base "_law_row_text" 1 ["_law_row"] iQ) (CRowsText : Cal P w K mg base "rows_text" 2 ["rows"] mQ) (CRowsFrom : Cal P w K mg base "rows_from" 5 ["text"] mR) (CZSame : Cal P w K mg base "_law_same" 5 ["_law_found", "_law_due"] (iM 5))
  (F : Fun K "law" "law" dm f fd) : dj P w K mg base CX0 63 f fd ["_law_script"] (wH K) := by
 refine F.okq mY (fun vs H Q E h => ?_) (fun cdv A outer s H vs Q E hr h => ?_)
 ·obtain ⟨a, ns, rfl, _⟩ := h
  rfl
 ·obtain ⟨a, ns, rfl, hS, h63, q⟩ := h
  refine ⟨_, (aD (rE PassesOwn.never rfl (iR n8 (hB "range" jQ) (aj (aO bJ ao (bI (zA rfl) Dv (hB "min" Le) boot_min Mi (aj ao (aj (bI fj Dw (hB "len" fM) PySem.boot_len fP (aj (aA Dc) aq)) aq)))) aq)) (jH CZ mY.nd)
   (aD (cX rM mY.nd (bH CZTape (hr.mono (by decide)) vP IK (aj (aA Dc) (aj (aA CZ) aq))))
   (aD (cX lz mY.nd (bH CZRows (hr.mono (by decide)) vQ IV (aj (aA rM) (aj (aO bJ ao (bH CZTake (hr.mono (by decide)) oh cG (aj (aA rM) (aj (bG cU (fZ (aj ao (aj ao (aj ao (aj ao (aj ao (aj ao (aj ao (aj ao aq))))))))) (bH CZTake (hr.mono (by decide)) oh cG (aj (aA rM) (aj ao aq))) (fun _ _ => rfl)) aq)))) aq))))
   (aD (BZ (i := 4) (j := 5) rfl mY.nd rfl rfl (by decide) rfl rfl (aj (bI (oK hr.gd hr.Jd) qp (hB "repr" wZ) boot_repr xY (aj (aA lz) aq)) (aj (lF PySem.F.slot_str_join PySem.F.type_str_join jP bh (aj (dZ (NX := ["_law_script", "_law_k", "_law_tape_here", "_law_rows_here", "_law_kept", "_law_due", "_law_turn", "_law_found"]) (kX := (ak dm).names) ["_law_row"] [none] rfl rfl ⟨rfl, by decide +kernel, by decide +kernel, by decide +kernel, by decide +kernel⟩ rfl (fU (aA lz)) (fun _ _ _ _ _ => (dh 0 (show List.Nodup (["_law_row"] : List Str) from by decide +kernel) rfl (Or.inl rfl))) (fun _ _ _ _ _ => fH) (fun _ _ _ _ _ => (bH CZRowText (hr.mono (by decide)) rfl v5 (aj (gW 0) aq)))) aq)) aq)) (by rfl))
   (aH (rE PassesOwn.never rfl (iR n8 (hB "range" jQ) (aj ao aq)) (jH K9 mY.nd)
   (aD (b7 (rD (nu (eU (dR (bH CZSame (hr.mono (by decide)) ou sS (aj (bH CRowsText (hr.mono (by decide)) pA v7 (aj (aA lz) aq)) (aj (aA CW) aq))))) (jn (bK (lg hr.bN) (bI (oK hr.gd hr.Jd) qp (hB "repr" wZ) boot_repr xY (aj (aA lz) aq)) (aA La) (aV _))))) (aH (aP jf)) bO)
   (aD (cX vH mY.nd (bH CRowsFrom (hr.mono (by decide)) pB v8 (aj (aA CW) aq)))
   (aD (b7 (eU (dR (bH CZSame (hr.mono (by decide)) ou sS (aj (aA vH) (aj (aA lz) aq))))) (aH (aP jf)) bO)
   (aH (fQ (fV (aA vH) (cP (aj bh (aj ao aq)))))))))))))))
   (aH (aP jf))), ?_⟩
  refine bC fun k hk => ?_
  refine xK fun R hR => ?_
  push_cast [ql]
  refine ⟨_, .inl hS, ?_⟩
  rw [List.length_map]
  have m6 : (0 : Int) ≤ 1 + (if (ns.length : Int) < 8 then (ns.length : Int) else 8) ∧ 1 + (if (ns.length : Int) < 8 then (ns.length : Int) else 8) ≤ 9 := by
   split <;> omega
  refine ⟨by omega, by omega, ?_⟩
  obtain ⟨Pv, hPv⟩ : ∃ Pv : Nat → L2.St → Hp → Prop, Pv = fun (i : Nat) σ H' => Same H H' ∧ ∃ o1 o2 o3 o4 o5 o6 o7, σ = [some (.ref a), o1, o2, o3, o4, o5, o6, o7] := ⟨_, rfl⟩
  refine Dz hR Pv (by rw [hPv]; exact ⟨Same.refl _, none, none, none, none, none, none, none, rfl⟩) ?_ ?_
  ·intro i σ H1 hi pv
   rw [hPv] at pv
   obtain ⟨s1, o1, o2, o3, o4, o5, o6, o7, rfl⟩ := pv
   refine bC fun k2 hk2 => ?_
   push_cast
   refine ⟨a, ns, (0 : Int) + (i : Int), rfl, s1.seq hS, by omega, by omega, fun p H2 hp s2 tp => ?_⟩
   push_cast
   subst hk2
   have hp0 : H p = none := s1.none hp
   refine bC fun k2 hk2 => ?_
   push_cast
   refine ⟨aQ (by decide), fun l0 hl0 => ?_⟩
   have sA := au (o := HO.lst [V.int 4, V.int 20, V.int 4, V.int 20, V.int 4, V.int 20, V.int 4, V.int 300]) hl0
   have tpA := tp.same sA
   have nA := tp.ne hl0
   have eA : upd H2 l0 (HO.lst [V.int 4, V.int 20, V.int 4, V.int 20, V.int 4, V.int 20, V.int 4, V.int 300]) l0 = _ := aB
   generalize upd H2 l0 (HO.lst [V.int 4, V.int 20, V.int 4, V.int 20, V.int 4, V.int 20, V.int 4, V.int 300]) = HA at sA tpA eA ⊢
   refine ⟨p, 8, 0, rfl, tpA, by decide, by decide, by decide, by decide, fun z => absurd z (by decide), fun r1 HB r10 r11 sB tpB => ?_⟩
   have eB := sB _ _ nA eA
   have sxB : bM p H HB := (((s1.trans s2).trans sA).x (p := p)).trans sB
   obtain ⟨mm, hmm, e7⟩ := Cj (is := [4, 20, 4, 20, 4, 20, 4, 300]) r10 r11
   replace e7 : atI [V.int 4, V.int 20, V.int 4, V.int 20, V.int 4, V.int 20, V.int 4, V.int 300] r1 = some (.int mm) := e7
   have bmm : 4 ≤ mm ∧ mm ≤ 300 := by
    simp only [List.mem_cons, List.not_mem_nil, or_false] at hmm
    omega
   push_cast [eB, e7]
   refine ⟨p, mm, 0 + 2, rfl, tpB, by decide, by omega, by omega, by omega, fun z => by omega, fun r2 HC r20 r21 sC tpC => ?_⟩
   push_cast
   refine ⟨p, 1 + r2, 0 + 2 + 2, rfl, tpC, by decide, by decide, by omega, by omega, fun l rs HD sD tpD trD hlen hok => ?_⟩
   have sxD := (sxB.trans sC).trans sD
   have hrl : rs.length ≤ 301 := by omega
   have hsm : ∀ r ∈ rs, eN r := fun r hr => by
    obtain ⟨j, hj⟩ := List.mem_iff_getElem?.mp hr
    exact nj (hok j r hj) (by omega) (by omega)
   have hok2 : ∀ (j : Nat) r, rs[j]? = some r → eO rs.length j r := fun j r hj => by rw [hlen]; exact hok j r hj
   have shw := yp hok (by omega) (by omega)
   have hne : rs ≠ [] := fun z => by rw [z] at hlen; simp at hlen; omega
   subst hk2
   have trD0 := trD
   cases trD with
   | lst oD eD zD tsD =>
    rename_i xs
    have hxl := tsD.length
    rw [List.length_map] at hxl
    refine bC fun k2 hk2 => ?_
    push_cast [rdT]
    refine ⟨_, _, _, rfl, trD0, shw, ?_⟩
    refine eX fun R2 hR2 => ?_
    push_cast [eD]
    obtain ⟨Pc, hPc⟩ : ∃ Pv : Nat → List V → L2.St → Hp → Prop, Pv = fun (i : Nat) acc τ H' => ∃ (o1 : Option V), Same HD H' ∧ acc = ((rs.take i).map dO).map V.str ∧ τ = [o1] := ⟨_, rfl⟩
    refine sE hR2 (xs := xs) (aQ zD) Pc (by rw [hPc]; exact ⟨none, Same.refl _, rfl, rfl⟩) ?_ ?_ ?_ ?_
    ·intro i acc τ H3 pc
     rw [hPc] at pc
     obtain ⟨_, _, rfl, _⟩ := pc
     rw [List.length_map, List.length_map]
     exact List.length_take_le _ _
    ·intro i acc τ H3 pc
     rw [hPc] at pc
     obtain ⟨_, s3, _⟩ := pc
     exact SqL.of (s3 _ _ eD)
    ·intro i x acc τ H3 hx pc
     rw [hPc] at pc
     obtain ⟨_, s3, rfl, rfl⟩ := pc
     obtain ⟨d, hd, td⟩ := (tsD.same s3).get hx
     rw [List.getElem?_map] at hd
     obtain ⟨r, hr1, rfl⟩ := Option.map_eq_some_iff.mp hd
     push_cast
     refine ⟨x, _, r, rfl, td, hsm r (List.mem_of_getElem? hr1), fun H4 s4 => ?_⟩
     rw [hPc]
     refine ⟨_, s3.trans s4, ?_, rfl⟩
     rw [take_snoc hr1, List.map_append, List.map_append]
     rfl
    ·intro acc τ H3 d pc hd
     rw [hPc] at pc
     obtain ⟨_, s3, rfl, rfl⟩ := pc
     rw [hxl, List.take_length]
     have s4 := s3.trans (au (o := HO.lst ((rs.map dO).map V.str)) hd)
     have e4 : upd H3 d (HO.lst ((rs.map dO).map V.str)) d = _ := aB
     generalize upd H3 d (HO.lst ((rs.map dO).map V.str)) = H4 at s4 e4 ⊢
     push_cast [rdT, e4]
     refine ⟨_, rfl, m5 hsm (by omega), ?_⟩
     show k2 [_, _, _, _, _, some (V.str (jG rs)), _, _] H4
     subst hk2
     refine xK fun R3 hR3 => ?_
     push_cast [ql]
     refine ⟨by decide, by decide, ?_⟩
     obtain ⟨Pw, hPw⟩ : ∃ Pv : Nat → L2.St → Hp → Prop, Pv = fun (j : Nat) σ H' => Same H4 H' ∧ ∃ o6 o7, σ = [some (.ref a), some (.int (0 + (i : Int))), some (.ref p), some (.ref l), some (V.str (PyData.list (rs.map dM)).shown), some (V.str (jG rs)), o6, o7] := ⟨_, rfl⟩
     refine Dz hR3 Pw (by rw [hPw]; exact ⟨Same.refl _, _, _, rfl⟩) ?_ ?_
     ·intro j σ H5 hj pw
      rw [hPw] at pw
      obtain ⟨s5, o6, o7, rfl⟩ := pw
      have tr5 := trD0.same (s4.trans s5)
      refine bC fun k3 hk3 => ?_
      push_cast
      refine ⟨_, _, rs, rfl, tr5, hsm, by omega, fun H6 s6 => ?_⟩
      push_cast
      refine ⟨_, _, fun _ => True, .str (jG rs), rfl, .str _, .str _, by show 0 < 5; decide, fun H7 s7 => ?_⟩
      push_cast
      have s57 := s6.trans s7
      refine ⟨_, _, _, rfl, tr5.same s57, shw, ?_⟩
      push_cast
      subst hk3
      refine bC fun k3 hk3 => ?_
      push_cast
      refine ⟨rs, rfl, hne, by omega, hok2, fun p8 H8 hp8 s8 t8 => ?_⟩
      subst hk3
      refine bC fun k3 hk3 => ?_
      push_cast
      have tr8 := tr5.same (s57.trans s8)
      have hdep : (PyData.list (rs.map dM)).depth < 5 := by
       have : PyData.depthAll (rs.map dM) ≤ 2 := iJ fun d hd => by
        obtain ⟨r, hr, rfl⟩ := List.mem_map.mp hd
        obtain ⟨j, hj⟩ := List.mem_iff_getElem?.mp hr
        exact (wK (hok j r hj) (hsm r hr)).2
       show PyData.depthAll (rs.map dM) + 1 < 5
       omega
      refine ⟨_, _, fun _ => True, _, rfl, t8, tr8.keep (ok' := fun _ => True) (fun a o _ e => ⟨trivial, e⟩), hdep, fun H9 s9 => ?_⟩
      push_cast
      subst hk3
      cases t8 with
      | lst o8 e8 z8 ts8 =>
       rename_i ys8
       have e9 := s9 _ _ e8
       push_cast [e9]
       refine ⟨aQ (by decide), fun p9 hp9 => ?_⟩
       have n89 : p8 ≠ p9 := aF e9 hp9
       rw [aJ n89, e9, sW]
       have hyl := ts8.length
       rw [List.length_map] at hyl
       refine ⟨Nat.lt_of_lt_of_le (show ys8.length < 9000 by omega) (aQ (Nat.le_refl 9000)), ?_⟩
       rw [hPw]
       have hp84 : H4 p8 = none := (s5.trans s57).none hp8
       exact ⟨rA (((s5.trans s57).trans (s8.trans s9)).x.trans ((au hp9).x.trans bM.upd)) hp84, _, _, rfl⟩
     ·intro σ H5 pw
      rw [hPw] at pw
      obtain ⟨s5, o6, o7, rfl⟩ := pw
      show Pv (i + 1) _ _
      rw [hPv]
      exact ⟨rA (sxD.trans (s4.trans s5).x) hp0, _, _, _, _, _, _, _, rfl⟩
  ·intro σ H1 pv
   rw [hPv] at pv
   obtain ⟨s1, o1, o2, o3, o4, o5, o6, o7, rfl⟩ := pv
   show k _ _
   subst hk
   exact q _
end
theorem all_mk {l : PySem.W.OpenLaw} {w : World} {K : PySem.W.Frag} {h : Heap} {mg : Str → Option Value} {fa : Addr} {f1 : Addr} {od1 an1 : Option Addr} {sl1 : Array (Option Value)} {oc1 kV1 dc1 pm1 cd1 ct1 : Value} {f2 : Addr} {od2 an2 : Option Addr} {sl2 : Array (Option Value)} {oc2 kV2 dc2 pm2 cd2 ct2 : Value} {f3 : Addr} {od3 an3 : Option Addr} {sl3 : Array (Option Value)} {oc3 kV3 dc3 pm3 cd3 ct3 : Value} {f4 : Addr} {od4 an4 : Option Addr} {sl4 : Array (Option Value)} {oc4 kV4 dc4 pm4 cd4 ct4 : Value} {f5 : Addr} {od5 an5 : Option Addr} {sl5 : Array (Option Value)} {oc5 kV5 dc5 pm5 cd5 ct5 : Value} {f6 : Addr} {od6 an6 : Option Addr} {sl6 : Array (Option Value)} {oc6 kV6 dc6 pm6 cd6 ct6 : Value} {f7 : Addr} {od7 an7 : Option Addr} {sl7 : Array (Option Value)} {oc7 kV7 dc7 pm7 cd7 ct7 : Value} {f8 : Addr} {od8 an8 : Option Addr} {sl8 : Array (Option Value)} {oc8 kV8 dc8 pm8 cd8 ct8 : Value} {f9 : Addr} {od9 an9 : Option Addr} {sl9 : Array (Option Value)} {oc9 kV9 dc9 pm9 cd9 ct9 : Value} {f10 : Addr} {od10 an10 : Option Addr} {sl10 : Array (Option Value)} {oc10 kV10 dc10 pm10 cd10 ct10 : Value} {f11 : Addr} {od11 an11 : Option Addr} {sl11 : Array (Option Value)} {oc11 kV11 dc11 pm11 cd11 ct11 : Value} {f12 : Addr} {od12 an12 : Option Addr} {sl12 : Array (Option Value)} {oc12 kV12 dc12 pm12 cd12 ct12 : Value} {f13 : Addr} {od13 an13 : Option Addr} {sl13 : Array (Option Value)} {oc13 kV13 dc13 pm13 cd13 ct13 : Value} {f14 : Addr} {od14 an14 : Option Addr} {sl14 : Array (Option Value)} {oc14 kV14 dc14 pm14 cd14 ct14 : Value} {f15 : Addr} {od15 an15 : Option Addr} {sl15 : Array (Option Value)} {oc15 kV15 dc15 pm15 cd15 ct15 : Value} {f16 : Addr} {od16 an16 : Option Addr} {sl16 : Array (Option Value)} {oc16 kV16 dc16 pm16 cd16 ct16 : Value} {f17 : Addr} {od17 an17 : Option Addr} {sl17 : Array (Option Value)} {oc17 kV17 dc17 pm17 cd17 ct17 : Value} {f18 : Addr} {od18 an18 : Option Addr} {sl18 : Array (Option Value)} {oc18 kV18 dc18 pm18 cd18 ct18 : Value} {ckFigures : Tok} {ckMostFigures : Tok} {ckMostWide : Tok} (X : K.In h) (G : h.Ns mainGlobals mg) (hfa : mg "law" = some (.ref fa))
  (a1 : PySem.W.nsIn K mainGlobals "is_number" = some (some (.ref f1))) (l1 : K.lookup f1 = some ⟨oc1, od1, .func (PySem.W.fnOf "is_number" "is_number" (bA bZ) (aZ bZ) (ak bZ) .none kV1 dc1 pm1 an1 cd1 ct1), sl1⟩) (c1 : PySem.W.codeIn K cd1 "is_number" = true) (k1 : PySem.W.keepIn K (.ref f1) = true)
  (a2 : PySem.W.nsIn K mainGlobals "is_goal" = some (some (.ref f2))) (l2 : K.lookup f2 = some ⟨oc2, od2, .func (PySem.W.fnOf "is_goal" "is_goal" (bA cZ) (aZ cZ) (ak cZ) .none kV2 dc2 pm2 an2 cd2 ct2), sl2⟩) (c2 : PySem.W.codeIn K cd2 "is_goal" = true) (k2 : PySem.W.keepIn K (.ref f2) = true)
  (a3 : PySem.W.nsIn K mainGlobals "is_table" = some (some (.ref f3))) (l3 : K.lookup f3 = some ⟨oc3, od3, .func (PySem.W.fnOf "is_table" "is_table" (bA bL) (aZ bL) (ak bL) .none kV3 dc3 pm3 an3 cd3 ct3), sl3⟩) (c3 : PySem.W.codeIn K cd3 "is_table" = true) (k3 : PySem.W.keepIn K (.ref f3) = true)
  (a4 : PySem.W.nsIn K mainGlobals "is_mask" = some (some (.ref f4))) (l4 : K.lookup f4 = some ⟨oc4, od4, .func (PySem.W.fnOf "is_mask" "is_mask" (bA dH) (aZ dH) (ak dH) .none kV4 dc4 pm4 an4 cd4 ct4), sl4⟩) (c4 : PySem.W.codeIn K cd4 "is_mask" = true) (k4 : PySem.W.keepIn K (.ref f4) = true)
  (a5 : PySem.W.nsIn K mainGlobals "is_row" = some (some (.ref f5))) (l5 : K.lookup f5 = some ⟨oc5, od5, .func (PySem.W.fnOf "is_row" "is_row" (bA cD) (aZ cD) (ak cD) .none kV5 dc5 pm5 an5 cd5 ct5), sl5⟩) (c5 : PySem.W.codeIn K cd5 "is_row" = true) (k5 : PySem.W.keepIn K (.ref f5) = true)
  (a6 : PySem.W.nsIn K mainGlobals "number_from" = some (some (.ref f6))) (l6 : K.lookup f6 = some ⟨oc6, od6, .func (PySem.W.fnOf "number_from" "number_from" (bA aU) (aZ aU) (ak aU) .none kV6 dc6 pm6 an6 cd6 ct6), sl6⟩) (c6 : PySem.W.codeIn K cd6 "number_from" = true) (k6 : PySem.W.keepIn K (.ref f6) = true)
  (a7 : PySem.W.nsIn K mainGlobals "numbers_from" = some (some (.ref f7))) (l7 : K.lookup f7 = some ⟨oc7, od7, .func (PySem.W.fnOf "numbers_from" "numbers_from" (bA bf) (aZ bf) (ak bf) .none kV7 dc7 pm7 an7 cd7 ct7), sl7⟩) (c7 : PySem.W.codeIn K cd7 "numbers_from" = true) (k7 : PySem.W.keepIn K (.ref f7) = true)
  (a8 : PySem.W.nsIn K mainGlobals "row_text" = some (some (.ref f8))) (l8 : K.lookup f8 = some ⟨oc8, od8, .func (PySem.W.fnOf "row_text" "row_text" (bA cH) (aZ cH) (ak cH) .none kV8 dc8 pm8 an8 cd8 ct8), sl8⟩) (c8 : PySem.W.codeIn K cd8 "row_text" = true) (k8 : PySem.W.keepIn K (.ref f8) = true)
  (a9 : PySem.W.nsIn K mainGlobals "rows_text" = some (some (.ref f9))) (l9 : K.lookup f9 = some ⟨oc9, od9, .func (PySem.W.fnOf "rows_text" "rows_text" (bA cJ) (aZ cJ) (ak cJ) .none kV9 dc9 pm9 an9 cd9 ct9), sl9⟩) (c9 : PySem.W.codeIn K cd9 "rows_text" = true) (k9 : PySem.W.keepIn K (.ref f9) = true)
  (a10 : PySem.W.nsIn K mainGlobals "row_from" = some (some (.ref f10))) (l10 : K.lookup f10 = some ⟨oc10, od10, .func (PySem.W.fnOf "row_from" "row_from" (bA cB) (aZ cB) (ak cB) .none kV10 dc10 pm10 an10 cd10 ct10), sl10⟩) (c10 : PySem.W.codeIn K cd10 "row_from" = true) (k10 : PySem.W.keepIn K (.ref f10) = true)
  (a11 : PySem.W.nsIn K mainGlobals "rows_from" = some (some (.ref f11))) (l11 : K.lookup f11 = some ⟨oc11, od11, .func (PySem.W.fnOf "rows_from" "rows_from" (bA aW) (aZ aW) (ak aW) .none kV11 dc11 pm11 an11 cd11 ct11), sl11⟩) (c11 : PySem.W.codeIn K cd11 "rows_from" = true) (k11 : PySem.W.keepIn K (.ref f11) = true)
  (a12 : PySem.W.nsIn K mainGlobals "_law_cell_at" = some (some (.ref f12))) (l12 : K.lookup f12 = some ⟨oc12, od12, .func (PySem.W.fnOf "_law_cell_at" "_law_cell_at" (bA cO) (aZ cO) (ak cO) .none kV12 dc12 pm12 an12 cd12 ct12), sl12⟩) (c12 : PySem.W.codeIn K cd12 "_law_cell_at" = true) (k12 : PySem.W.keepIn K (.ref f12) = true)
  (a13 : PySem.W.nsIn K mainGlobals "_law_tape" = some (some (.ref f13))) (l13 : K.lookup f13 = some ⟨oc13, od13, .func (PySem.W.fnOf "_law_tape" "_law_tape" (bA dF) (aZ dF) (ak dF) .none kV13 dc13 pm13 an13 cd13 ct13), sl13⟩) (c13 : PySem.W.codeIn K cd13 "_law_tape" = true) (k13 : PySem.W.keepIn K (.ref f13) = true)
  (a14 : PySem.W.nsIn K mainGlobals "_law_take" = some (some (.ref f14))) (l14 : K.lookup f14 = some ⟨oc14, od14, .func (PySem.W.fnOf "_law_take" "_law_take" (bA dG) (aZ dG) (ak dG) .none kV14 dc14 pm14 an14 cd14 ct14), sl14⟩) (c14 : PySem.W.codeIn K cd14 "_law_take" = true) (k14 : PySem.W.keepIn K (.ref f14) = true)
  (a15 : PySem.W.nsIn K mainGlobals "_law_same" = some (some (.ref f15))) (l15 : K.lookup f15 = some ⟨oc15, od15, .func (PySem.W.fnOf "_law_same" "_law_same" (bA cA) (aZ cA) (ak cA) .none kV15 dc15 pm15 an15 cd15 ct15), sl15⟩) (c15 : PySem.W.codeIn K cd15 "_law_same" = true) (k15 : PySem.W.keepIn K (.ref f15) = true)
  (a16 : PySem.W.nsIn K mainGlobals "_law_rows" = some (some (.ref f16))) (l16 : K.lookup f16 = some ⟨oc16, od16, .func (PySem.W.fnOf "_law_rows" "_law_rows" (bA bU) (aZ bU) (ak bU) .none kV16 dc16 pm16 an16 cd16 ct16), sl16⟩) (c16 : PySem.W.codeIn K cd16 "_law_rows" = true) (k16 : PySem.W.keepIn K (.ref f16) = true)
  (a17 : PySem.W.nsIn K mainGlobals "_law_row_text" = some (some (.ref f17))) (l17 : K.lookup f17 = some ⟨oc17, od17, .func (PySem.W.fnOf "_law_row_text" "_law_row_text" (bA bY) (aZ bY) (ak bY) .none kV17 dc17 pm17 an17 cd17 ct17), sl17⟩) (c17 : PySem.W.codeIn K cd17 "_law_row_text" = true) (k17 : PySem.W.keepIn K (.ref f17) = true)
  (a18 : PySem.W.nsIn K mainGlobals "law" = some (some (.ref f18))) (l18 : K.lookup f18 = some ⟨oc18, od18, .func (PySem.W.fnOf "law" "law" (bA dm) (aZ dm) (ak dm) .none kV18 dc18 pm18 an18 cd18 ct18), sl18⟩) (c18 : PySem.W.codeIn K cd18 "law" = true) (k18 : PySem.W.keepIn K (.ref f18) = true)
  (z1 : PySem.W.nsIn K mainGlobals "abs" = some none)
  (z2 : PySem.W.nsIn K mainGlobals "all" = some none)
  (z3 : PySem.W.nsIn K mainGlobals "bool" = some none)
  (z4 : PySem.W.nsIn K mainGlobals "enumerate" = some none)
  (z5 : PySem.W.nsIn K mainGlobals "int" = some none)
  (z6 : PySem.W.nsIn K mainGlobals "isinstance" = some none)
  (z7 : PySem.W.nsIn K mainGlobals "len" = some none)
  (z8 : PySem.W.nsIn K mainGlobals "list" = some none)
  (z9 : PySem.W.nsIn K mainGlobals "min" = some none)
  (z10 : PySem.W.nsIn K mainGlobals "range" = some none)
  (z11 : PySem.W.nsIn K mainGlobals "repr" = some none)
  (z12 : PySem.W.nsIn K mainGlobals "str" = some none)
  (z13 : PySem.W.nsIn K mainGlobals "tuple" = some none)
  (z14 : PySem.W.nsIn K mainGlobals "zip" = some none)
  (w1 : PySem.W.nsIn K mainGlobals "FIGURES" = some (some (.str "0123456789" ckFigures)))
  (w2 : PySem.W.nsIn K mainGlobals "MOST_FIGURES" = some (some (.int 20 ckMostFigures)))
  (w3 : PySem.W.nsIn K mainGlobals "MOST_WIDE" = some (some (.int 64 ckMostWide))) :
  ∃ fd : FuncData, (∀ (s : Shared) (v : Value), BindsTo s fd ⟨[v], []⟩ [("_law_script", v)]) ∧ ∀ base : Heap, K.In base → base.Ns mainGlobals mg → dj l.prog w K mg base CX0 63 fa fd ["_law_script"] (wH K) := by
 have e := hfa.symm.trans (PySem.W.mg_of X G a18)
 cases e
 have DIsNumber : gC K mg "is_number" bZ ["thing"] _ _ := ⟨aR (st := bZ) l1 c1 k1, (aR (st := bZ) l1 c1 k1).binds (ps := ["thing"]) fun _ _ _ _ _ _ us hl => by obtain ⟨z0, rfl⟩ := ln1 hl; rfl, PySem.W.mg_of X G a1⟩
 have DIsGoal : gC K mg "is_goal" cZ ["thing", "own", "many"] _ _ := ⟨aR (st := cZ) l2 c2 k2, (aR (st := cZ) l2 c2 k2).binds (ps := ["thing", "own", "many"]) fun _ _ _ _ _ _ us hl => by obtain ⟨z0, z1, z2, rfl⟩ := ln3 hl; rfl, PySem.W.mg_of X G a2⟩
 have DIsTable : gC K mg "is_table" bL ["thing", "own", "many"] _ _ := ⟨aR (st := bL) l3 c3 k3, (aR (st := bL) l3 c3 k3).binds (ps := ["thing", "own", "many"]) fun _ _ _ _ _ _ us hl => by obtain ⟨z0, z1, z2, rfl⟩ := ln3 hl; rfl, PySem.W.mg_of X G a3⟩
 have DIsMask : gC K mg "is_mask" dH ["wide", "bits"] _ _ := ⟨aR (st := dH) l4 c4 k4, (aR (st := dH) l4 c4 k4).binds (ps := ["wide", "bits"]) fun _ _ _ _ _ _ us hl => by obtain ⟨z0, z1, rfl⟩ := ln2 hl; rfl, PySem.W.mg_of X G a4⟩
 have DIsRow : gC K mg "is_row" cD ["thing", "own", "many"] _ _ := ⟨aR (st := cD) l5 c5 k5, (aR (st := cD) l5 c5 k5).binds (ps := ["thing", "own", "many"]) fun _ _ _ _ _ _ us hl => by obtain ⟨z0, z1, z2, rfl⟩ := ln3 hl; rfl, PySem.W.mg_of X G a5⟩
 have DNumberFrom : gC K mg "number_from" aU ["word"] _ _ := ⟨aR (st := aU) l6 c6 k6, (aR (st := aU) l6 c6 k6).binds (ps := ["word"]) fun _ _ _ _ _ _ us hl => by obtain ⟨z0, rfl⟩ := ln1 hl; rfl, PySem.W.mg_of X G a6⟩
 have DNumbersFrom : gC K mg "numbers_from" bf ["words"] _ _ := ⟨aR (st := bf) l7 c7 k7, (aR (st := bf) l7 c7 k7).binds (ps := ["words"]) fun _ _ _ _ _ _ us hl => by obtain ⟨z0, rfl⟩ := ln1 hl; rfl, PySem.W.mg_of X G a7⟩
 have DRowText : gC K mg "row_text" cH ["row"] _ _ := ⟨aR (st := cH) l8 c8 k8, (aR (st := cH) l8 c8 k8).binds (ps := ["row"]) fun _ _ _ _ _ _ us hl => by obtain ⟨z0, rfl⟩ := ln1 hl; rfl, PySem.W.mg_of X G a8⟩
 have DRowsText : gC K mg "rows_text" cJ ["rows"] _ _ := ⟨aR (st := cJ) l9 c9 k9, (aR (st := cJ) l9 c9 k9).binds (ps := ["rows"]) fun _ _ _ _ _ _ us hl => by obtain ⟨z0, rfl⟩ := ln1 hl; rfl, PySem.W.mg_of X G a9⟩
 have DRowFrom : gC K mg "row_from" cB ["text"] _ _ := ⟨aR (st := cB) l10 c10 k10, (aR (st := cB) l10 c10 k10).binds (ps := ["text"]) fun _ _ _ _ _ _ us hl => by obtain ⟨z0, rfl⟩ := ln1 hl; rfl, PySem.W.mg_of X G a10⟩
 have DRowsFrom : gC K mg "rows_from" aW ["text"] _ _ := ⟨aR (st := aW) l11 c11 k11, (aR (st := aW) l11 c11 k11).binds (ps := ["text"]) fun _ _ _ _ _ _ us hl => by obtain ⟨z0, rfl⟩ := ln1 hl; rfl, PySem.W.mg_of X G a11⟩
 have DZCellAt : gC K mg "_law_cell_at" cO ["_law_script", "_law_k"] _ _ := ⟨aR (st := cO) l12 c12 k12, (aR (st := cO) l12 c12 k12).binds (ps := ["_law_script", "_law_k"]) fun _ _ _ _ _ _ us hl => by obtain ⟨z0, z1, rfl⟩ := ln2 hl; rfl, PySem.W.mg_of X G a12⟩
 have DZTape : gC K mg "_law_tape" dF ["_law_script", "_law_k"] _ _ := ⟨aR (st := dF) l13 c13 k13, (aR (st := dF) l13 c13 k13).binds (ps := ["_law_script", "_law_k"]) fun _ _ _ _ _ _ us hl => by obtain ⟨z0, z1, rfl⟩ := ln2 hl; rfl, PySem.W.mg_of X G a13⟩
 have DZTake : gC K mg "_law_take" dG ["_law_tape_here", "_law_many"] _ _ := ⟨aR (st := dG) l14 c14 k14, (aR (st := dG) l14 c14 k14).binds (ps := ["_law_tape_here", "_law_many"]) fun _ _ _ _ _ _ us hl => by obtain ⟨z0, z1, rfl⟩ := ln2 hl; rfl, PySem.W.mg_of X G a14⟩
 have DZSame : gC K mg "_law_same" cA ["_law_found", "_law_due"] _ _ := ⟨aR (st := cA) l15 c15 k15, (aR (st := cA) l15 c15 k15).binds (ps := ["_law_found", "_law_due"]) fun _ _ _ _ _ _ us hl => by obtain ⟨z0, z1, rfl⟩ := ln2 hl; rfl, PySem.W.mg_of X G a15⟩
 have DZRows : gC K mg "_law_rows" bU ["_law_tape_here", "_law_many"] _ _ := ⟨aR (st := bU) l16 c16 k16, (aR (st := bU) l16 c16 k16).binds (ps := ["_law_tape_here", "_law_many"]) fun _ _ _ _ _ _ us hl => by obtain ⟨z0, z1, rfl⟩ := ln2 hl; rfl, PySem.W.mg_of X G a16⟩
 have DZRowText : gC K mg "_law_row_text" bY ["_law_row"] _ _ := ⟨aR (st := bY) l17 c17 k17, (aR (st := bY) l17 c17 k17).binds (ps := ["_law_row"]) fun _ _ _ _ _ _ us hl => by obtain ⟨z0, rfl⟩ := ln1 hl; rfl, PySem.W.mg_of X G a17⟩
 have DLaw : gC K mg "law" dm ["_law_script"] _ _ := ⟨aR (st := dm) l18 c18 k18, (aR (st := dm) l18 c18 k18).binds (ps := ["_law_script"]) fun _ _ _ _ _ _ us hl => by obtain ⟨z0, rfl⟩ := ln1 hl; rfl, PySem.W.mg_of X G a18⟩
 have cgFigures : mg "FIGURES" = some (.str "0123456789" ckFigures) := PySem.W.mg_of X G w1
 have cgMostFigures : mg "MOST_FIGURES" = some (.int 20 ckMostFigures) := PySem.W.mg_of X G w2
 have cgMostWide : mg "MOST_WIDE" = some (.int 64 ckMostWide) := PySem.W.mg_of X G w3
 have hB : ∀ x : Str, x ∈ BLs → mg x = none := by
  intro x hx
  replace hx : x ∈ (["abs", "all", "bool", "enumerate", "int", "isinstance", "len", "list", "min", "range", "repr", "str", "tuple", "zip"] : List Str) := hx
  simp only [List.mem_cons, List.not_mem_nil, or_false] at hx
  rcases hx with rfl | rfl | rfl | rfl | rfl | rfl | rfl | rfl | rfl | rfl | rfl | rfl | rfl | rfl
  ·exact PySem.W.mg_none_of X G z1
  ·exact PySem.W.mg_none_of X G z2
  ·exact PySem.W.mg_none_of X G z3
  ·exact PySem.W.mg_none_of X G z4
  ·exact PySem.W.mg_none_of X G z5
  ·exact PySem.W.mg_none_of X G z6
  ·exact PySem.W.mg_none_of X G z7
  ·exact PySem.W.mg_none_of X G z8
  ·exact PySem.W.mg_none_of X G z9
  ·exact PySem.W.mg_none_of X G z10
  ·exact PySem.W.mg_none_of X G z11
  ·exact PySem.W.mg_none_of X G z12
  ·exact PySem.W.mg_none_of X G z13
  ·exact PySem.W.mg_none_of X G z14
 refine ⟨PySem.W.fnOf "law" "law" (bA dm) (aZ dm) (ak dm) .none kV18 dc18 pm18 an18 cd18 ct18, fun s v => .of_eq rfl, fun base kb nb => ?_⟩
 have CCell := DZCellAt.cal (Hj (P := l.prog) (w := w) (base := base) hB DZCellAt.fn)
 have CTape := DZTape.cal (G8 hB CCell DZTape.fn)
 have CTake0 := DZTake.cal (yh (P := l.prog) (w := w) (mg := mg) (base := base))
 have CTake1 := DZTake.cal (wW (n := 0) hB (by decide) CTake0 DZTake.fn)
 have CTake2 := DZTake.cal (wW (n := 1) hB (by decide) CTake1 DZTake.fn)
 have CSames : ∀ n, Cal l.prog w K mg base "_law_same" n ["_law_found", "_law_due"] (iM n) := fun n => by
  induction n with
  | zero => exact DZSame.cal (same_none (P := l.prog) (w := w) (mg := mg) (base := base))
  | succ n ih => exact DZSame.cal (G9 hB ih DZSame.fn)
 have CNum := DIsNumber.cal (CP (P := l.prog) (w := w) (base := base) hB DIsNumber.fn)
 have CGoal := DIsGoal.cal (yR hB CNum DIsGoal.fn)
 have CMask := DIsMask.cal (yQ (P := l.prog) (w := w) (base := base) hB cgMostWide DIsMask.fn)
 have CTable := DIsTable.cal (vD hB CNum CGoal DIsTable.fn)
 have CRow := DIsRow.cal (CN hB CNum CGoal CMask CTable DIsRow.fn)
 have CNF := DNumberFrom.cal (Hg (P := l.prog) (w := w) (base := base) hB cgFigures cgMostFigures DNumberFrom.fn)
 have CNsF := DNumbersFrom.cal (CK hB CNF DNumbersFrom.fn)
 have CRT := DRowText.cal (vB (P := l.prog) (w := w) (base := base) hB DRowText.fn)
 have CRsT := DRowsText.cal (uf hB CRT DRowsText.fn)
 have CLRT := DZRowText.cal (uh (P := l.prog) (w := w) (base := base) hB DZRowText.fn)
 have CRF := DRowFrom.cal (vC hB CNsF DRowFrom.fn)
 have CRsF := DRowsFrom.cal (ug hB CRF CRow DRowsFrom.fn)
 have CLRows := DZRows.cal (Hf hB CTake2 DZRows.fn)
 exact K6 hB CTake2 CTape CLRows CLRT CRsT CRsF (CSames 5) DLaw.fn
theorem walk {l : PySem.W.OpenLaw} {q : Program} {loose : List Str} {XP : (Str → Option Value) → Heap → Prop} {YP : World → Heap → Prop} {d : DefRec} {K : Params → PySem.W.Frag} (hn : l.most = some 63) (hdf : d.params.defaults = [])
  (hY : ∀ (w : World) (h : Heap), YP w h → (K w.params).In h)
  (F : ∀ (w : World) (mg : Str → Option Value) (fa : Addr) (h : Heap), (K w.params).In h → h.Ns mainGlobals mg → mg d.name = some (.ref fa) →
   ∃ fd : FuncData, (∀ (s : Shared) (u : Value), BindsTo s fd ⟨[u], []⟩ [("_law_script", u)]) ∧ ∀ base : Heap, (K w.params).In base → base.Ns mainGlobals mg → dj l.prog w (K w.params) mg base CX0 63 fa fd ["_law_script"] (wH (K w.params))) :
  PySem.W.WalkO q loose XP YP l.row.toRowW d [] (fun f vs => PySem.call f vs) :=
 L2.Ej (n := 63) (k := 63) (x := "_law_script") (CX := fun _ => CX0) (sp := fun w => wH (K w.params)) hn (by decide) hdf ⟨rfl, by decide, by decide, rfl⟩ hY F (fun _ _ a ns hl _ hS => ⟨a, ns, rfl, hS, hl, fun _ => rfl⟩) fun _ _ _ _ _ z => z
end K48
open PySem PySem.W PyProof.Rows
set_option maxRecDepth 100000 in
set_option maxHeartbeats 0 in
theorem PySem.Challenge.cw_caseways_k48_rows_written_holds : PySem.Challenge.rw_caseways_k48_rows_written.Holds := by
 w_on; o_law; k_head; (case hw => w_witness2)
 k_fill
 refine K48.walk (l := PySem.Challenge.rw_caseways_k48_rows_written) rfl rfl (fun w h Y => PySem.W.kIn_of Y) ?F
 case F =>
  intro w mg fa h KX G hmg
  refine' K48.all_mk KX G hmg ?a1 ?l1 ?c1 ?k1 ?a2 ?l2 ?c2 ?k2 ?a3 ?l3 ?c3 ?k3 ?a4 ?l4 ?c4 ?k4 ?a5 ?l5 ?c5 ?k5 ?a6 ?l6 ?c6 ?k6 ?a7 ?l7 ?c7 ?k7 ?a8 ?l8 ?c8 ?k8 ?a9 ?l9 ?c9 ?k9 ?a10 ?l10 ?c10 ?k10 ?a11 ?l11 ?c11 ?k11 ?a12 ?l12 ?c12 ?k12 ?a13 ?l13 ?c13 ?k13 ?a14 ?l14 ?c14 ?k14 ?a15 ?l15 ?c15 ?k15 ?a16 ?l16 ?c16 ?k16 ?a17 ?l17 ?c17 ?k17 ?a18 ?l18 ?c18 ?k18 ?z1 ?z2 ?z3 ?z4 ?z5 ?z6 ?z7 ?z8 ?z9 ?z10 ?z11 ?z12 ?z13 ?z14 ?w1 ?w2 ?w3
  (case a1 => k_is)
  (case l1 => k_is)
  (case c1 => k_is)
  (case k1 => k_is)
  (case a2 => k_is)
  (case l2 => k_is)
  (case c2 => k_is)
  (case k2 => k_is)
  (case a3 => k_is)
  (case l3 => k_is)
  (case c3 => k_is)
  (case k3 => k_is)
  (case a4 => k_is)
  (case l4 => k_is)
  (case c4 => k_is)
  (case k4 => k_is)
  (case a5 => k_is)
  (case l5 => k_is)
  (case c5 => k_is)
  (case k5 => k_is)
  (case a6 => k_is)
  (case l6 => k_is)
  (case c6 => k_is)
  (case k6 => k_is)
  (case a7 => k_is)
  (case l7 => k_is)
  (case c7 => k_is)
  (case k7 => k_is)
  (case a8 => k_is)
  (case l8 => k_is)
  (case c8 => k_is)
  (case k8 => k_is)
  (case a9 => k_is)
  (case l9 => k_is)
  (case c9 => k_is)
  (case k9 => k_is)
  (case a10 => k_is)
  (case l10 => k_is)
  (case c10 => k_is)
  (case k10 => k_is)
  (case a11 => k_is)
  (case l11 => k_is)
  (case c11 => k_is)
  (case k11 => k_is)
  (case a12 => k_is)
  (case l12 => k_is)
  (case c12 => k_is)
  (case k12 => k_is)
  (case a13 => k_is)
  (case l13 => k_is)
  (case c13 => k_is)
  (case k13 => k_is)
  (case a14 => k_is)
  (case l14 => k_is)
  (case c14 => k_is)
  (case k14 => k_is)
  (case a15 => k_is)
  (case l15 => k_is)
  (case c15 => k_is)
  (case k15 => k_is)
  (case a16 => k_is)
  (case l16 => k_is)
  (case c16 => k_is)
  (case k16 => k_is)
  (case a17 => k_is)
  (case l17 => k_is)
  (case c17 => k_is)
  (case k17 => k_is)
  (case a18 => k_is)
  (case l18 => k_is)
  (case c18 => k_is)
  (case k18 => k_is)
  (case z1 => k_is)
  (case z2 => k_is)
  (case z3 => k_is)
  (case z4 => k_is)
  (case z5 => k_is)
  (case z6 => k_is)
  (case z7 => k_is)
  (case z8 => k_is)
  (case z9 => k_is)
  (case z10 => k_is)
  (case z11 => k_is)
  (case z12 => k_is)
  (case z13 => k_is)
  (case z14 => k_is)
  (case w1 => k_is)
  (case w2 => k_is)
  (case w3 => k_is)
#print axioms PySem.Challenge.cw_caseways_k48_rows_written_holds
