import PyProof.Rows.All
import Wide.All
import OpenK.AllK
import Wide.FinOn
import Lean
import PyProof.EqAt
import PyProof.EqKinds
import PyProof.TupleCall
import PyProof.NeData
import PySem.Challenge.RW_caseways_k10_choices_by_patterns
local macro_rules | `(tactic| omega) => `(tactic| first | with_reducible assumption | lia | omega +splitDisjunctions)
set_option Elab.async false
set_option linter.all false
set_option maxRecDepth 100000
namespace L2
open PySem PySem.Spec PyProof.Rows
abbrev Key := Sum Int Str
def K6 : Key → Value → Bool
 | .inl k, v => Value.isInt k v
 | .inr x, v => Value.isStrOf x v
def QF (w : World) : Key → Int
 | .inl k => hashInt k
 | .inr x => hashStr w x
theorem cD : ∀ {k : Key} {v : Value}, K6 k v = true → (∃ i t, k = Sum.inl i ∧ v = Value.int i t) ∨ (∃ x t, k = Sum.inr x ∧ v = Value.str x t)
 | .inl i, v, h => by
  obtain ⟨t, e⟩ := Value.isInt_shape (k := i) (v := v) h
  exact .inl ⟨i, t, rfl, e⟩
 | .inr x, v, h => by
  obtain ⟨t, e⟩ := Value.isStrOf_shape (x := x) (v := v) h
  exact .inr ⟨x, t, rfl, e⟩
theorem N6 (a b : Int) : decide ((Sum.inl a : Key) = Sum.inl b) = (a == b) := by
 by_cases e : a = b
 ·subst e; simp
 ·have h : ¬ (Sum.inl a : Key) = Sum.inl b := fun q => e (Sum.inl.inj q)
  rw [decide_eq_false h]
  exact (beq_eq_false_iff_ne.mpr e).symm
theorem NT (a b : Str) : decide ((Sum.inr a : Key) = Sum.inr b) = decide (a = b) := by
 by_cases e : a = b
 ·subst e; simp
 ·have h : ¬ (Sum.inr a : Key) = Sum.inr b := fun q => e (Sum.inr.inj q)
  rw [decide_eq_false h, decide_eq_false e]
theorem N5 (a : Int) (b : Str) : decide ((Sum.inl a : Key) = Sum.inr b) = false := decide_eq_false (fun q => nomatch q)
theorem NZ (a : Str) (b : Int) : decide ((Sum.inr a : Key) = Sum.inl b) = false := decide_eq_false (fun q => nomatch q)
def xZ (prog : Program) (w : World) : PySem.KeyKind prog w Key where
 is := K6
 hash := QF w
 inj := fun v a b ha hb => by
  rcases cD ha with ⟨i, t, rfl, rfl⟩ | ⟨x, t, rfl, rfl⟩
  ·rcases cD hb with ⟨j, u, rfl, e⟩ | ⟨y, u, rfl, e⟩
   ·injection e with e1 _; rw [e1]
   ·exact nomatch e
  ·rcases cD hb with ⟨j, u, rfl, e⟩ | ⟨y, u, rfl, e⟩
   ·exact nomatch e
   ·injection e with e1 _; rw [e1]
 byValue := fun k v h => by
  rcases cD h with ⟨i, t, rfl, rfl⟩ | ⟨x, t, rfl, rfl⟩ <;> rfl
 pyHash := fun hv h => by
  rcases cD hv with ⟨i, t, rfl, rfl⟩ | ⟨x, t, rfl, rfl⟩
  ·exact wpAny_pyHash_int h
  ·exact wpAny_pyHash_str h
 eqBool := fun hu hv h => by
  rcases cD hu with ⟨i, t, rfl, rfl⟩ | ⟨x, t, rfl, rfl⟩
  ·rcases cD hv with ⟨j, u, rfl, rfl⟩ | ⟨y, u, rfl, rfl⟩
   ·rw [N6] at h; exact wpAny_eqBool_int h
   ·rw [N5] at h; exact SeqAt.EqAt.int_str i t y u _ _ _ _ h
  ·rcases cD hv with ⟨j, u, rfl, rfl⟩ | ⟨y, u, rfl, rfl⟩
   ·rw [NZ] at h; exact SeqAt.EqAt.str_int x t j u _ _ _ _ h
   ·rw [NT] at h; exact wpAny_eqBool_str h
 «strs» := fun k x t v h => by
  rcases cD h with ⟨i, u, rfl, e⟩ | ⟨y, u, rfl, e⟩
  ·exact nomatch e
  ·injection e with e1 _
   subst e1
   cases v <;> rfl
inductive V where
 | non | bl (b : Bool) | int (i : Int) | str (x : Str) | byt (b : Array UInt8) | flt (b : UInt64) | ref (a : Addr) | ty (n : String)
 deriving DecidableEq
def RelV : V → Value → Prop
 | .non, u => u = Value.none
 | .bl b, u => u = Value.bool b
 | .int i, u => ∃ t, u = Value.int i t
 | .str x, u => ∃ t, u = Value.str x t
 | .byt b, u => ∃ t, u = Value.bytes b t
 | .flt b, u => ∃ t, u = Value.float b t
 | .ref a, u => u = Value.ref a
 | .ty n, u => u = Value.type n
abbrev Vals : List V → List Value → Prop := Paired RelV
theorem Vals.length {xs : List V} {us : List Value} (r : Vals xs us) : xs.length = us.length := Paired.length r
theorem Vals.get : ∀ {xs : List V} {us : List Value} {i : Nat} {x : V}, Vals xs us → xs[i]? = some x → ∃ u, us[i]? = some u ∧ RelV x u
 | _, _, _, _, .nil, e => by simp at e
 | _, _, 0, _, .cons r _, e => by simp at e; subst e; exact ⟨_, rfl, r⟩
 | _, _, i + 1, x, .cons _ t, e => by
  obtain ⟨u, h1, h2⟩ := Vals.get (i := i) (x := x) t (by simpa using e)
  exact ⟨u, by simpa using h1, h2⟩
theorem Vals.set {x : V} {u : Value} (r : RelV x u) : ∀ {xs : List V} {us : List Value} (i : Nat), Vals xs us → Vals (xs.set i x) (us.set i u)
 | _, _, _, .nil => .nil
 | _, _, 0, .cons _ t => .cons r t
 | _, _, i + 1, .cons q t => .cons q (Vals.set r i t)
theorem Vals.append : ∀ {xs ys : List V} {us ws : List Value}, Vals xs us → Vals ys ws → Vals (xs ++ ys) (us ++ ws)
 | _, _, _, _, .nil, s => s
 | _, _, _, _, .cons r t, s => .cons r (Vals.append t s)
theorem Vals.none_of : ∀ {xs : List V} {us : List Value} {i : Nat}, Vals xs us → xs[i]? = none → us[i]? = none := fun {xs us i} r e => by
 have h1 := r.length
 have h2 : xs.length ≤ i := List.getElem?_eq_none_iff.mp e
 exact List.getElem?_eq_none_iff.mpr (by omega)
def OJ : Option V → Option Value → Prop
 | some v, some u => RelV v u
 | none, none => True
 | _, _ => False
def KV {κ : Type} : List (κ × V) → List (κ × Value) → Prop := Paired fun (p : κ × V) (q : κ × Value) => p.1 = q.1 ∧ RelV p.2 q.2
def kV : Key → V
 | .inl i => .int i
 | .inr x => .str x
inductive HO where
 /-- a list -/
 | lst (xs : List V)
 /-- a tuple (never changes) -/
 | tup (xs : List V)
 /-- a dict whose keys are ints and texts; one whose keys are tuples of ints and texts (the empty one is both) -/
 | dK (kvs : List (Key × V)) | dT (kvs : List (List Key × V))
 /-- a set of ints: its members, its size -/
 | set (S : Int → Bool) (n : Nat)
 /-- an instance of the class at C, its dict at dx, its attributes -/
 | ins (C dx : Addr) (fs : List (Str × V))
 /-- the dict of the instance at x -/
 | own (x : Addr)
 /-- the dict of an exception -/
 | xd (fs : List (Str × V))
 /-- a bound method, f of x -/
 | met (f x : Addr)
 /-- a range object lo, lo + 1, .. below hi -/
 | rng (lo hi : Int)
 /-- a thing that is known to the object (the script; a dict while a loop walks it): read, never written while it is so -/
 | frz (o : Obj) (u : HO)
 /-- a code object's table -/
 | tbl (ps : Array Value)
 /-- any other thing, by what is true of its one object (a def of one's own: SetO a S n := HO.ext fun h => ..) -/
 | ext (φ : Heap → Prop)
abbrev Hp := Addr → Option HO
def upd (H : Hp) (a : Addr) (o : HO) : Hp := fun b => if b = a then some o else H b
theorem aD {H : Hp} {a : Addr} {o : HO} : upd H a o a = some o := by unfold upd; rw [if_pos rfl]
theorem aJ {H : Hp} {a b : Addr} {o : HO} (h : b ≠ a) : upd H a o b = H b := by unfold upd; rw [if_neg h]
theorem aB {H : Hp} {a b : Addr} {o : HO} (h : H a = some o) (h' : H b = none) : a ≠ b := by
 intro e; subst e; rw [h] at h'; cases h'
section
variable (P : Program) (w : World)
def cu (H : Hp) (h : Heap) (a : Addr) : HO → Prop
 | .lst xs => xs.length ≤ sizeLine ∧ ∃ (its : List Value) (n : Nat), Vals xs its ∧ h.get? a = some { cls := .type "list", data := .seq its.toArray n }
 | .tup xs => xs.length ≤ sizeLine ∧ ∃ its : List Value, Vals xs its ∧ IsTup h a its.toArray
 | .dK kvs => kvs.length ≤ sizeLine ∧ (a == sysModules) = false ∧ ∃ vs, KV kvs vs ∧ h.DictOf (xZ P w) a vs
 | .dT kvs => kvs.length ≤ sizeLine ∧ (a == sysModules) = false ∧ ∃ xs : List (List Key × Addr × Value),
   Paired (fun (p : List Key × V) (q : List Key × Addr × Value) => p.1 = q.1 ∧ H q.2.1 = some (.tup (p.1.map kV)) ∧ RelV p.2 q.2.2) kvs xs ∧
   ∃ o es ep, h.get? a = some o ∧ o.ExactDict ∧ o.data = .dict es ep ∧ es.toList = xs.map (entryOfKey (tupleKind (xZ P w))) ∧ (xs.map (·.1)).Nodup
 | .set S n => h.SetOf (intKind P w) a S n
 | .ins C dx fs => H dx = some (.own a) ∧ fs.length ≤ 1000 ∧ dx ≠ a ∧ h.get? a = some (PySem.W.instObj C dx) ∧
   ∃ mA, h.Ns1 dx mA ∧ (∀ f, OJ (fs.lookup f) (mA f)) ∧ PySem.Within mA (fs.map (·.1))
 | .own _ => ∃ o, h.get? a = some o
 | .xd fs => ∃ mA, h.Ns1 a mA ∧ ∀ f, OJ (fs.lookup f) (mA f)
 | .rng lo hi => ∃ t u v, h.get? a = some { cls := .type "range", data := .fields #[.int lo t, .int hi u, .int 1 v] }
 | .frz o u => h.get? a = some o ∧ cu H h a u
 | .tbl ps => h.get? a = some { cls := .none, data := .fields ps }
 | .met f x => h.get? a = some (PySem.W.methodObj (.ref f) (.ref x))
 | .ext φ => φ h ∧ (∃ o, h.get? a = some o) ∧ ∀ h1 h2 : Heap, φ h1 → (∀ o, h1.get? a = some o → h2.get? a = some o) → φ h2
def HOk (H : Hp) (h : Heap) : Prop := ∀ a o, H a = some o → cu P w H h a o
end
section
variable {P : Program} {w : World} {H H' : Hp} {h h' : Heap} {a : Addr} {o : HO}
theorem cu.lt (x : cu P w H h a o) : a < h.objs.size := by
 cases o with
 | lst xs => obtain ⟨_, _, _, _, e⟩ := x; exact Heap.lt_size e
 | tup xs => obtain ⟨_, _, _, p⟩ := x; exact p.lt
 | dK kvs => obtain ⟨_, _, _, _, o, _, _, e, _⟩ := x; exact Heap.lt_size e
 | dT kvs => obtain ⟨_, _, _, _, o, _, _, e, _⟩ := x; exact Heap.lt_size e
 | set S n => obtain ⟨o, _, _, _, e, _⟩ := x; exact Heap.lt_size e
 | ins C dx fs => obtain ⟨_, _, _, e, _⟩ := x; exact Heap.lt_size e
 | own y => obtain ⟨_, e⟩ := x; exact Heap.lt_size e
 | xd fs => obtain ⟨_, ⟨_, _, _, e, _⟩, _⟩ := x; exact Heap.lt_size e
 | rng lo hi => obtain ⟨_, _, _, e⟩ := x; exact Heap.lt_size e
 | frz ob u => obtain ⟨e, _⟩ := x; exact Heap.lt_size e
 | tbl ps => exact Heap.lt_size (show h.get? a = some _ from x)
 | met f y => exact Heap.lt_size (show h.get? a = some _ from x)
 | ext φ => obtain ⟨_, ⟨_, e⟩, _⟩ := x; exact Heap.lt_size e
theorem Paired.Qc {α β : Type} {F G : α → β → Prop} : ∀ {l₁ : List α} {l₂ : List β}, Paired F l₁ l₂ → (∀ a b, F a b → G a b) → Paired G l₁ l₂
 | _, _, .nil, _ => .nil
 | _, _, .cons r t, f => .cons (f _ _ r) (Paired.Qc t f)
theorem cu.stay (x : cu P w H h a o) (k : ∀ b u, (b = a ∨ H b = some (.own a)) → h.get? b = some u → h'.get? b = some u)
  (ho : ∀ b, H b = some (.own a) → H' b = some (.own a)) (ht : ∀ b xs, H b = some (.tup xs) → H' b = some (.tup xs)) : cu P w H' h' a o := by
 induction o with
 | lst xs => obtain ⟨z, its, n, r, e⟩ := x; exact ⟨z, its, n, r, k _ _ (.inl rfl) e⟩
 | tup xs => obtain ⟨z, its, r, ob, e, c⟩ := x; exact ⟨z, its, r, ob, k _ _ (.inl rfl) e, c⟩
 | dK kvs => obtain ⟨z, y, vs, r, ob, es, ep, e, c⟩ := x; exact ⟨z, y, vs, r, ob, es, ep, k _ _ (.inl rfl) e, c⟩
 | dT kvs =>
  obtain ⟨z, y, xs, r, ob, es, ep, e, c⟩ := x
  exact ⟨z, y, xs, Paired.Qc r fun p q z => ⟨z.1, ht _ _ z.2.1, z.2.2⟩, ob, es, ep, k _ _ (.inl rfl) e, c⟩
 | set S n => obtain ⟨ob, es, ep, t, e, c⟩ := x; exact ⟨ob, es, ep, t, k _ _ (.inl rfl) e, c⟩
 | ins C dx fs =>
  obtain ⟨d, z, ne, e, mA, ⟨od, es, ep, e2, c⟩, r⟩ := x
  exact ⟨ho _ d, z, ne, k _ _ (.inl rfl) e, mA, ⟨od, es, ep, k _ _ (.inr d) e2, c⟩, r⟩
 | own y => obtain ⟨ob, e⟩ := x; exact ⟨ob, k _ _ (.inl rfl) e⟩
 | xd fs => obtain ⟨mA, ⟨od, es, ep, e, c⟩, r⟩ := x; exact ⟨mA, ⟨od, es, ep, k _ _ (.inl rfl) e, c⟩, r⟩
 | rng lo hi => obtain ⟨t, u, v, e⟩ := x; exact ⟨t, u, v, k _ _ (.inl rfl) e⟩
 | frz ob u ih => obtain ⟨e, q⟩ := x; exact ⟨k _ _ (.inl rfl) e, ih q⟩
 | tbl ps =>
  have e : h.get? a = some { cls := .none, data := .fields ps } := x
  show h'.get? a = some { cls := .none, data := .fields ps }
  exact k a _ (.inl rfl) e
 | met f y =>
  have e : h.get? a = some (PySem.W.methodObj (.ref f) (.ref y)) := x
  show h'.get? a = some (PySem.W.methodObj (.ref f) (.ref y))
  exact k a _ (.inl rfl) e
 | ext φ => obtain ⟨p, ⟨o, e⟩, st⟩ := x; exact ⟨st _ _ p fun o q => k _ _ (.inl rfl) q, ⟨o, k _ _ (.inl rfl) e⟩, st⟩
theorem HOk.lt (x : HOk P w H h) (e : H a = some o) : a < h.objs.size := (x a o e).lt
theorem HOk.fresh (x : HOk P w H h) (e : h.objs.size ≤ a) : H a = none := by
 cases q : H a with
 | none => rfl
 | some u => exact absurd (Nat.lt_of_lt_of_le (x.lt q) e) (Nat.lt_irrefl _)
theorem HOk.kept (x : HOk P w H h) (k : ∀ b u, h.get? b = some u → h'.get? b = some u) : HOk P w H h' := fun a o e =>
 (x a o e).stay (fun b u _ q => k b u q) (fun _ q => q) fun _ _ q => q
theorem HOk.laid (x : HOk P w H h) (k : ∀ b u, h.get? b = some u → h'.get? b = some u) (hp : h.objs.size ≤ a) (new : cu P w (upd H a o) h' a o) : HOk P w (upd H a o) h' := fun b u e => by
 have hn := x.fresh hp
 by_cases hb : b = a
 ·subst hb; rw [aD] at e; cases e; exact new
 ·rw [aJ hb] at e
  exact (x b u e).stay (fun c v _ q => k c v q) (fun c q => by rw [aJ (aB q hn)]; exact q) fun c xs q => by rw [aJ (aB q hn)]; exact q
end
def Rd (H : Hp) (a : Addr) (u : HO) : Prop := H a = some u ∨ ∃ o, H a = some (.frz o u)
theorem Rd.ok {P : Program} {w : World} {H : Hp} {h : Heap} {a : Addr} {u : HO} (r : Rd H a u) (x : HOk P w H h) : cu P w H h a u := by
 rcases r with r | ⟨o, r⟩
 ·exact x a u r
 ·obtain ⟨_, q⟩ := x a _ r
  exact q
def Mut : Option HO → Prop
 | some (.lst _) => True
 | some (.dK _) => True
 | some (.dT _) => True
 | some (.set _ _) => True
 | some (.ins _ _ _) => True
 | some (.ext _) => True
 | _ => False
section
variable {P : Program} {w : World} {H : Hp} {h h' : Heap} {x e : Addr} {o' : HO}
theorem HOk.write (ok : HOk P w H h) (mu : Mut (H x)) (he : e = x ∨ H e = some (.own x)) (k : ∀ b u, b ≠ e → h.get? b = some u → h'.get? b = some u) (heo : ∃ u, h'.get? e = some u)
  (new : cu P w (upd H x o') h' x o') : HOk P w (upd H x o') h' := fun b u q => by
 have nown : ∀ c y, H c = some (.own y) → c ≠ x := fun c y r z => by subst z; rw [r] at mu; exact mu
 have ntup : ∀ c xs, H c = some (.tup xs) → c ≠ x := fun c xs r z => by subst z; rw [r] at mu; exact mu
 by_cases hb : b = x
 ·subst hb; rw [aD] at q; cases q; exact new
 ·rw [aJ hb] at q
  by_cases hbe : b = e
  ·have q' : H b = some (.own x) := by
    rcases he with z | z
    ·exact absurd (hbe.trans z) hb
    ·rw [hbe]; exact z
   rw [q] at q'; cases q'
   obtain ⟨v, hv⟩ := heo
   exact ⟨v, by rw [hbe]; exact hv⟩
  ·refine (ok b u q).stay (fun c v hc r => k c v ?_ r) (fun c r => by rw [aJ (nown c b r)]; exact r) fun c xs r => by rw [aJ (ntup c xs r)]; exact r
   rcases hc with rfl | hc
   ·exact hbe
   ·rintro rfl
    rcases he with z | z
    ·exact nown c b hc z
    ·rw [hc] at z; cases z; exact hb rfl
end
structure Un (fs ex : List Addr) (H H' : Hp) (h h' : Heap) : Prop where
 keep : ∀ b o, h.get? b = some o → H b = none → b ∉ fs → b ∉ ex → h'.get? b = some o
 slot : ∀ b o, h.get? b = some o → H b = none → b ∈ fs → b ∉ ex → ∃ sl, h'.get? b = some { o with slots := sl }
 free : ∀ b o, h.get? b = some o → H b = none → b ∉ ex → H' b = none
 there : ∀ b o, h.get? b = some o → b ∉ ex → ∃ o', h'.get? b = some o'
 tups : ∀ b xs, H b = some (.tup xs) → H' b = some (.tup xs)
 frzs : ∀ b o u, H b = some (.frz o u) → H' b = some (.frz o u)
 tbls : ∀ b ps, H b = some (.tbl ps) → ∃ more, H' b = some (.tbl (ps ++ more))
section
variable {fs fs' ex ex' : List Addr} {H H1 H2 : Hp} {h h1 h2 h' : Heap} {a x e : Addr} {o : HO}
theorem Un.any (u : Un fs ex H H1 h h1) {b : Addr} {ob : Obj} (q : h.get? b = some ob) (n : H b = none) (hx : b ∉ ex) : ∃ sl, h1.get? b = some { ob with slots := sl } := by
 by_cases hb : b ∈ fs
 ·exact u.slot b ob q n hb hx
 ·exact ⟨ob.slots, u.keep b ob q n hb hx⟩
theorem Un.kept (k : ∀ b u, h.get? b = some u → h'.get? b = some u) : Un fs ex H H h h' :=
 ⟨fun b ob q _ _ _ => k b ob q, fun b ob q _ _ _ => ⟨ob.slots, k b ob q⟩, fun _ _ _ n _ => n, fun b ob q _ => ⟨ob, k b ob q⟩, fun _ _ q => q, fun _ _ _ q => q, fun _ ps q => ⟨#[], by rw [q]; simp⟩⟩
theorem Un.refl : Un fs ex H H h h := Un.kept fun _ _ q => q
theorem Un.laid (k : ∀ b u, h.get? b = some u → h'.get? b = some u) (hp : h.objs.size ≤ a) (hn : H a = none) : Un fs ex H (upd H a o) h h' where
 keep := fun b u q _ _ _ => k b u q
 slot := fun b u q _ _ _ => ⟨u.slots, k b u q⟩
 free := fun b u q n _ => by rw [aJ (Nat.ne_of_lt (Nat.lt_of_lt_of_le (Heap.lt_size q) hp))]; exact n
 there := fun b u q _ => ⟨u, k b u q⟩
 tups := fun b xs q => by rw [aJ (aB q hn)]; exact q
 frzs := fun b u xs q => by rw [aJ (aB q hn)]; exact q
 tbls := fun b ps q => ⟨#[], by rw [aJ (aB q hn), q]; simp⟩
theorem Un.write (mu : Mut (H x)) (he : e = x ∨ H e = some (.own x)) (k : ∀ b u, b ≠ e → h.get? b = some u → h'.get? b = some u) (heo : ∃ u, h'.get? e = some u) : Un fs ex H (upd H x o) h h' := by
 have hx : ∀ b, H b = none → b ≠ x := fun b n z => by subst z; rw [n] at mu; exact mu
 have hb : ∀ b, H b = none → b ≠ e := fun b n z => by
  subst z
  rcases he with r | r
  ·exact hx b n r
  ·rw [n] at r; cases r
 have hm : ∀ b u, H b = some u → ¬ Mut (some u) → b ≠ x := fun b u q nm z => by subst z; rw [q] at mu; exact nm mu
 refine ⟨fun b u q n _ _ => k b u (hb b n) q, fun b u q n _ _ => ⟨u.slots, k b u (hb b n) q⟩, fun b u q n _ => by rw [aJ (hx b n)]; exact n, fun b u q _ => ?_,
  fun b xs q => by rw [aJ (hm b _ q fun z => z)]; exact q, fun b u xs q => by rw [aJ (hm b _ q fun z => z)]; exact q, fun b ps q => ⟨#[], by rw [aJ (hm b _ q fun z => z), q]; simp⟩⟩
 by_cases hbe : b = e
 ·subst hbe; exact heo
 ·exact ⟨u, k b u hbe q⟩
end
def trk (h : Heap) (H : Hp) : List Addr := (List.range h.objs.size).filter fun a => (H a).isSome
def sO (h : Heap) (H : Hp) : Heap := PySem.W.hideAll h (trk h H)
theorem zQ (h : Heap) (H : Hp) : (sO h H).objs.size = h.objs.size := PySem.W.hideAll_size _ _
theorem Fg {h : Heap} {H : Hp} {b : Addr} {o : Obj} (e : h.get? b = some o) (n : H b = none) : (sO h H).get? b = some o :=
 PySem.W.hideAll_get _ e fun hm => by
  have q : (H b).isSome = true := (List.mem_filter.mp hm).2
  rw [n] at q; simp at q
theorem Jt {h : Heap} {H : Hp} {b : Addr} {o : Obj} (e : (sO h H).get? b = some o) : h.get? b = some o ∧ H b = none := by
 have e' : h.get? b = some o := PySem.W.of_hideAll (trk h H) e
 refine ⟨e', ?_⟩
 cases q : H b with
 | none => rfl
 | some x =>
  have hm : b ∈ trk h H := List.mem_filter.mpr ⟨List.mem_range.mpr (Heap.lt_size e'), by simp [q]⟩
  have z : (sO h H).get? b = none := PySem.W.hideAll_none (trk h H) hm
  rw [z] at e; cases e
structure Mod (K : PySem.W.Frag) (mg : Str → Option Value) (base : Heap) : Prop where
 kin : K.In base
 glob : base.Ns mainGlobals mg
 blt : ∃ mb, base.Ns builtinsNs mb ∧ ∀ x : Str, x ≠ "__name__" → mb x = bootBuiltins x
 nolimit : base.NoLimit
structure Cx where
 prog : Program
 w : World
 K : PySem.W.Frag
 mg : Str → Option Value
 base : Heap
 A : Around
 N : List Str
 s₀ : Shared
 H₀ : Hp
 env : Env
 outer : List Env
 stack : List Env
 ex : List Addr
 fn : Str → Bool
 calm : Bool
 pn : List (Addr × Obj)
 xe : Value → Shared → Prop
def frs (l : List Env) : List Addr := l.filterMap (·.frame)
abbrev Cx.fs (X : Cx) : List Addr := frs X.outer
def Vis (sc : Scope) (x : Str) : Prop := sc.names.lookup x = some .local ∨ sc.names.lookup x = some .cell ∨ sc.names.lookup x = some .free
def Loc (sc : Scope) (x : Str) : Prop := sc.names.lookup x = some .local ∨ sc.names.lookup x = some .cell
def Look (env : Env) (h : Heap) (m : Str → Option Value) (x : Str) (u : Value) : Prop :=
 (env.kindOf x = some .local ∧ m x = some u) ∨ ((env.kindOf x = some .cell ∨ env.kindOf x = some .free) ∧ ∃ c, env.cells.lookup x = some c ∧ h.IsCell c (some u))
structure Cx.Ok (X : Cx) : Prop where
 mod : Mod X.K X.mg X.base
 kind : X.env.scope.kind = .function
 glob : X.env.globals = mainGlobals
 blt : X.env.builtins = builtinsNs
 above : X.s₀.heap.objs.size ≤ X.env.locals
 inj : ∀ x y c, X.env.cells.lookup x = some c → X.env.cells.lookup y = some c → x = y
 has : ∀ x, (X.env.kindOf x = some .cell ∨ X.env.kindOf x = some .free) → ∃ c, X.env.cells.lookup x = some c
 cab : ∀ x c, X.fn x = true → X.env.cells.lookup x = some c → X.s₀.heap.objs.size ≤ c
 hd : X.calm = true → X.A.handled = none
 frames : X.A.frames = some X.stack
 stk : X.stack = X.outer ∨ (X.stack = X.env :: X.outer ∧ X.env.frame = some X.env.locals)
 exf : ∀ b ∈ X.ex, b ≠ X.env.locals ∧ ∀ x c, X.env.cells.lookup x = some c → c ≠ b
 bs : ∀ b o, X.base.get? b = some o → X.s₀.heap.get? b = some o ∧ X.H₀ b = none
 bsz : X.base.objs.size ≤ X.s₀.heap.objs.size
 noex : ∀ b o, X.base.get? b = some o → b ∉ X.ex
 exfs : ∀ b ∈ X.ex, b ∉ X.fs
 nu : X.s₀.heap.FunFrames X.base X.outer
 frf : ∀ b ∈ X.fs, X.H₀ b = none
structure Inv (X : Cx) (pins : List (Addr × Obj)) (σ : List (Option V)) (H : Hp) (s : Shared) : Prop where
 ok : X.Ok
 os : s.os = X.s₀.os
 bare : AllBare s.gens
 base : Un X.fs X.ex X.H₀ H X.s₀.heap s.heap
 loc : ∃ m, s.heap.Ns X.env.locals m ∧ ∀ (i : Nat) (x : Str) (v : V), X.N[i]? = some x → σ[i]? = some (some v) → Vis X.env.scope x → ∃ u, RelV v u ∧ Look X.env s.heap m x u
 cell : ∀ x c, X.env.cells.lookup x = some c → ∃ v, s.heap.IsCell c v
 free : H X.env.locals = none
 freeC : ∀ x c, X.env.cells.lookup x = some c → H c = none
 pin : ∀ p ∈ X.pn ++ pins, s.heap.get? p.1 = some p.2 ∧ H p.1 = none ∧ p.1 ≠ X.env.locals ∧ p.1 ∉ X.fs ∧ ∀ v, p.2.data ≠ .cell v
 hok : HOk X.prog X.w H s.heap
 len : σ.length = X.N.length
section
variable {X : Cx} {pins : List (Addr × Obj)} {σ : List (Option V)} {H H' : Hp} {s : Shared} {h' : Heap}
theorem Cx.Ok.Qy (ok : X.Ok) {b : Addr} {o : Obj} (e : X.base.get? b = some o) : b ∉ X.fs := fun hb => by
 have := (ok.nu.mem hb).1
 rw [e] at this; cases this
theorem Inv.bs (I : Inv X pins σ H s) : ∀ b o, X.base.get? b = some o → s.heap.get? b = some o ∧ H b = none := fun b o e =>
 ⟨I.base.keep b o (I.ok.bs b o e).1 (I.ok.bs b o e).2 (I.ok.Qy e) (I.ok.noex b o e), I.base.free b o (I.ok.bs b o e).1 (I.ok.bs b o e).2 (I.ok.noex b o e)⟩
theorem Inv.bk (I : Inv X pins σ H s) : ∀ b o, X.base.get? b = some o → s.heap.get? b = some o := fun b o e => (I.bs b o e).1
theorem Inv.mod (I : Inv X pins σ H s) : Mod X.K X.mg X.base := I.ok.mod
theorem Inv.kIn (I : Inv X pins σ H s) : X.K.In s.heap := I.ok.mod.kin.keeps I.bk
theorem Inv.lt (I : Inv X pins σ H s) : X.env.locals < s.heap.objs.size := let ⟨_, hn, _⟩ := I.loc; hn.lt
theorem Inv.sz (I : Inv X pins σ H s) : X.s₀.heap.objs.size ≤ s.heap.objs.size := Nat.le_trans I.ok.above (Nat.le_of_lt I.lt)
theorem Inv.Ju (I : Inv X pins σ H s) {a : Addr} (h : s.heap.objs.size ≤ a) : a ∉ X.fs := fun hb => by
 obtain ⟨_, o, ho, _⟩ := I.ok.nu.mem hb
 exact absurd (Nat.lt_of_lt_of_le (Heap.lt_size ho) (Nat.le_trans I.sz h)) (Nat.lt_irrefl _)
theorem Inv.cne (I : Inv X pins σ H s) : ∀ x c, X.env.cells.lookup x = some c → c ≠ X.env.locals := fun x c e z => by
 obtain ⟨v, o, ho, hd⟩ := I.cell x c e
 obtain ⟨m, ⟨o', es, ep, ho', hd', _⟩, _⟩ := I.loc
 rw [z, ho'] at ho; cases ho; rw [hd'] at hd; cases hd
theorem Inv.nu (I : Inv X pins σ H s) : s.heap.FunFrames X.base X.outer := by
 have all : ∀ (l : List Env), (∀ b ∈ frs l, b ∈ X.fs) → X.s₀.heap.FunFrames X.base l → s.heap.FunFrames X.base l := by
  intro l
  induction l with
  | nil => intro _ _; trivial
  | cons env r ih =>
   intro hs hl
   obtain ⟨hk, ⟨L, o, hf, hn, ho, hd⟩, hr⟩ := hl
   have hL : L ∈ X.fs := hs L (by unfold frs; rw [List.filterMap_cons, hf]; exact List.mem_cons_self)
   obtain ⟨sl, e⟩ := I.base.slot L o ho (I.ok.frf L hL) hL fun z => I.ok.exfs L z hL
   exact ⟨hk, ⟨L, _, hf, hn, e, hd⟩, ih (fun b hb => hs b (by unfold frs; rw [List.filterMap_cons, hf]; exact List.mem_cons_of_mem _ hb)) hr⟩
 exact all X.outer (fun _ hb => hb) I.ok.nu
theorem Inv.stack (I : Inv X pins σ H s) : s.heap.FunFrames X.base X.stack := by
 rcases I.ok.stk with e | ⟨e, hf⟩
 ·rw [e]; exact I.nu
 ·rw [e]
  obtain ⟨m, hn, _⟩ := I.loc
  refine .cons (by rw [I.ok.kind]; decide) hf hn ?_ I.nu
  exact Heap.get?_none_of_le (Nat.le_trans I.ok.bsz I.ok.above)
theorem Inv.lY (I : Inv X pins σ H s) : ∀ b ∈ frs X.stack, b ∈ X.env.locals :: X.fs := fun b hb => by
 rcases I.ok.stk with e | ⟨e, hf⟩
 ·rw [e] at hb; exact List.mem_cons_of_mem _ hb
 ·rw [e] at hb
  unfold frs at hb
  rw [List.filterMap_cons, hf] at hb
  exact hb
theorem Inv.w6 (I : Inv X pins σ H s) : ∀ b ∈ frs X.stack, H b = none := fun b hb => by
 rcases List.mem_cons.mp (I.lY b hb) with e | hb
 ·rw [e]; exact I.free
 ·obtain ⟨_, o, ho, _⟩ := I.ok.nu.mem hb
  exact I.base.free b o ho (I.ok.frf b hb) fun z => I.ok.exfs b z hb
theorem Inv.step {g' : Array GenState} {t' : Nat} {d' : Drawn} {ch : List Addr} (I : Inv X pins σ H s)
  (hch : ∀ b ∈ ch, (b ∈ X.ex ∨ X.s₀.heap.objs.size ≤ b) ∧ b ≠ X.env.locals ∧ (∀ x c, X.env.cells.lookup x = some c → c ≠ b) ∧ ∀ p ∈ X.pn ++ pins, p.1 ≠ b)
  (keep : ∀ b o, b ≠ X.env.locals → b ∉ X.fs → b ∉ ch → s.heap.get? b = some o → H b = none → h'.get? b = some o)
  (slot : ∀ b o, b ≠ X.env.locals → b ∈ X.fs → b ∉ ch → s.heap.get? b = some o → H b = none → ∃ sl, h'.get? b = some { o with slots := sl }) (free : ∀ b o, b ∉ ch → s.heap.get? b = some o → H b = none → H' b = none)
  (there : ∀ b o, b ∉ ch → s.heap.get? b = some o → ∃ o', h'.get? b = some o')
  (tups : ∀ b xs, H b = some (.tup xs) → H' b = some (.tup xs)) (frzs : ∀ b o u, H b = some (.frz o u) → H' b = some (.frz o u)) (tbls : ∀ b ps, H b = some (.tbl ps) → ∃ more, H' b = some (.tbl (ps ++ more)))
  (ns : ∀ m, s.heap.Ns X.env.locals m → h'.Ns X.env.locals m) (hok : HOk X.prog X.w H' h') (hg : AllBare g') :
  Inv X pins σ H' { s with heap := h', gens := g', drawn := d', toks := t' } := by
 have neL : ∀ b o, X.s₀.heap.get? b = some o → b ≠ X.env.locals := fun b o e => Nat.ne_of_lt (Nat.lt_of_lt_of_le (Heap.lt_size e) I.ok.above)
 have neC : ∀ b o, X.s₀.heap.get? b = some o → b ∉ X.ex → b ∉ ch := fun b o e hx hb => by
  rcases (hch b hb).1 with z | z
  ·exact hx z
  ·exact absurd (Nat.lt_of_lt_of_le (Heap.lt_size e) z) (Nat.lt_irrefl _)
 have cellK : ∀ x c, X.env.cells.lookup x = some c → ∀ v, s.heap.IsCell c v → h'.IsCell c v := fun x c e v ⟨o, ho, hd⟩ => by
  have nch : c ∉ ch := fun z => (hch c z).2.2.1 x c e rfl
  by_cases hc : c ∈ X.fs
  ·obtain ⟨sl, q⟩ := slot c o (I.cne x c e) hc nch ho (I.freeC x c e)
   exact ⟨_, q, hd⟩
  ·exact ⟨o, keep c o (I.cne x c e) hc nch ho (I.freeC x c e), hd⟩
 refine ⟨I.ok, I.os, hg, ⟨fun b o e n hb hx => ?_, fun b o e n hb hx => ?_, fun b o e n hx => ?_, fun b o e hx => ?_, fun b xs e => tups b xs (I.base.tups b xs e), fun b o xs e => frzs b o xs (I.base.frzs b o xs e), fun b ps e => ?_⟩, ?_, fun x c e => ?_, ?_, fun x c e => ?_, fun p hp => ?_, hok, I.len⟩
 ·exact keep b o (neL b o e) hb (neC b o e hx) (I.base.keep b o e n hb hx) (I.base.free b o e n hx)
 ·obtain ⟨sl, e1⟩ := I.base.slot b o e n hb hx
  obtain ⟨sl', e2⟩ := slot b _ (neL b o e) hb (neC b o e hx) e1 (I.base.free b o e n hx)
  exact ⟨sl', e2⟩
 ·obtain ⟨o', e1⟩ := I.base.there b o e hx
  exact free b o' (neC b o e hx) e1 (I.base.free b o e n hx)
 ·obtain ⟨o', e1⟩ := I.base.there b o e hx
  exact there b o' (neC b o e hx) e1
 ·obtain ⟨m1, e1⟩ := I.base.tbls b ps e
  obtain ⟨m2, e2⟩ := tbls b _ e1
  exact ⟨m1 ++ m2, by rw [e2, Array.append_assoc]⟩
 ·obtain ⟨m, hn, hl⟩ := I.loc
  refine ⟨m, ns m hn, fun i x v e1 e2 e3 => ?_⟩
  obtain ⟨u, r, l⟩ := hl i x v e1 e2 e3
  refine ⟨u, r, ?_⟩
  rcases l with l | ⟨k, c, e, z⟩
  ·exact .inl l
  ·exact .inr ⟨k, c, e, cellK x c e _ z⟩
 ·obtain ⟨v, z⟩ := I.cell x c e
  exact ⟨v, cellK x c e v z⟩
 ·obtain ⟨m, ⟨o, _, _, ho, _⟩, _⟩ := I.loc
  exact free _ o (fun z => (hch _ z).2.1 rfl) ho I.free
 ·obtain ⟨v, o, ho, hd⟩ := I.cell x c e
  exact free c o (fun z => (hch c z).2.2.1 x c e rfl) ho (I.freeC x c e)
 ·obtain ⟨e, n, ne, nf, d⟩ := I.pin p hp
  have nch : p.1 ∉ ch := fun z => (hch p.1 z).2.2.2 p hp rfl
  exact ⟨keep p.1 p.2 ne nf nch e n, free p.1 p.2 nch e n, ne, nf, d⟩
theorem Inv.un {t' : Nat} (I : Inv X pins σ H s) (u : Un X.fs [] H H' s.heap h') (hok : HOk X.prog X.w H' h') : Inv X pins σ H' { s with heap := h', toks := t' } := by
 obtain ⟨m, ⟨o, es, ep, ho, r⟩, _⟩ := id I.loc
 obtain ⟨sl, hL⟩ := u.any ho I.free (by simp)
 exact I.step (g' := s.gens) (d' := s.drawn) (ch := []) (fun _ z => nomatch z) (fun b o _ hb _ e n => u.keep b o e n hb (by simp)) (fun b o _ hb _ e n => u.slot b o e n hb (by simp)) (fun b o _ e n => u.free b o e n (by simp)) (fun b o _ e => u.there b o e (by simp)) u.tups u.frzs u.tbls (fun m' hm => by
  obtain ⟨o', es', ep', ho', r'⟩ := hm
  rw [ho] at ho'; cases ho'
  exact ⟨_, es', ep', hL, r'⟩) hok I.bare
theorem Inv.call {g' : Array GenState} {t' : Nat} {d' : Drawn} {ch : List Addr} (I : Inv X pins σ H s) (u : Un (frs X.stack) ch H H' s.heap h') (hok : HOk X.prog X.w H' h') (hg : AllBare g')
  (hch : ∀ b ∈ ch, (b ∈ X.ex ∨ X.s₀.heap.objs.size ≤ b) ∧ b ≠ X.env.locals ∧ (∀ x c, X.env.cells.lookup x = some c → c ≠ b) ∧ ∀ p ∈ X.pn ++ pins, p.1 ≠ b) :
  Inv X pins σ H' { s with heap := h', gens := g', drawn := d', toks := t' } := by
 obtain ⟨m, ⟨o, es, ep, ho, r⟩, _⟩ := id I.loc
 obtain ⟨sl, hL⟩ := u.any ho I.free fun z => (hch _ z).2.1 rfl
 exact I.step (ch := ch) hch (fun b o hL hb hc e n => u.keep b o e n (fun z => (List.mem_cons.mp (I.lY b z)).elim hL hb) hc) (fun b o _ _ hc e n => u.any e n hc) (fun b o hc e n => u.free b o e n hc) (fun b o hc e => u.there b o e hc) u.tups u.frzs u.tbls (fun m' hm => by
  obtain ⟨o', es', ep', ho', r'⟩ := hm
  rw [ho] at ho'; cases ho'
  exact ⟨_, es', ep', hL, r'⟩) hok hg
theorem Inv.turned {t' : Nat} {it : Addr} (I : Inv X pins σ H s) (k : ∀ b o, b ≠ it → s.heap.get? b = some o → h'.get? b = some o) (hn : H it = none) (hL : it ≠ X.env.locals)
  (h1 : it ∈ X.ex ∨ X.s₀.heap.objs.size ≤ it) (h2 : ∀ x c, X.env.cells.lookup x = some c → c ≠ it) (h3 : ∀ p ∈ X.pn ++ pins, p.1 ≠ it) : Inv X pins σ H { s with heap := h', toks := t' } := by
 have nit : ∀ b u, H b = some u → b ≠ it := fun b u e z => by rw [z, hn] at e; cases e
 refine I.step (g' := s.gens) (d' := s.drawn) (ch := [it]) (fun b hb => ?_) (fun b o _ _ hc e _ => k b o (fun z => hc (by simp [z])) e) (fun b o _ _ hc e _ => ⟨o.slots, k b o (fun z => hc (by simp [z])) e⟩) (fun _ _ _ _ n => n)
  (fun b o hc e => ⟨o, k b o (fun z => hc (by simp [z])) e⟩) (fun _ _ e => e) (fun _ _ _ e => e) (fun b ps e => ⟨#[], by rw [e]; simp⟩) (fun m hm => ?_) (fun b u e => ?_) I.bare
 ·have e : b = it := by simpa using hb
  subst e
  exact ⟨h1, hL, h2, h3⟩
 ·obtain ⟨o, es, ep, ho, r⟩ := hm
  exact ⟨o, es, ep, k _ o (Ne.symm hL) ho, r⟩
 ·refine (I.hok b u e).stay (fun c v hc q => k c v ?_ q) (fun _ q => q) fun _ _ q => q
  rcases hc with z | z
  ·rw [z]; exact nit b u e
  ·exact nit c _ z
theorem Inv.tok (I : Inv X pins σ H s) (t : Nat) : Inv X pins σ H { s with toks := t } := I.un (h' := s.heap) (t' := t) Un.refl I.hok
theorem Inv.kept {t' : Nat} (I : Inv X pins σ H s) (k : ∀ b u, s.heap.get? b = some u → h'.get? b = some u) : Inv X pins σ H { s with heap := h', toks := t' } := I.un (Un.kept k) (I.hok.kept k)
theorem Inv.laid {a : Addr} {o : HO} {t' : Nat} (I : Inv X pins σ H s) (k : ∀ b u, s.heap.get? b = some u → h'.get? b = some u) (hp : s.heap.objs.size ≤ a) (new : cu X.prog X.w (upd H a o) h' a o) :
  Inv X pins σ (upd H a o) { s with heap := h', toks := t' } := I.un (Un.laid k hp (I.hok.fresh hp)) (I.hok.laid k hp new)
theorem Inv.write {x e : Addr} {o : HO} {t' : Nat} (I : Inv X pins σ H s) (mu : Mut (H x)) (he : e = x ∨ H e = some (.own x)) (k : ∀ b u, b ≠ e → s.heap.get? b = some u → h'.get? b = some u) (heo : ∃ u, h'.get? e = some u)
  (new : cu X.prog X.w (upd H x o) h' x o) : Inv X pins σ (upd H x o) { s with heap := h', toks := t' } := I.un (Un.write mu he k heo) (I.hok.write mu he k heo new)
theorem Inv.gW {pins' : List (Addr × Obj)} (I : Inv X pins σ H s) (h : ∀ p ∈ pins', s.heap.get? p.1 = some p.2 ∧ H p.1 = none ∧ p.1 ≠ X.env.locals ∧ p.1 ∉ X.fs ∧ ∀ v, p.2.data ≠ .cell v) : Inv X pins' σ H s :=
 ⟨I.ok, I.os, I.bare, I.base, I.loc, I.cell, I.free, I.freeC, fun p hp => (List.mem_append.mp hp).elim (fun z => I.pin p (List.mem_append_left _ z)) (h p), I.hok, I.len⟩
theorem uH {N : List Str} (hN : N.Nodup) {i j : Nat} {x : Str} (a : N[i]? = some x) (b : N[j]? = some x) : i = j := by
 obtain ⟨h1, e1⟩ := List.getElem?_eq_some_iff.mp a
 obtain ⟨h2, e2⟩ := List.getElem?_eq_some_iff.mp b
 exact (List.getElem_inj hN).mp (e1.trans e2.symm)
theorem pW {M : Model} {A : Around} {E : Value → Shared → Prop} {i : Nat} {x : Str} {v : V} {u : Value} {Q : Unit → Shared → Prop} (I : Inv X pins σ H s) (hN : X.N.Nodup) (hi : X.N[i]? = some x) (hx : Loc X.env.scope x) (r : RelV v u)
  (h : ∀ s', Inv X pins (σ.set i (some v)) H s' → (∃ a, Heap.SameBut a s.heap s'.heap ∧ (a = X.env.locals ∨ X.env.cells.lookup x = some a)) → Q () s') (hf : X.fn x = true ∨ X.env.scope.names.lookup x = some .local := by first | exact .inl rfl | exact .inr rfl | assumption) : wpAny M A (storeName X.env x u) Q E s := by
 obtain ⟨m, hn, hl⟩ := id I.loc
 have hcls : (X.env.scope.kind == .class || (X.env.scope.kind == .module && X.env.locals != X.env.globals)) = false := by rw [I.ok.kind]; rfl
 have hiσ : i < σ.length := by rw [I.len]; exact (List.getElem?_eq_some_iff.mp hi).1
 have cne := I.cne
 have tracked : ∀ {a : Addr} {h' : Heap}, (∃ o, s.heap.get? a = some o ∧ H a = none) → Heap.SameBut a s.heap h' → HOk X.prog X.w H h' := fun {a h'} ha hs b ob e => by
  obtain ⟨_, _, hfree⟩ := ha
  refine (I.hok b ob e).stay (fun c w' hc q => (hs.2 c ?_).trans q) (fun _ q => q) fun _ _ q => q
  rintro rfl
  rcases hc with rfl | hc
  ·rw [hfree] at e; cases e
  ·rw [hfree] at hc; cases hc
 rcases hx with hk | hk
 ·refine wpAny_storeName_local hk hn (fun h' hn' hs => ?_) hcls
  obtain ⟨oL, _, _, hoL, _⟩ := id hn
  refine h _ ⟨I.ok, I.os, I.bare, ⟨fun b o e n hb hx => ?_, fun b o e n hb hx => ?_, I.base.free, fun b o e hx => ?_, I.base.tups, I.base.frzs, I.base.tbls⟩, ⟨_, hn', fun j y v' e1 e2 e3 => ?_⟩, fun y c e => ?_, I.free, I.freeC, fun p hp => ?_, tracked ⟨oL, hoL, I.free⟩ hs, by simpa using I.len⟩ ⟨_, hs, .inl rfl⟩
  ·exact (hs.2 b (Nat.ne_of_lt (Nat.lt_of_lt_of_le (Heap.lt_size e) I.ok.above))).trans (I.base.keep b o e n hb hx)
  ·obtain ⟨sl, e1⟩ := I.base.slot b o e n hb hx
   exact ⟨sl, (hs.2 b (Nat.ne_of_lt (Nat.lt_of_lt_of_le (Heap.lt_size e) I.ok.above))).trans e1⟩
  ·obtain ⟨o', e1⟩ := I.base.there b o e hx
   exact ⟨o', (hs.2 b (Nat.ne_of_lt (Nat.lt_of_lt_of_le (Heap.lt_size e) I.ok.above))).trans e1⟩
  ·by_cases hj : j = i
   ·subst hj
    rw [hi] at e1; cases e1
    rw [List.getElem?_set_self hiσ] at e2
    cases e2
    exact ⟨u, r, .inl ⟨hk, by simp⟩⟩
   ·rw [List.getElem?_set_ne (Ne.symm hj)] at e2
    obtain ⟨u', r', q⟩ := hl j y v' e1 e2 e3
    refine ⟨u', r', ?_⟩
    rcases q with ⟨k, e⟩ | ⟨k, c, e, z⟩
    ·refine .inl ⟨k, ?_⟩
     have : y ≠ x := fun e => hj (uH hN e1 (e ▸ hi))
     simp [this, e]
    ·exact .inr ⟨k, c, e, z.sameBut hs (cne y c e)⟩
  ·obtain ⟨w', z⟩ := I.cell y c e
   exact ⟨w', z.sameBut hs (cne y c e)⟩
  ·obtain ⟨e, n, ne, nf, d⟩ := I.pin p hp
   exact ⟨(hs.2 p.1 ne).trans e, n, ne, nf, d⟩
 ·have hfn : X.fn x = true := by
   rcases hf with z | z
   ·exact z
   ·rw [z] at hk; cases hk
  obtain ⟨c, hc⟩ := I.ok.has x (.inl hk)
  obtain ⟨w', z⟩ := I.cell x c hc
  refine wpAny_storeName_cell I.ok.kind hk hc z (fun h' hc' hs => ?_)
  obtain ⟨oc, hoc, hocd⟩ := id z
  refine h { s with heap := h' } ⟨I.ok, I.os, I.bare, ⟨fun b o e n hb hx => ?_, fun b o e n hb hx => ?_, I.base.free, fun b o e hx => ?_, I.base.tups, I.base.frzs, I.base.tbls⟩, ⟨m, hn.sameBut hs (Ne.symm (cne x c hc)), fun j y v' e1 e2 e3 => ?_⟩, fun y c' e => ?_, I.free, I.freeC, fun p hp => ?_, tracked ⟨oc, hoc, I.freeC x c hc⟩ hs, by simpa using I.len⟩ ⟨c, hs, .inr hc⟩
  ·exact (hs.2 b (Nat.ne_of_lt (Nat.lt_of_lt_of_le (Heap.lt_size e) (I.ok.cab x c hfn hc)))).trans (I.base.keep b o e n hb hx)
  ·obtain ⟨sl, e1⟩ := I.base.slot b o e n hb hx
   exact ⟨sl, (hs.2 b (Nat.ne_of_lt (Nat.lt_of_lt_of_le (Heap.lt_size e) (I.ok.cab x c hfn hc)))).trans e1⟩
  ·obtain ⟨o', e1⟩ := I.base.there b o e hx
   exact ⟨o', (hs.2 b (Nat.ne_of_lt (Nat.lt_of_lt_of_le (Heap.lt_size e) (I.ok.cab x c hfn hc)))).trans e1⟩
  ·by_cases hj : j = i
   ·subst hj
    rw [hi] at e1; cases e1
    rw [List.getElem?_set_self hiσ] at e2
    cases e2
    exact ⟨u, r, .inr ⟨.inl hk, c, hc, hc'⟩⟩
   ·rw [List.getElem?_set_ne (Ne.symm hj)] at e2
    obtain ⟨u', r', q⟩ := hl j y v' e1 e2 e3
    refine ⟨u', r', ?_⟩
    rcases q with q | ⟨k, c', e, z'⟩
    ·exact .inl q
    ·refine .inr ⟨k, c', e, z'.sameBut hs ?_⟩
     rintro rfl
     exact hj (uH hN e1 (I.ok.inj _ _ _ e hc ▸ hi))
  ·by_cases hcc : c' = c
   ·subst hcc; exact ⟨_, hc'⟩
   ·obtain ⟨w2, z2⟩ := I.cell y c' e
    exact ⟨w2, z2.sameBut hs hcc⟩
  ·obtain ⟨e, n, ne, nf, d⟩ := I.pin p hp
   refine ⟨(hs.2 p.1 ?_).trans e, n, ne, nf, d⟩
   intro q
   rw [q, hoc] at e
   have q' : oc = p.2 := Option.some.inj e
   exact d w' (by rw [← q']; exact hocd)
theorem gq {M : Model} {A : Around} {E : Value → Shared → Prop} {i : Nat} {x : Str} {v : V} {u : Value} {Q : Unit → Shared → Prop} (I : Inv X pins σ H s) (hN : X.N.Nodup) (hi : X.N[i]? = some x) (hx : Loc X.env.scope x) (r : RelV v u)
  (h : ∀ s', Inv X pins (σ.set i (some v)) H s' → Q () s') (hf : X.fn x = true ∨ X.env.scope.names.lookup x = some .local := by first | exact .inl rfl | exact .inr rfl | assumption) : wpAny M A (storeName X.env x u) Q E s :=
 pW I hN hi hx r (fun s' I' _ => h s' I') hf
theorem Inv.call' {s' : Shared} {ch : List Addr} (I : Inv X pins σ H s) (ho : s'.os = s.os) (u : Un (frs X.stack) ch H H' s.heap s'.heap) (hok : HOk X.prog X.w H' s'.heap) (hg : AllBare s'.gens)
  (hch : ∀ b ∈ ch, (b ∈ X.ex ∨ X.s₀.heap.objs.size ≤ b) ∧ b ≠ X.env.locals ∧ (∀ x c, X.env.cells.lookup x = some c → c ≠ b) ∧ ∀ p ∈ X.pn ++ pins, p.1 ≠ b) : Inv X pins σ H' s' := by
 obtain ⟨h', g', d', t', o'⟩ := s'
 have e : o' = s.os := ho
 subst e
 exact I.call (g' := g') (t' := t') (d' := d') u hok hg hch
end
abbrev XK := Value → Option Addr → Hp → Prop
abbrev St := List (Option V)
abbrev VK := V → Hp → Prop
abbrev TE := St → Hp → VK → Prop
abbrev TT := St → Hp → (Bool → Hp → Prop) → Prop
abbrev TA := St → Hp → (List V → Hp → Prop) → Prop
structure Ends where
 nx : St → Hp → Prop
 rt : VK
 bk : St → Hp → Prop := fun _ _ => False
 ct : St → Hp → Prop := fun _ _ => False
abbrev TS := Ends → St → Hp → Prop
def EP (X : Cx) (pins : List (Addr × Obj)) (σ : St) (Q : VK) (u : Value) (s' : Shared) : Prop := ∃ v H', Inv X pins σ H' s' ∧ RelV v u ∧ Q v H'
def TP (X : Cx) (pins : List (Addr × Obj)) (σ : St) (Q : Bool → Hp → Prop) (b : Bool) (s' : Shared) : Prop := ∃ H', Inv X pins σ H' s' ∧ Q b H'
def AP (X : Cx) (pins : List (Addr × Obj)) (σ : St) (Q : List V → Hp → Prop) (us : List Value) (s' : Shared) : Prop := ∃ vs H', Inv X pins σ H' s' ∧ Vals vs us ∧ Q vs H'
def SP (X : Cx) (pins : List (Addr × Obj)) (D : Ends) (f : Flow) (s' : Shared) : Prop :=
 match f with
 | .next => ∃ σ' H', Inv X pins σ' H' s' ∧ D.nx σ' H'
 | .brk => ∃ σ' H', Inv X pins σ' H' s' ∧ D.bk σ' H'
 | .cont => ∃ σ' H', Inv X pins σ' H' s' ∧ D.ct σ' H'
 | .ret u => ∃ v σ' H', Inv X pins σ' H' s' ∧ RelV v u ∧ D.rt v H'
def PE (X : Cx) (e : Expr) (t : TE) : Prop :=
 ∀ (pins : List (Addr × Obj)) (s : Shared) (σ : St) (H : Hp) (Q : VK), Inv X pins σ H s → t σ H Q → wpAny (model X.prog X.w) X.A (eval e X.env) (EP X pins σ Q) X.xe s
def PT (X : Cx) (e : Expr) (t : TT) : Prop :=
 ∀ (pins : List (Addr × Obj)) (s : Shared) (σ : St) (H : Hp) (Q : Bool → Hp → Prop), Inv X pins σ H s → t σ H Q → wpAny (model X.prog X.w) X.A (isTrue e X.env (eval e X.env)) (TP X pins σ Q) X.xe s
def PW (X : Cx) (e : Expr) (t : TT) : Prop :=
 ∀ (whole : Sem Value) (pins : List (Addr × Obj)) (s : Shared) (σ : St) (H : Hp) (Q : Bool → Hp → Prop), Inv X pins σ H s → t σ H Q → wpAny (model X.prog X.w) X.A (isTrue e X.env whole) (TP X pins σ Q) X.xe s
theorem PW.pt {X : Cx} {e : Expr} {t : TT} (h : PW X e t) : PT X e t := h _
def PA (X : Cx) (es : List Expr) (t : TA) : Prop :=
 ∀ (pos : Pos) (pins : List (Addr × Obj)) (s : Shared) (σ : St) (H : Hp) (Q : List V → Hp → Prop), Inv X pins σ H s → t σ H Q → wpAny (model X.prog X.w) X.A (spliced (backTo pos (starEach es X.env))) (AP X pins σ Q) X.xe s
def PS (X : Cx) (st : Stmt) (t : TS) : Prop :=
 ∀ (pins : List (Addr × Obj)) (s : Shared) (σ : St) (H : Hp) (D : Ends), Inv X pins σ H s → t D σ H → wpAny (model X.prog X.w) X.A (exec st X.env) (SP X pins D) X.xe s
def PSs (X : Cx) (st : List Stmt) (t : TS) : Prop :=
 ∀ (pins : List (Addr × Obj)) (s : Shared) (σ : St) (H : Hp) (D : Ends), Inv X pins σ H s → t D σ H → wpAny (model X.prog X.w) X.A (execs st X.env) (SP X pins D) X.xe s
theorem thn {α : Type} {t : Sem α} {Q Q' : α → Shared → Prop} {M : Model} {A : Around} {E : Value → Shared → Prop} {s : Shared} (h : wpAny M A t Q E s) (hQ : ∀ a s, Q a s → Q' a s) : wpAny M A t Q' E s := wpAny_mono h hQ fun _ _ x => x
theorem thE {t : Sem Value} {X : Cx} {pins : List (Addr × Obj)} {σ : St} {Q : VK} {Q' : Value → Shared → Prop} {M : Model} {A : Around} {E : Value → Shared → Prop} {s : Shared} (h : wpAny M A t (EP X pins σ Q) E s) (hQ : ∀ u s x H, Inv X pins σ H s → RelV x u → Q x H → Q' u s) : wpAny M A t Q' E s := thn h fun u s z => by
 obtain ⟨x, H, I, r, q⟩ := z
 exact hQ u s x H I r q
theorem thA {t : Sem (List Value)} {X : Cx} {pins : List (Addr × Obj)} {σ : St} {Q : List V → Hp → Prop} {Q' : List Value → Shared → Prop} {M : Model} {A : Around} {E : Value → Shared → Prop} {s : Shared} (h : wpAny M A t (AP X pins σ Q) E s) (hQ : ∀ u s x H, Inv X pins σ H s → Vals x u → Q x H → Q' u s) : wpAny M A t Q' E s := thn h fun u s z => by
 obtain ⟨x, H, I, r, q⟩ := z
 exact hQ u s x H I r q
theorem thT {t : Sem Bool} {X : Cx} {pins : List (Addr × Obj)} {σ : St} {Q : Bool → Hp → Prop} {Q' : Bool → Shared → Prop} {M : Model} {A : Around} {E : Value → Shared → Prop} {s : Shared} (h : wpAny M A t (TP X pins σ Q) E s) (hQ : ∀ u s H, Inv X pins σ H s → Q u H → Q' u s) : wpAny M A t Q' E s := thn h fun u s z => by
 obtain ⟨H, I, q⟩ := z
 exact hQ u s H I q
section
variable {X : Cx}
def jc (i : Nat) : TE := fun σ H Q => ∃ v, σ[i]? = some (some v) ∧ Q v H
def tC (v : V) : TE := fun _ H Q => Q v H
theorem Dl {i : Nat} {x : Str} {pos : Pos} (hN : X.N[i]? = some x) (hv : Vis X.env.scope x) (hd : (x == ("__debug__" : Str)) = false := by decide) (hcd : (x == ("__classdict__" : Str)) = false := by decide) : PE X (.Name x pos) (jc i) := by
 intro pins s σ H Q I h
 obtain ⟨v, e, h⟩ := h
 obtain ⟨m, hn, hl⟩ := I.loc
 obtain ⟨u, r, l⟩ := hl i x v hN e hv
 have fin : EP X pins σ Q u s := ⟨v, H, I, r, h⟩
 rcases l with ⟨hk, hm⟩ | ⟨hk, c, hc, hcell⟩
 ·exact wpAny_Name (wpAny_loadName_local I.ok.kind hk hn hm fin) hd
 ·rcases hk with hk | hk
  ·exact wpAny_Name (wpAny_loadName_cell I.ok.kind hk hc hcell fin) hd
  ·exact wpAny_Name (wpAny_loadName_free I.ok.kind hk hc hcell fin hcd) hd
theorem M4 {i j pos} : PE X (.Constant (.int i) j pos) (tC (.int i)) := fun _ _ _ H _ I h => wpAny_Constant_int ⟨.int i, H, I.tok _, ⟨_, rfl⟩, h⟩
theorem PJ {b j pos} : PE X (.Constant (.bool b) j pos) (tC (.bl b)) := fun _ _ _ H _ I h => Constant_bool ⟨.bl b, H, I, rfl, h⟩
theorem MN {j pos} : PE X (.Constant .none j pos) (tC .non) := fun _ _ _ H _ I h => Constant_none ⟨.non, H, I, rfl, h⟩
theorem MF {x j pos} : PE X (.Constant (.str x) j pos) (tC (.str x)) := fun _ _ _ H _ I h => Calls.Constant_str ⟨.str x, H, I.tok _, ⟨_, rfl⟩, h⟩
def Gl (X : Cx) (x : Str) : Prop := X.env.kindOf x = some .globalImplicit
theorem JM {E : Value → Shared → Prop} {pins : List (Addr × Obj)} {s : Shared} {σ : St} {H : Hp} {x : Str} {u : Value} {pos : Pos} {Q : Value → Shared → Prop} (I : Inv X pins σ H s) (hg : Gl X x) (hm : X.mg x = some u) (h : Q u s)
  (hd : (x == ("__debug__" : Str)) = false := by decide) : wpAny (model X.prog X.w) X.A (eval (.Name x pos) X.env) Q E s :=
 Calls.Name_function_global I.ok.kind hg (Calls.loadGlobal_global (by rw [I.ok.glob]; exact I.mod.glob.keeps I.bk) hm h) hd
theorem iC {E : Value → Shared → Prop} {pins : List (Addr × Obj)} {s : Shared} {σ : St} {H : Hp} {x : Str} {u : Value} {pos : Pos} {Q : Value → Shared → Prop} (I : Inv X pins σ H s) (hg : Gl X x) (hm : X.mg x = none) (hv : bootBuiltins x = some u) (h : Q u s)
  (hn : x ≠ "__name__" := by decide) (hd : (x == ("__debug__" : Str)) = false := by decide) : wpAny (model X.prog X.w) X.A (eval (.Name x pos) X.env) Q E s := by
 obtain ⟨mb, h1, h2⟩ := I.mod.blt
 exact Calls.Name_function_global I.ok.kind hg (Calls.loadGlobal_builtin (by rw [I.ok.glob]; exact I.mod.glob.keeps I.bk) hm (by rw [I.ok.blt]; exact h1.keeps I.bk) ((h2 x hn).trans hv) h) hd
theorem Jh {x : Str} {v : V} {u : Value} {pos : Pos} (hg : Gl X x) (hm : X.mg x = none) (hv : bootBuiltins x = some u) (r : RelV v u) (hn : x ≠ "__name__" := by decide) (hd : (x == ("__debug__" : Str)) = false := by decide) : PE X (.Name x pos) (tC v) :=
 fun _ _ _ H _ I h => iC I hg hm hv ⟨v, H, I, r, h⟩ hn hd
variable {a b : Expr} {ta tb : TE} {pos : Pos}
def tB (t : TE) : TT := fun σ H Q => t σ H fun x H1 => ∃ c, x = .bl c ∧ Q c H1
theorem Mp {e : Expr} {t : TE} (h : PE X e t) (he : ∀ whole, isTrue e X.env whole = (do let v ← whole; standAt e.pos; holding [v] (truthy v)) := by intro _; rfl) : PT X e (tB t) := by
 intro pins s σ H Q I hw
 refine isTrue_plain (thE (h pins s σ H _ I hw) fun v s1 x H1 I1 r1 q1 => ?_) (he _)
 obtain ⟨d, rfl, q⟩ := q1
 cases r1
 exact wpAny_truthy_bool ⟨H1, I1, q⟩
variable {tA tB' : TT} {rest : List Expr}
def Lr (t u : TT) : TT := fun σ H Q => t σ H fun c H1 => if c = true then u σ H1 Q else Q false H1
def tOr (t u : TT) : TT := fun σ H Q => t σ H fun c H1 => if c = true then Q true H1 else u σ H1 Q
def Lj (t : TT) : TT := fun σ H Q => t σ H fun c H1 => Q (!c) H1
theorem Ih (ha : PT X a tA) : PW X (.BoolOp .And [a] pos) tA := by
 intro wh pins s σ H Q I h
 refine isTrue_and (thn (ha pins s σ H Q I h) fun c s1 e => ?_)
 cases c with
 | true => exact isTrue_and_nil e
 | false => exact e
theorem Mi (ha : PT X a tA) : PW X (.BoolOp .Or [a] pos) tA := by
 intro wh pins s σ H Q I h
 refine isTrue_or (thn (ha pins s σ H Q I h) fun c s1 e => ?_)
 cases c with
 | false => exact isTrue_or_nil e
 | true => exact e
theorem Ml (ha : PT X a tA) (hb : PW X (.BoolOp .And (b :: rest) pos) tB') : PW X (.BoolOp .And (a :: b :: rest) pos) (Lr tA tB') := by
 intro wh pins s σ H Q I h
 refine isTrue_and (thT (ha pins s σ H _ I h) fun c s1 H1 I1 q1 => ?_)
 cases c with
 | true => exact hb wh pins s1 σ H1 Q I1 q1
 | false => exact ⟨H1, I1, q1⟩
theorem O9 (ha : PT X a tA) (hb : PW X (.BoolOp .Or (b :: rest) pos) tB') : PW X (.BoolOp .Or (a :: b :: rest) pos) (tOr tA tB') := by
 intro wh pins s σ H Q I h
 refine isTrue_or (thT (ha pins s σ H _ I h) fun c s1 H1 I1 q1 => ?_)
 cases c with
 | true => exact ⟨H1, I1, q1⟩
 | false => exact hb wh pins s1 σ H1 Q I1 q1
theorem Mq (ha : PT X a tA) : PT X (.UnaryOp .Not a pos) (Lj tA) := by
 intro pins s σ H Q I h
 exact isTrue_not (ha pins s σ H (fun c H1 => Q (!c) H1) I h)
def Bt (ta tb : TE) : TE := fun σ H Q => ta σ H fun x H1 => ∃ c, x = .bl c ∧ if c = true then tb σ H1 Q else Q (.bl false) H1
def Qp (ta tb : TE) : TE := fun σ H Q => ta σ H fun x H1 => ∃ c, x = .bl c ∧ if c = true then Q (.bl true) H1 else tb σ H1 Q
def Bm (ta : TE) : TE := fun σ H Q => ta σ H fun x H1 => ∃ c, x = .bl c ∧ Q (.bl (!c)) H1
theorem MJ {op} {t : TE} (h : PE X a t) : PE X (.BoolOp op [a] pos) t := fun pins s σ H Q I hw => BoolOp_one (h pins s σ H Q I hw)
theorem M6 (ha : PE X a ta) (hb : PE X (.BoolOp .And (b :: rest) pos) tb) : PE X (.BoolOp .And (a :: b :: rest) pos) (Bt ta tb) := by
 intro pins s σ H Q I h
 refine BoolOp_and (thE (ha pins s σ H _ I h) fun v s1 x H1 I1 r1 q1 => ?_)
 obtain ⟨c, rfl, q1⟩ := q1
 cases r1
 refine wpAny_truthy_bool ?_
 cases c with
 | true => exact hb pins s1 σ H1 Q I1 q1
 | false => exact ⟨.bl false, H1, I1, rfl, q1⟩
theorem MK (ha : PE X a ta) : PE X (.UnaryOp .Not a pos) (Bm ta) := by
 intro pins s σ H Q I h
 refine UnaryOp_ (thE (ha pins s σ H _ I h) fun v s1 x H1 I1 r1 q1 => ?_)
 obtain ⟨c, rfl, q1⟩ := q1
 cases r1
 exact not_of (wpAny_truthy_bool ⟨.bl (!c), H1, I1, rfl, q1⟩)
def tIf (t : TT) (ta tb : TE) : TE := fun σ H Q => t σ H fun c H1 => if c = true then ta σ H1 Q else tb σ H1 Q
theorem Dm {c : Expr} (hc : PT X c tA) (ha : PE X a ta) (hb : PE X b tb) : PE X (.IfExp c a b pos) (tIf tA ta tb) := by
 intro pins s σ H Q I h
 refine wpAny_IfExp (thT (hc pins s σ H _ I h) fun d s1 H1 I1 q1 => ?_)
 cases d with
 | true => exact ha pins s1 σ H1 Q I1 q1
 | false => exact hb pins s1 σ H1 Q I1 q1
end
def SqL (K : PySem.W.Frag) (H : Hp) (a : Addr) (xs : List V) : Prop :=
 Rd H a (.lst xs) ∨
  ∃ (o : Obj) (its : Array Value) (n : Nat), K.lookup a = some o ∧ o.cls = .type "list" ∧ o.dict = none ∧ o.data = .seq its n ∧ its.size ≤ sizeLine ∧ Vals xs its.toList
def SqT (K : PySem.W.Frag) (H : Hp) (a : Addr) (xs : List V) : Prop :=
 Rd H a (.tup xs) ∨
  ∃ (o : Obj) (its : Array Value) (n : Nat), K.lookup a = some o ∧ o.cls = .type "tuple" ∧ o.data = .seq its n ∧ its.size ≤ sizeLine ∧ Vals xs its.toList
def QL : Value → Option V
 | .none => some .non
 | .bool b => some (.bl b)
 | .int i _ => some (.int i)
 | .str x _ => some (.str x)
 | .bytes b _ => some (.byt b)
 | .float b _ => some (.flt b)
 | .ref a => some (.ref a)
 | .type n => some (.ty n)
 | _ => none
theorem RelV.abs {x : V} {u : Value} (r : RelV x u) : QL u = some x := by
 cases x with
 | non => cases r; rfl
 | bl _ => cases r; rfl
 | int _ => obtain ⟨t, rfl⟩ := r; rfl
 | str _ => obtain ⟨t, rfl⟩ := r; rfl
 | byt _ => obtain ⟨t, rfl⟩ := r; rfl
 | flt _ => obtain ⟨t, rfl⟩ := r; rfl
 | ref _ => cases r; rfl
 | ty _ => cases r; rfl
theorem RelV.inj {x y : V} {u : Value} (r : RelV x u) (q : RelV y u) : x = y := Option.some.inj (r.abs.symm.trans q.abs)
theorem Vals.inj : ∀ {xs ys : List V} {us : List Value}, Vals xs us → Vals ys us → xs = ys
 | _, _, _, .nil, .nil => rfl
 | _, _, _, .cons r t, .cons r' t' => by rw [r.inj r', Vals.inj t t']
section
variable {X : Cx} {pins : List (Addr × Obj)} {σ : St} {H : Hp} {s : Shared} {a : Addr} {xs ys : List V}
theorem SqL.of {K : PySem.W.Frag} (h : H a = some (.lst xs)) : SqL K H a xs := .inl (.inl h)
theorem SqT.of {K : PySem.W.Frag} (h : H a = some (.tup xs)) : SqT K H a xs := .inl (.inl h)
theorem Inv.list (I : Inv X pins σ H s) (h : SqL X.K H a xs) : ∃ its : List Value, Vals xs its ∧ PlainL s.heap a its.toArray ∧ xs.length ≤ sizeLine := by
 rcases h with h | ⟨o, its, n, hk, hc, hd, hs, hz, r⟩
 ·obtain ⟨z, its, n, r, e⟩ := h.ok I.hok
  exact ⟨its, r, ⟨_, n, e, rfl, rfl, rfl⟩, z⟩
 ·refine ⟨its.toList, r, ⟨o, n, I.kIn a o hk, hc, hd, by simpa using hs⟩, ?_⟩
  have e := r.length
  simp only [Array.length_toList] at e
  omega
theorem Inv.tuple (I : Inv X pins σ H s) (h : SqT X.K H a xs) : ∃ its : List Value, Vals xs its ∧ IsTup s.heap a its.toArray ∧ xs.length ≤ sizeLine := by
 rcases h with h | ⟨o, its, n, hk, hc, hs, hz, r⟩
 ·obtain ⟨z, its, r, p⟩ := h.ok I.hok
  exact ⟨its, r, p, z⟩
 ·refine ⟨its.toList, r, ⟨o, I.kIn a o hk, hc, n, by simpa using hs⟩, ?_⟩
  have e := r.length
  simp only [Array.length_toList] at e
  omega
theorem Inv.lH (I : Inv X pins σ H s) (h : SqL X.K H a xs) (h' : SqL X.K H a ys) : xs = ys := by
 obtain ⟨its, r, ⟨o, n, e, _, _, d⟩, _⟩ := I.list h
 obtain ⟨its', r', ⟨o', n', e', _, _, d'⟩, _⟩ := I.list h'
 rw [e] at e'; cases e'
 rw [d] at d'
 injection d' with d1 _
 have : its = its' := by simpa using congrArg Array.toList d1
 subst this
 exact r.inj r'
theorem Inv.jG (I : Inv X pins σ H s) (h : SqT X.K H a xs) (h' : SqT X.K H a ys) : xs = ys := by
 obtain ⟨its, r, ⟨o, e, _, n, d⟩, _⟩ := I.tuple h
 obtain ⟨its', r', ⟨o', e', _, n', d'⟩, _⟩ := I.tuple h'
 rw [e] at e'; cases e'
 rw [d] at d'
 injection d' with d1 _
 have : its = its' := by simpa using congrArg Array.toList d1
 subst this
 exact r.inj r'
end
abbrev Cx.wish (X : Cx) (E : Value → Shared → Prop) : Cx := { X with xe := E }
abbrev Cx.nox (X : Cx) : Cx := X.wish fun _ _ => False
theorem Cx.Ok.wish {X : Cx} (ok : X.Ok) (E : Value → Shared → Prop) : (X.wish E).Ok :=
 ⟨ok.mod, ok.kind, ok.glob, ok.blt, ok.above, ok.inj, ok.has, ok.cab, ok.hd, ok.frames, ok.stk, ok.exf, ok.bs, ok.bsz, ok.noex, ok.exfs, ok.nu, ok.frf⟩
theorem Cx.Ok.jr {X : Cx} {E : Value → Shared → Prop} (ok : (X.wish E).Ok) : X.Ok :=
 ⟨ok.mod, ok.kind, ok.glob, ok.blt, ok.above, ok.inj, ok.has, ok.cab, ok.hd, ok.frames, ok.stk, ok.exf, ok.bs, ok.bsz, ok.noex, ok.exfs, ok.nu, ok.frf⟩
section
variable {X : Cx} {pins : List (Addr × Obj)} {σ : St} {H : Hp} {s : Shared} {E : Value → Shared → Prop}
theorem Inv.wish (I : Inv X pins σ H s) (E : Value → Shared → Prop) : Inv (X.wish E) pins σ H s := ⟨I.ok.wish E, I.os, I.bare, I.base, I.loc, I.cell, I.free, I.freeC, I.pin, I.hok, I.len⟩
theorem Inv.jr (I : Inv (X.wish E) pins σ H s) : Inv X pins σ H s := ⟨I.ok.jr, I.os, I.bare, I.base, I.loc, I.cell, I.free, I.freeC, I.pin, I.hok, I.len⟩
theorem SP.jr {D : Ends} {f : Flow} {s' : Shared} (h : SP (X.wish E) pins D f s') : SP X pins D f s' := by
 cases f with
 | next => obtain ⟨σ', H', I, q⟩ := h; exact ⟨σ', H', I.jr, q⟩
 | brk => obtain ⟨σ', H', I, q⟩ := h; exact ⟨σ', H', I.jr, q⟩
 | cont => obtain ⟨σ', H', I, q⟩ := h; exact ⟨σ', H', I.jr, q⟩
 | ret u => obtain ⟨v, σ', H', I, r, q⟩ := h; exact ⟨v, σ', H', I.jr, r, q⟩
theorem PSs.nox {st : List Stmt} {t : TS} (h : PSs X.nox st t) : PSs X st t := fun pins s σ H D I hw =>
 wpAny_mono (h pins s σ H D (I.wish _) hw) (fun _ _ q => q.jr) fun _ _ z => False.elim z
end
section
variable {X : Cx} {st : Stmt} {rest : List Stmt} {t u : TS} {e : Expr} {te : TE} {pos : Pos}
def Bo : TS := fun D σ H => D.nx σ H
def Bj (t u : TS) : TS := fun D σ H => t { D with nx := u D } σ H
theorem Im : PSs X [] Bo := fun _ _ σ H _ I h => wpAny_execs_nil ⟨σ, H, I, h⟩
theorem Df (h1 : PS X st t) (h2 : PSs X rest u) : PSs X (st :: rest) (Bj t u) := by
 intro pins s σ H D I h
 refine wpAny_execs_cons (thn (h1 pins s σ H { D with nx := u D } I h) fun f s1 q => ?_)
 cases f with
 | next =>
  obtain ⟨σ', H', I', q⟩ := q
  exact h2 pins s1 σ' H' D I' q
 | ret v => exact q
 | brk => exact q
 | cont => exact q
theorem Il (h1 : PS X st t) : PSs X [st] t := by
 intro pins s σ H D I h
 refine wpAny_execs_cons (thn (h1 pins s σ H D I h) fun f s1 q => ?_)
 cases f with
 | next => exact wpAny_execs_nil q
 | ret v => exact q
 | brk => exact q
 | cont => exact q
theorem Inv.quiet {pins : List (Addr × Obj)} {σ : St} {H : Hp} {s : Shared} (I : Inv X pins σ H s) : interactive X.env = false := by simp [interactive, I.ok.kind]
def Bq (te : TE) : TS := fun D σ H => te σ H fun _ H1 => D.nx σ H1
theorem Ir (he : PE X e te) (hs : swapsWith e none pos.line X.env = pure false := by rfl) : PS X (.Expr e pos) (Bq te) := by
 intro pins s σ H D I h
 exact wpAny_Expr_any (thE (he pins s σ H _ I h) fun v s1 x H1 I1 r1 q1 => ⟨σ, H1, I1, q1⟩) I.quiet hs
def yV (te : TE) : TS := fun D σ H => te σ H D.rt
theorem Ms (he : PE X e te) : PS X (.Return (some e) pos) (yV te) := by
 intro pins s σ H D I h
 exact wpAny_Return_some (thE (he pins s σ H _ I h) fun v s1 x H1 I1 r1 q1 => ⟨x, σ, H1, I1, r1, q1⟩)
def O3 : TS := fun D _ H => D.rt .non H
def Lp (c : TT) (t u : TS) : TS := fun D σ H => c σ H fun b H1 => if b = true then t D σ H1 else u D σ H1
theorem Pb {c : Expr} {a b : List Stmt} {tc : TT} (hc : PT X c tc) (ha : PSs X a t) (hb : PSs X b u) : PS X (.If c a b pos) (Lp tc t u) := by
 intro pins s σ H D I h
 refine wpAny_If (thT (hc pins s σ H _ I h) fun d s1 H1 I1 q1 => ?_)
 cases d with
 | true => exact ha pins s1 σ H1 D I1 q1
 | false => exact hb pins s1 σ H1 D I1 q1
end
abbrev TG := V → St → Hp → (St → Hp → Prop) → Prop
abbrev TGs := List V → St → Hp → (St → Hp → Prop) → Prop
def PG (X : Cx) (target : Expr) (t : TG) : Prop :=
 ∀ (pins : List (Addr × Obj)) (s : Shared) (σ : St) (H : Hp) (v : V) (u : Value) (Q : St → Hp → Prop), Inv X pins σ H s → RelV v u → t v σ H Q →
  wpAny (model X.prog X.w) X.A (assign target X.env u) (fun _ s' => ∃ σ' H', Inv X pins σ' H' s' ∧ Q σ' H') X.xe s
def PGs (X : Cx) (ts : List Expr) (t : TGs) : Prop :=
 ∀ (pins : List (Addr × Obj)) (s : Shared) (σ : St) (H : Hp) (vs : List V) (us : List Value) (Q : St → Hp → Prop), Inv X pins σ H s → Vals vs us → t vs σ H Q →
  wpAny (model X.prog X.w) X.A (assignInOrder ((assignEach ts X.env).map (·.2)) us) (fun _ s' => ∃ σ' H', Inv X pins σ' H' s' ∧ Q σ' H') X.xe s
abbrev Gp := V → V → V → Hp → (Hp → Prop) → Prop
def Gr (X : Cx) (t : Gp) : Prop :=
 ∀ (pins : List (Addr × Obj)) (s : Shared) (σ : St) (H : Hp) (o i v : V) (ov iv u : Value) (Q : Hp → Prop), Inv X pins σ H s → RelV o ov → RelV i iv → RelV v u → t o i v H Q →
  wpAny (model X.prog X.w) X.A (setItem ov iv u) (fun _ s' => ∃ H', Inv X pins σ H' s' ∧ Q H') X.xe s
abbrev TIp := V → V → Hp → VK → Prop
section
variable {X : Cx} {pos : Pos}
def iV (i : Nat) : TG := fun v σ H Q => Q (σ.set i (some v)) H
theorem xT {i : Nat} {x : Str} (hN : X.N.Nodup) (hi : X.N[i]? = some x) (hx : Loc X.env.scope x) (hf : X.fn x = true ∨ X.env.scope.names.lookup x = some .local := by first | exact .inl rfl | exact .inr rfl | assumption) : PG X (.Name x pos) (iV i) := by
 intro pins s σ H v u Q I r h
 exact wpAny_assign_Name (gq I hN hi hx r (fun s' I' => ⟨_, H, I', h⟩) hf)
def Oi : TGs := fun vs σ H Q => vs = [] ∧ Q σ H
def Fq (t : TG) (u : TGs) : TGs := fun vs σ H Q => ∃ v r, vs = v :: r ∧ t v σ H fun σ' H' => u r σ' H' Q
theorem Ja : PGs X [] Oi := by
 intro pins s σ H vs us Q I r h
 obtain ⟨e, h⟩ := h
 subst e
 cases r
 exact assignInOrder_nil ⟨σ, H, I, h⟩
theorem Dj {e : Expr} {es : List Expr} {t : TG} {u : TGs} (h1 : PG X e t) (h2 : PGs X es u)
  (hs : (assignEach (e :: es) X.env).map (·.2) = assign e X.env :: (assignEach es X.env).map (·.2) := by rfl) : PGs X (e :: es) (Fq t u) := by
 intro pins s σ H vs us Q I r h
 obtain ⟨v, vr, e1, h⟩ := h
 subst e1
 cases r with
 | cons r rr =>
  rw [hs]
  refine assignInOrder_cons (thn (h1 pins s σ H _ _ _ I r h) fun _ s1 ⟨σ1, H1, I1, q1⟩ => ?_)
  exact h2 pins s1 σ1 H1 _ _ Q I1 rr q1
def QK (K : PySem.W.Frag) (n : Nat) (t : TGs) : TG := fun v σ H Q => ∃ a xs, v = .ref a ∧ SqT K H a xs ∧ xs.length = n ∧ t xs σ H Q
theorem Mx {es : List Expr} {k : Nat} {t : TGs} {n : Nat} (hc : X.calm = true) (h : PGs X es t)
  (hn : (assignEach es X.env).length = n := by rfl) (hst : (assignEach es X.env).findIdx? (·.1) = none := by rfl) : PG X (.Tuple es k pos) (QK X.K n t) := by
 intro pins s σ H v u Q I r hw
 obtain ⟨a, xs, e1, hq, hl, hw⟩ := hw
 subst e1
 cases r
 obtain ⟨its, rv, ht, hz⟩ := I.tuple hq
 refine assign_Tuple_tuple (I.ok.hd hc) ht (by simp [hn, ← hl, rv.length]) hst fun h' hx => ?_
 have I1 : Inv X pins σ H { s with heap := h' } := I.kept (t' := s.toks) fun b o e => hx b o (Nat.ne_of_lt (Heap.lt_size e)) e
 exact h pins _ σ H xs _ Q I1 (by simpa using rv) hw
def J9 (to ti : TE) (t : Gp) : TG := fun v σ H Q => to σ H fun o H1 => ti σ H1 fun i H2 => t o i v H2 fun H3 => Q σ H3
theorem Dk {o i : Expr} {to ti : TE} {t : Gp} (ho : PE X o to) (hi : PE X i ti) (hs : Gr X t)
  (ha : ∀ v, assign (.Subscript o i pos) X.env v = (do
   let ov ← holding [v] (eval o X.env)
   let iv ← holding [v, ov] (eval i X.env)
   standAt pos
   holding [v, ov, iv] (setItem ov iv v)
   release [v, ov, iv] []) := by intro _; rfl) : PG X (.Subscript o i pos) (J9 to ti t) := by
 intro pins s σ H v u Q I r h
 rw [ha]
 refine wpAny_bind (wpAny_holding (thE (ho pins s σ H _ I h) fun ov s1 x H1 I1 r1 q1 => ?_))
 refine wpAny_bind (wpAny_holding (thE (hi pins s1 σ H1 _ I1 q1) fun iv s2 y H2 I2 r2 q2 => ?_))
 refine wpAny_bind (wpAny_standAt (wpAny_bind (wpAny_holding (thn (hs pins s2 σ H2 x y v ov iv u _ I2 r1 r2 r q2) fun _ s3 ⟨H3, I3, q3⟩ => ?_))))
 exact wpAny_release ⟨σ, H3, I3, q3⟩
def oZ (te : TE) (g : TG) : TS := fun D σ H => te σ H fun x H1 => g x σ H1 D.nx
theorem Mv {tg e : Expr} {te : TE} {g : TG} (he : PE X e te) (hg : PG X tg g) (hs : swapsWithSole [tg] e pos.line X.env = pure false := by rfl) (hw : swappedStores [tg] e X.env = pure none := by rfl)
  (h1 : (assignEach [tg] X.env).map (·.2) = [assign tg X.env] := by rfl) : PS X (.Assign [tg] e pos) (oZ te g) := by
 intro pins s σ H D I h
 refine wpAny_Assign_stores (thE (he pins s σ H _ I h) fun v s1 x H1 I1 r1 q1 => ?_) hs hw
 rw [h1]
 exact thn (hg pins s1 σ H1 x v _ I1 r1 q1) fun _ s2 q => q
theorem Mr {i : Nat} {x : Str} {e : Expr} {te : TE} {pos' : Pos} (hN : X.N.Nodup) (hi : X.N[i]? = some x) (hx : Loc X.env.scope x) (he : PE X e te) (hs : swapsWith e (some (.Name x pos')) pos.line X.env = pure false := by rfl) (hf : X.fn x = true ∨ X.env.scope.names.lookup x = some .local := by first | exact .inl rfl | exact .inr rfl | assumption) :
  PS X (.Assign [.Name x pos'] e pos) (oZ te (iV i)) := by
 intro pins s σ H D I h
 refine wpAny_Assign_Name (thE (he pins s σ H _ I h) fun v s1 y H1 I1 r1 q1 => ?_) hs
 exact gq I1 hN hi hx r1 (fun s2 I2 => ⟨_, H1, I2, q1⟩) hf
def Li (i j : Nat) (ta : TA) : TS := fun D σ H => ta σ H fun vs H1 => ∃ v w, vs = [v, w] ∧ D.nx ((σ.set i (some v)).set j (some w)) H1
theorem Mt {i j : Nat} {x y : Str} {a b : Expr} {ta : TA} {px py pt : Pos} {kt k2 pt2} (hc : X.calm = true) (hN : X.N.Nodup) (hi : X.N[i]? = some x) (hj : X.N[j]? = some y) (hij : i ≠ j)
  (hx : X.env.scope.names.lookup x = some .local) (hy : X.env.scope.names.lookup y = some .local) (ha : PA X [a, b] ta)
  (hw : swappedStores [.Tuple [.Name x px, .Name y py] kt pt] (.Tuple [a, b] k2 pt2) X.env = pure (some [x, y]))
  (hs : swapsWithSole [.Tuple [.Name x px, .Name y py] kt pt] (.Tuple [a, b] k2 pt2) pos.line X.env = pure false := by rfl) :
  PS X (.Assign [.Tuple [.Name x px, .Name y py] kt pt] (.Tuple [a, b] k2 pt2) pos) (Li i j ta) := by
 intro pins s σ H D I h
 rw [exec_Assign_arm]
 refine wpAny_bind (wpAny_standAt ?_)
 rw [hs]
 refine wpAny_bind (wpAny_pure ?_)
 rw [if_neg (by decide)]
 refine wpAny_bind (Tuple_ (thA (ha _ pins s σ H _ I h) fun us s1 vs H1 I1 r1 q1 => ?_))
 obtain ⟨v, w, e1, q1⟩ := q1
 subst e1
 obtain ⟨u1, u2, rfl, rv, rw'⟩ : ∃ u1 u2, us = [u1, u2] ∧ RelV v u1 ∧ RelV w u2 := by
  cases r1 with
  | cons p q =>
   cases q with
   | cons p' q' =>
    cases q'
    exact ⟨_, _, rfl, p, p'⟩
 refine wpAny_newObj_type ?_ (by show 2 ≤ sizeLine; decide)
 have I2 : Inv X pins σ H1 { s1 with heap := s1.heap.push { cls := .type "tuple", data := .seq [u1, u2].toArray } } := I1.kept (t' := s1.toks) fun b o e => Heap.get?_push_of_some _ e
 rw [hw]
 refine wpAny_bind (wpAny_pure ?_)
 show wpAny (model X.prog X.w) X.A (do rule "assign.swapped-stores"; let items ← unpackItems (.ref s1.heap.objs.size) 2 none; assignInOrder [fun v => bindName X.env y v, fun v => bindName X.env x v] items.reverse; pure Flow.next) _ _ _
 refine wpAny_bind (wpAny_rule (wpAny_bind (unpackItems_tuple (items := #[u1, u2]) (I.ok.hd hc) (IsTup.new s1.heap _) fun h' hx' => ?_)))
 have I3 := I2.kept (h' := h') (t' := s1.toks) fun b o e => hx' b o (Nat.ne_of_lt (Heap.lt_size e)) e
 show wpAny _ _ (assignInOrder [fun v => bindName X.env y v, fun v => bindName X.env x v] [u2, u1] >>= fun _ => pure Flow.next) _ _ _
 refine wpAny_bind (assignInOrder_cons (wpAny_bindName (gq I3 hN hj (.inl hy) rw' (fun s2 I4 => ?_) (.inr hy))))
 refine assignInOrder_cons (wpAny_bindName (gq I4 hN hi (.inl hx) rv (fun s3 I5 => assignInOrder_nil (wpAny_pure ?_)) (.inr hx)))
 rw [List.set_comm _ _ (Ne.symm hij)] at I5
 exact ⟨_, H1, I5, q1⟩
def Qq (i : Nat) (te : TE) (ti : TIp) : TS := fun D σ H => ∃ x, σ[i]? = some (some x) ∧ te σ H fun y H1 => ti x y H1 fun z H2 => D.nx (σ.set i (some z)) H2
def ipI (f : Int → Int → Int) : TIp := fun x y H Q => ∃ i j, x = .int i ∧ y = .int j ∧ Q (.int (f i j)) H
def vA (c : TT) (tb : TS) : TS := fun D σ H => ∃ W : Nat → St → Hp → Prop, (∃ m, W m σ H) ∧ ∀ m σ H, W m σ H →
 c σ H fun b H1 => if b = true then ∃ N : St → Hp → Prop, (∀ σ' H', N σ' H' → ∃ m', m' < m ∧ W m' σ' H') ∧ tb { D with nx := N, ct := N, bk := D.nx } σ H1 else D.nx σ H1
theorem Dg {c : Expr} {body : List Stmt} {tc : TT} {tb : TS} (hp : PassesOwn (model X.prog X.w) X.A X.env X.xe) (hc : PT X c tc) (hb : PSs X body tb) : PS X (.While c body [] pos) (vA tc tb) := by
 intro pins s σ H D I h
 obtain ⟨W, ⟨m0, w0⟩, turn⟩ := h
 refine wpAny_While (codeAny_whileLoop (fun n s' => ∃ σ' H', Inv X pins σ' H' s' ∧ W n σ' H') ?_ m0 ⟨σ, H, I, w0⟩)
 rintro n s1 ⟨σ1, H1, I1, w1⟩
 refine wpAny_passesOwn hp (thT (hc pins s1 σ1 H1 _ I1 (turn n σ1 H1 w1)) fun b s2 H2 I2 q2 => ?_)
 cases b with
 | true =>
  obtain ⟨N, hN, q2⟩ := q2
  rw [if_pos rfl]
  refine wpAny_passesOwn hp (thn (hb pins s2 σ1 H2 _ I2 q2) fun f s3 q3 => ?_)
  cases f with
  | next =>
   obtain ⟨σ3, H3, I3, n3⟩ := q3
   obtain ⟨m', hm, w3⟩ := hN σ3 H3 n3
   exact ⟨m', hm, σ3, H3, I3, w3⟩
  | cont =>
   obtain ⟨σ3, H3, I3, n3⟩ := q3
   obtain ⟨m', hm, w3⟩ := hN σ3 H3 n3
   exact ⟨m', hm, σ3, H3, I3, w3⟩
  | brk => exact q3
  | ret v => exact q3
 | false =>
  rw [if_neg Bool.false_ne_true]
  exact wpAny_execs_nil ⟨σ1, H2, I2, q2⟩
end
structure It where
 go : Nat → Hp → Prop
 yld : Nat → Hp → V → Hp → Prop
 stop : Nat → Hp → Prop
def j9 (X : Cx) (pins : List (Addr × Obj)) (H : Hp) (b : Addr) : Prop :=
 H b = none ∧ b ≠ X.env.locals ∧ b ∉ X.fs ∧ (b ∈ X.ex ∨ X.s₀.heap.objs.size ≤ b) ∧ (∀ x c, X.env.cells.lookup x = some c → c ≠ b) ∧ ∀ p ∈ X.pn ++ pins, p.1 ≠ b
theorem Inv.zV {X : Cx} {pins : List (Addr × Obj)} {σ : St} {H H' : Hp} {s : Shared} {b : Addr} (I : Inv X pins σ H s) (hb : s.heap.objs.size ≤ b) (hn : H' b = none) : j9 X pins H' b := by
 refine ⟨hn, Nat.ne_of_gt (Nat.lt_of_lt_of_le I.lt hb), I.Ju hb, .inr (Nat.le_trans I.sz hb), fun x c e z => ?_, fun p hp z => ?_⟩
 ·obtain ⟨v, q⟩ := I.cell x c e
  exact absurd (Nat.lt_of_lt_of_le q.lt (by rw [z]; exact hb)) (Nat.lt_irrefl _)
 ·exact absurd (Nat.lt_of_lt_of_le (Heap.lt_size (I.pin p hp).1) (by rw [z]; exact hb)) (Nat.lt_irrefl _)
structure Turn (P : Program) (w : World) (K : PySem.W.Frag) (tg : Expr) (J : It) (fp : List Addr) (it : Addr) (tn : Nat → Heap → Prop) : Prop where
 mem : it ∈ fp
 obj : ∀ i h, tn i h → ∀ b ∈ fp, ∃ o, h.get? b = some o ∧ ∀ v, o.data ≠ .cell v
 keep : ∀ i h h', tn i h → (∀ b ∈ fp, ∀ o, h.get? b = some o → h'.get? b = some o) → tn i h'
 item : ∀ (X : Cx), X.prog = P → X.w = w → X.K = K → X.calm = true → ∀ (i : Nat) (pins : List (Addr × Obj)) (s : Shared) (σ : St) (H : Hp) (E : Value → Shared → Prop), Inv X pins σ H s → (∀ b ∈ fp, j9 X pins H b) → tn i s.heap → J.go i H →
  wpAny (model P w) X.A (pyNext (.ref it)) (fun r s1 => ∃ u, r = some u ∧
   wpAny (model P w) X.A (letOwnedTupleGo tg (.ref it) u) (fun _ s2 => ∃ x H', Inv X pins σ H' s2 ∧ RelV x u ∧ J.yld i H x H' ∧ tn (i + 1) s2.heap ∧ ∀ b ∈ fp, H' b = none) E s1) E s
 done : ∀ (X : Cx), X.prog = P → X.w = w → X.K = K → X.calm = true → ∀ (i : Nat) (pins : List (Addr × Obj)) (s : Shared) (σ : St) (H : Hp) (E : Value → Shared → Prop), Inv X pins σ H s → (∀ b ∈ fp, j9 X pins H b) → tn i s.heap → J.stop i H →
  wpAny (model P w) X.A (pyNext (.ref it)) (fun r s1 => r = none ∧ Inv X pins σ H s1) E s
 self : ∀ (A : Around) (i : Nat) (s : Shared) (Q : Value → Shared → Prop) (E : Value → Shared → Prop), tn i s.heap → Q (.ref it) s → wpAny (model P w) A (pyIter (.ref it)) Q E s
abbrev TI := St → Hp → (It → Hp → Prop) → Prop
def PIE (X : Cx) (pins : List (Addr × Obj)) (σ : St) (tg : Expr) (R : It → Hp → Prop) (itv : Value) (s2 : Shared) : Prop :=
 ∃ (it : Addr) (fp : List Addr) (tn : Nat → Heap → Prop) (J : It) (H' : Hp), itv = .ref it ∧ Inv X pins σ H' s2 ∧ Turn X.prog X.w X.K tg J fp it tn ∧ tn 0 s2.heap ∧ (∀ b ∈ fp, j9 X pins H' b) ∧ R J H'
def PI (X : Cx) (tg iter : Expr) (wi : TI) : Prop :=
 ∀ (pins : List (Addr × Obj)) (s : Shared) (σ : St) (H : Hp) (R : It → Hp → Prop), Inv X pins σ H s → wi σ H R →
  wpAny (model X.prog X.w) X.A (eval iter X.env) (fun v s1 => wpAny (model X.prog X.w) X.A (pyIter v) (PIE X pins σ tg R) X.xe s1) X.xe s
theorem Fl {M : Model} {A : Around} {E : Value → Shared → Prop} {s : Shared} {tg : Expr} {it : Addr} {u : Value} {o : Obj} {n : String} {vs : Array Value} {Q : Unit → Shared → Prop} (ho : s.heap.get? it = some o) (hc : o.cls = .type n) (hd : o.data = .fields vs)
  (hn : ["enumerate", "zip", "dict_itemiterator", "dict_reverseitemiterator", "odict_iterator", "itertools.zip_longest", "itertools.pairwise"].contains n = false) (hQ : Q () s) : wpAny M A (letOwnedTupleGo tg (.ref it) u) Q E s := by
 unfold letOwnedTupleGo
 cases tg <;> first
  | exact wpAny_pure hQ
  | (cases u <;> first
    | exact wpAny_pure hQ
    | (refine wpAny_bind (wpAny_load ho ?_)
       rw [hc, hd]
       show wpAny M A (if (["enumerate", "zip", "dict_itemiterator", "dict_reverseitemiterator", "odict_iterator", "itertools.zip_longest", "itertools.pairwise"].contains n && vs[0]? == some (rawInt _)) = true then _ else _) Q E s
       rw [if_neg (by intro h; rw [hn, Bool.false_and] at h; cases h)]
       exact wpAny_pure hQ))
def Itl (K : PySem.W.Frag) (a : Addr) : It :=
 ⟨fun i H => ∃ xs x, SqL K H a xs ∧ xs[i]? = some x, fun i H x H' => H' = H ∧ ∀ xs, SqL K H a xs → xs[i]? = some x, fun i H => ∃ xs, SqL K H a xs ∧ xs.length ≤ i⟩
def Itt (K : PySem.W.Frag) (a : Addr) : It :=
 ⟨fun i H => ∃ xs x, SqT K H a xs ∧ xs[i]? = some x, fun i H x H' => H' = H ∧ ∀ xs, SqT K H a xs → xs[i]? = some x, fun i H => ∃ xs, SqT K H a xs ∧ xs.length ≤ i⟩
def Itr (lo : Int) (n : Nat) : It := ⟨fun i _ => i < n, fun i H x H' => H' = H ∧ x = .int (lo + i), fun i _ => n ≤ i⟩
theorem yO {P : Program} {w : World} {K : PySem.W.Frag} {tg : Expr} (a it : Addr) : Turn P w K tg (Itl K a) [it] it (fun i h => h.IsListIter it a i) where
 mem := by simp
 obj := fun i h st b hb => by
  have e : b = it := by simpa using hb
  subst e
  obtain ⟨o, e, c, d⟩ := st
  exact ⟨o, e, fun v z => by rw [d] at z; cases z⟩
 keep := fun i h h' st k => st.at fun o e => k it (by simp) o e
 item := by
  intro X hP hw hK hc i pins s σ H E I hf st hg
  subst hP hw hK
  obtain ⟨xs, x, hq, hx⟩ := hg
  obtain ⟨its, rv, p, hz⟩ := I.list hq
  obtain ⟨u, hu, ru⟩ := rv.get hx
  obtain ⟨f0, f1, f2, f3, f4, f5⟩ := hf it (by simp)
  refine wpAny_pyNext_list_item st p.isList (x := u) (by simpa using hu) fun h' st' sb => ?_
  have I1 : Inv X pins σ H { s with heap := h' } := I.turned (t' := s.toks) (fun b o hb e => (sb.2 b hb).trans e) f0 f1 f3 f4 f5
  obtain ⟨o, e, c, d⟩ := id st'
  exact ⟨u, rfl, Fl (s := { s with heap := h' }) e c d (by decide) ⟨x, H, I1, ru, ⟨rfl, fun ys hy => by rw [I.lH hy hq]; exact hx⟩, st', fun b hb => (hf b hb).1⟩⟩
 done := by
  intro X hP hw hK hc i pins s σ H E I hf st hg
  subst hP hw hK
  obtain ⟨xs, hq, hx⟩ := hg
  obtain ⟨its, rv, p, hz⟩ := I.list hq
  obtain ⟨f0, f1, f2, f3, f4, f5⟩ := hf it (by simp)
  have hl := rv.length
  exact wpAny_pyNext_list_end (I.ok.hd hc) st p.isList (by simp; omega) fun h' eb => ⟨rfl, I.turned (t' := s.toks) (fun b o hb e => eb b o hb e) f0 f1 f3 f4 f5⟩
 self := fun _ _ _ _ _ st h => wpAny_pyIter_listiter st h
theorem vq {P : Program} {w : World} {K : PySem.W.Frag} {tg : Expr} (a it : Addr) : Turn P w K tg (Itt K a) [it] it (fun i h => h.IsTupleIter it a i) where
 mem := by simp
 obj := fun i h st b hb => by
  have e : b = it := by simpa using hb
  subst e
  obtain ⟨o, e, c, d⟩ := st
  exact ⟨o, e, fun v z => by rw [d] at z; cases z⟩
 keep := fun i h h' st k => st.at fun o e => k it (by simp) o e
 item := by
  intro X hP hw hK hc i pins s σ H E I hf st hg
  subst hP hw hK
  obtain ⟨xs, x, hq, hx⟩ := hg
  obtain ⟨its, rv, p, hz⟩ := I.tuple hq
  obtain ⟨u, hu, ru⟩ := rv.get hx
  obtain ⟨f0, f1, f2, f3, f4, f5⟩ := hf it (by simp)
  refine wpAny_pyNext_tuple_item st (show s.heap.IsTuple a its.toArray from p) (x := u) (by simpa using hu) fun h' st' sb => ?_
  have I1 : Inv X pins σ H { s with heap := h' } := I.turned (t' := s.toks) (fun b o hb e => (sb.2 b hb).trans e) f0 f1 f3 f4 f5
  obtain ⟨o, e, c, d⟩ := id st'
  exact ⟨u, rfl, Fl (s := { s with heap := h' }) e c d (by decide) ⟨x, H, I1, ru, ⟨rfl, fun ys hy => by rw [I.jG hy hq]; exact hx⟩, st', fun b hb => (hf b hb).1⟩⟩
 done := by
  intro X hP hw hK hc i pins s σ H E I hf st hg
  subst hP hw hK
  obtain ⟨xs, hq, hx⟩ := hg
  obtain ⟨its, rv, p, hz⟩ := I.tuple hq
  obtain ⟨f0, f1, f2, f3, f4, f5⟩ := hf it (by simp)
  have hl := rv.length
  exact wpAny_pyNext_tuple_end (I.ok.hd hc) st (show s.heap.IsTuple a its.toArray from p) (by simp; omega) fun h' eb => ⟨rfl, I.turned (t' := s.toks) (fun b o hb e => eb b o hb e) f0 f1 f3 f4 f5⟩
 self := fun _ _ _ _ _ st h => wpAny_pyIter_tupleiter st h
theorem vy {P : Program} {w : World} {K : PySem.W.Frag} {tg : Expr} (it : Addr) (lo : Int) (n : Nat) : Turn P w K tg (Itr lo n) [it] it (fun i h => IsRangeIter h it (lo + (i : Nat) * 1) ((n : Int) - (i : Nat)) 1) where
 mem := by simp
 obj := fun i h st b hb => by
  have e : b = it := by simpa using hb
  subst e
  exact ⟨_, st, fun v z => by
   have z' : Data.fields _ = Data.cell v := z
   cases z'⟩
 keep := fun i h h' st k => k it (by simp) _ st
 item := by
  intro X hP hw hK hc i pins s σ H E I hf st hg
  subst hP hw hK
  obtain ⟨f0, f1, f2, f3, f4, f5⟩ := hf it (by simp)
  have W := Walks.range (prog := X.prog) (w := X.w) (I.ok.hd hc) it lo 1 n
  refine W.item i s _ _ hg st fun v h' tk hv st' kk => ?_
  obtain ⟨t, rfl⟩ := hv
  have I1 : Inv X pins σ H { s with heap := h', toks := tk } := I.turned (fun b o hb e => kk b o (by simpa using hb) e) f0 f1 f3 f4 f5
  refine ⟨_, rfl, Fl (s := { s with heap := h', toks := tk }) (n := "range_iterator") st' rfl rfl (by decide) ⟨.int (lo + i), H, I1, ⟨t, ?_⟩, ⟨rfl, rfl⟩, st', fun b hb => (hf b hb).1⟩⟩
  rw [Int.mul_one]
 done := by
  intro X hP hw hK hc i pins s σ H E I hf st hg
  subst hP hw hK
  obtain ⟨f0, f1, f2, f3, f4, f5⟩ := hf it (by simp)
  exact wpAny_pyNext_range_end (I.ok.hd hc) st (by have : n ≤ i := hg; omega) fun h' eb => ⟨rfl, I.turned (t' := s.toks) (fun b o hb e => eb b o hb e) f0 f1 f3 f4 f5⟩
 self := fun _ _ _ _ _ st h => wpAny_pyIter_rangeiter st h
section
variable {X : Cx} {tg : Expr}
theorem Cp {pins : List (Addr × Obj)} {σ : St} {H : Hp} {s : Shared} {R : It → Hp → Prop} {E : Value → Shared → Prop} {lo hi : Int} {t u v : Tok} {tk : Nat} (I : Inv X pins σ H s) (h1 : -(2 ^ 62) ≤ lo) (h2 : lo < 2 ^ 62) (h3 : -(2 ^ 62) ≤ hi) (h4 : hi < 2 ^ 62)
  (q : R (Itr lo (hi - lo).toNat) H) : wpAny (model X.prog X.w) X.A (pyIter (.ref s.heap.objs.size)) (PIE X pins σ tg R) E { s with heap := s.heap.push { cls := .type "range", data := .fields #[.int lo t, .int hi u, .int 1 v] }, toks := tk } := by
 refine wpAny_pyIter_range (IsRange.new ..) (small_one h1 h2 h3 h4) ?_
 have I1 : Inv X pins σ H { s with heap := s.heap.push { cls := .type "range", data := .fields #[.int lo t, .int hi u, .int 1 v] }, toks := tk } := I.kept fun b o e => Heap.get?_push_of_some _ e
 refine ⟨(s.heap.push { cls := .type "range", data := .fields #[.int lo t, .int hi u, .int 1 v] }).objs.size, [(s.heap.push { cls := .type "range", data := .fields #[.int lo t, .int hi u, .int 1 v] }).objs.size], _, _, H, rfl,
  I1.kept (t' := tk) fun b o e => Heap.get?_push_of_some _ e, vy _ lo (hi - lo).toNat, ?_, fun b hb => ?_, q⟩
 ·have e1 : lo + ((0 : Nat) : Int) * 1 = lo := by simp
  have e2 : (((hi - lo).toNat : Nat) : Int) - ((0 : Nat) : Int) = Builtin.Range.rangeSize lo hi 1 := by rw [rangeSize_one]; split <;> omega
  show IsRangeIter _ _ (lo + ((0 : Nat) : Int) * 1) ((((hi - lo).toNat : Nat) : Int) - ((0 : Nat) : Int)) 1
  rw [e1, e2]
  exact Heap.get?_push_size _ rfl
 ·have e : b = (s.heap.push { cls := .type "range", data := .fields #[.int lo t, .int hi u, .int 1 v] }).objs.size := by simpa using hb
  subst e
  exact I1.zV (Nat.le_refl _) (I1.hok.fresh (Nat.le_refl _))
def jA (ta : TA) : TI := fun σ H R => ta σ H fun vs H1 => ∃ j : Int, vs = [.int j] ∧ -(2 ^ 62) ≤ j ∧ j < 2 ^ 62 ∧ R (Itr 0 j.toNat) H1
theorem zq {a : Expr} {ta : TA} {p pos : Pos} (hg : Gl X "range") (hm : X.mg "range" = none) (ha : PA X [a] ta) (hs : starEach [a] X.env = [(false, eval a X.env)] := by rfl) : PI X tg (.Call (.Name "range" p) [a] [] pos) (jA ta) := by
 intro pins s σ H R I h
 refine Call_ (iC I hg hm boot_range (PyProof.Rows.callWith_type1 (thA (ha pos pins s σ H _ I h) fun us s1 vs H1 I1 r1 q1 => ?_) hs rfl))
 obtain ⟨j, e, q1, q2, q⟩ := q1
 subst e
 cases r1 with
 | cons r rr =>
  cases rr
  obtain ⟨t, rfl⟩ := r
  exact call_range_1 (Cp I1 (by omega) (by omega) q1 q2 (by simpa using q))
def GQ (wi : TI) (g : TG) (tb : TS) : TS := fun D σ H => wi σ H fun J H1 => ∃ W : Nat → Nat → St → Hp → Prop, (∃ m, W 0 m σ H1) ∧ ∀ i m σ H, W i m σ H →
 (J.stop i H ∧ D.nx σ H) ∨ (J.go i H ∧ ∃ N : St → Hp → Prop, (∀ σ' H', N σ' H' → ∃ m', m' < m ∧ W (i + 1) m' σ' H') ∧ ∀ x H', J.yld i H x H' → g x σ H' fun σ2 H2 => tb { D with nx := N, ct := N, bk := D.nx } σ2 H2)
def dO (fp : List Addr) (h : Heap) : List (Addr × Obj) := fp.filterMap fun b => (h.get? b).map fun o => (b, o)
theorem fD {fp : List Addr} {h : Heap} {b : Addr} {o : Obj} (hb : b ∈ fp) (e : h.get? b = some o) : (b, o) ∈ dO fp h := List.mem_filterMap.mpr ⟨b, hb, by rw [e]; rfl⟩
theorem jM {fp : List Addr} {h : Heap} {p : Addr × Obj} (hp : p ∈ dO fp h) : p.1 ∈ fp ∧ h.get? p.1 = some p.2 := by
 obtain ⟨b, hb, e⟩ := List.mem_filterMap.mp hp
 cases q : h.get? b with
 | none => rw [q] at e; cases e
 | some o =>
  rw [q] at e
  have e' : (b, o) = p := Option.some.inj e
  subst e'
  exact ⟨hb, q⟩
theorem Inv.pinned {pins : List (Addr × Obj)} {σ : St} {H : Hp} {s : Shared} {fp : List Addr} (I : Inv X pins σ H s) (hf : ∀ b ∈ fp, j9 X pins H b) (ho : ∀ b ∈ fp, ∃ o, s.heap.get? b = some o ∧ ∀ v, o.data ≠ .cell v) : Inv X (pins ++ dO fp s.heap) σ H s :=
 I.gW fun p hp => (List.mem_append.mp hp).elim (fun z => I.pin p (List.mem_append_right _ z)) fun z => by
  obtain ⟨hb, e⟩ := jM z
  obtain ⟨f0, f1, f2, _⟩ := hf p.1 hb
  obtain ⟨o, e', d⟩ := ho p.1 hb
  rw [e] at e'; cases e'
  exact ⟨e, f0, f1, f2, d⟩
theorem Inv.gn {pins pl : List (Addr × Obj)} {σ : St} {H : Hp} {s : Shared} (I : Inv X (pins ++ pl) σ H s) : Inv X pins σ H s := I.gW fun p hp => I.pin p (List.mem_append_right _ (List.mem_append_left _ hp))
theorem Mu {iter : Expr} {body : List Stmt} {wi : TI} {g : TG} {tb : TS} {pos : Pos} (hp : PassesOwn (model X.prog X.w) X.A X.env X.xe) (hc : X.calm = true) (hi : PI X tg iter wi) (hg : PG X tg g) (hb : PSs X body tb)
  (hs : ∀ x, foldedSetIterable iter X.env x = pure x := by intro _; rfl) : PS X (.For tg iter body [] pos) (GQ wi g tb) := by
 intro pins s σ H D I h
 refine wpAny_For (thn (hi pins s σ H _ I h) fun v s1 h1 => thn h1 fun itv s2 h2 => ?_) hs
 obtain ⟨it, fp, tn, J, H2, e, I2, T, st2, f2, W, ⟨m0, w0⟩, turn⟩ := h2
 subst e
 -- what stays true of the iterator's objects through the loop
 have stat : ∀ {H' : Hp}, (∀ b ∈ fp, H' b = none) → ∀ b ∈ fp, j9 X pins H' b := fun hn b hb => ⟨hn b hb, (f2 b hb).2⟩
 refine codeAny_forLoop_any (fun n s' => ∃ i σ' H', Inv X pins σ' H' s' ∧ tn i s'.heap ∧ (∀ b ∈ fp, H' b = none) ∧ W i n σ' H') ?_ m0 ⟨0, σ, H2, I2, st2, fun b hb => (f2 b hb).1, w0⟩
 rintro n s3 ⟨i, σ3, H3, I3, st3, fr3, w3⟩
 rcases turn i n σ3 H3 w3 with ⟨stop, qn⟩ | ⟨go, N, hN, step⟩
 ·refine wpAny_passesOwn hp (thn (T.done X rfl rfl rfl hc i pins s3 σ3 H3 X.xe I3 (stat fr3) st3 stop) fun r s4 ⟨hr, I4⟩ => ?_)
  subst hr
  exact wpAny_execs_nil ⟨σ3, H3, I4, qn⟩
 ·refine wpAny_passesOwn hp (thn (T.item X rfl rfl rfl hc i pins s3 σ3 H3 X.xe I3 (stat fr3) st3 go) fun r s4 ⟨u, hr, h4⟩ => ?_)
  subst hr
  refine wpAny_passesOwn hp (thn h4 fun _ s5 ⟨x, H5, I5, r5, y5, st5, fr5⟩ => ?_)
  have I5' := I5.pinned (stat fr5) (T.obj _ _ st5)
  refine wpAny_passesOwn hp (thn (hg _ s5 σ3 H5 x u _ I5' r5 (step x H5 y5)) fun _ s6 ⟨σ6, H6, I6, q6⟩ => ?_)
  refine wpAny_passesOwn hp (thn (hb _ s6 σ6 H6 _ I6 q6) fun f s7 q7 => ?_)
  have again : ∀ {σ7 : St} {H7 : Hp}, Inv X (pins ++ dO fp s5.heap) σ7 H7 s7 → N σ7 H7 → ∃ m, m < n ∧ ∃ i σ' H', Inv X pins σ' H' s7 ∧ tn i s7.heap ∧ (∀ b ∈ fp, H' b = none) ∧ W i m σ' H' := fun {σ7 H7} I7 n7 => by
   obtain ⟨m', hm, w7⟩ := hN σ7 H7 n7
   refine ⟨m', hm, i + 1, σ7, H7, I7.gn, T.keep _ _ _ st5 fun b hb o e => (I7.pin (b, o) (List.mem_append_right _ (List.mem_append_right _ (fD hb e)))).1, fun b hb => ?_, w7⟩
   obtain ⟨o, e, d⟩ := T.obj _ _ st5 b hb
   exact (I7.pin (b, o) (List.mem_append_right _ (List.mem_append_right _ (fD hb e)))).2.1
  cases f with
  | next => obtain ⟨σ7, H7, I7, n7⟩ := q7; exact again I7 n7
  | cont => obtain ⟨σ7, H7, I7, n7⟩ := q7; exact again I7 n7
  | brk => obtain ⟨σ7, H7, I7, q7⟩ := q7; exact ⟨σ7, H7, I7.gn, q7⟩
  | ret v => obtain ⟨x7, σ7, H7, I7, r7, q7⟩ := q7; exact ⟨x7, σ7, H7, I7.gn, r7, q7⟩
end
theorem Fw {K : PySem.W.Frag} {a : Addr} {xs : List V} {g : TG} {tb : TS} {D : Ends} {σ : St} {H : Hp} (Pv : Nat → St → Hp → Prop) (h0 : Pv 0 σ H) (hl : ∀ i σ H, i ≤ xs.length → Pv i σ H → SqL K H a xs)
  (hs : ∀ i x σ H, xs[i]? = some x → Pv i σ H → g x σ H fun σ2 H2 => tb { D with nx := Pv (i + 1), ct := Pv (i + 1), bk := D.nx } σ2 H2) (hd : ∀ σ H, Pv xs.length σ H → D.nx σ H) :
  ∃ W : Nat → Nat → St → Hp → Prop, (∃ m, W 0 m σ H) ∧ ∀ i m σ H, W i m σ H →
   ((Itl K a).stop i H ∧ D.nx σ H) ∨ ((Itl K a).go i H ∧ ∃ N : St → Hp → Prop, (∀ σ' H', N σ' H' → ∃ m', m' < m ∧ W (i + 1) m' σ' H') ∧ ∀ x H', (Itl K a).yld i H x H' → g x σ H' fun σ2 H2 => tb { D with nx := N, ct := N, bk := D.nx } σ2 H2) := by
 refine ⟨fun i m σ H => m = xs.length - i ∧ i ≤ xs.length ∧ Pv i σ H, ⟨xs.length, by simp, Nat.zero_le _, h0⟩, ?_⟩
 rintro i m σ H ⟨rfl, hi, p⟩
 have q := hl i σ H hi p
 by_cases hlt : i < xs.length
 ·refine .inr ⟨⟨xs, xs[i], q, by simp [hlt]⟩, Pv (i + 1), fun σ' H' p' => ⟨xs.length - (i + 1), by omega, rfl, hlt, p'⟩, fun x H' y => ?_⟩
  obtain ⟨e, y⟩ := y
  subst e
  exact hs i x σ _ (y xs q) p
 ·have e : i = xs.length := by omega
  subst e
  exact .inl ⟨⟨xs, q, Nat.le_refl _⟩, hd σ H p⟩
theorem zW {lo : Int} {n : Nat} {g : TG} {tb : TS} {D : Ends} {σ : St} {H : Hp} (Pv : Nat → St → Hp → Prop) (h0 : Pv 0 σ H)
  (hs : ∀ i σ H, i < n → Pv i σ H → g (.int (lo + i)) σ H fun σ2 H2 => tb { D with nx := Pv (i + 1), ct := Pv (i + 1), bk := D.nx } σ2 H2) (hd : ∀ σ H, Pv n σ H → D.nx σ H) :
  ∃ W : Nat → Nat → St → Hp → Prop, (∃ m, W 0 m σ H) ∧ ∀ i m σ H, W i m σ H →
   ((Itr lo n).stop i H ∧ D.nx σ H) ∨ ((Itr lo n).go i H ∧ ∃ N : St → Hp → Prop, (∀ σ' H', N σ' H' → ∃ m', m' < m ∧ W (i + 1) m' σ' H') ∧ ∀ x H', (Itr lo n).yld i H x H' → g x σ H' fun σ2 H2 => tb { D with nx := N, ct := N, bk := D.nx } σ2 H2) := by
 refine ⟨fun i m σ H => m = n - i ∧ i ≤ n ∧ Pv i σ H, ⟨n, by simp, Nat.zero_le _, h0⟩, ?_⟩
 rintro i m σ H ⟨rfl, hi, p⟩
 by_cases hlt : i < n
 ·refine .inr ⟨hlt, Pv (i + 1), fun σ' H' p' => ⟨n - (i + 1), by omega, rfl, hlt, p'⟩, fun x H' y => ?_⟩
  obtain ⟨e, y⟩ := y
  subst e y
  exact hs i σ _ hlt p
 ·have e : i = n := by omega
  subst e
  exact .inl ⟨Nat.le_refl _, hd σ H p⟩
abbrev R2 := V → V → Hp → VK → Prop
def OpR (X : Cx) (f : Value → Value → Sem Value) (r : R2) : Prop :=
 ∀ (pins : List (Addr × Obj)) (s : Shared) (σ : St) (H : Hp) (x y : V) (v u : Value) (Q : VK), Inv X pins σ H s → RelV x v → RelV y u → r x y H Q →
  wpAny (model X.prog X.w) X.A (f v u) (EP X pins σ Q) X.xe s
def UnR (X : Cx) (f : Value → Sem Value) (r : V → Hp → VK → Prop) : Prop :=
 ∀ (pins : List (Addr × Obj)) (s : Shared) (σ : St) (H : Hp) (x : V) (v : Value) (Q : VK), Inv X pins σ H s → RelV x v → r x H Q →
  wpAny (model X.prog X.w) X.A (f v) (EP X pins σ Q) X.xe s
def cO (X : Cx) (f : Value) (r : List V → Hp → VK → Prop) : Prop :=
 ∀ (pins : List (Addr × Obj)) (s : Shared) (σ : St) (H : Hp) (xs : List V) (us : List Value) (Q : VK), Inv X pins σ H s → Vals xs us → r xs H Q →
  wpAny (model X.prog X.w) X.A (call f us) (EP X pins σ Q) X.xe s
def tOp (r : R2) (ta tb : TE) : TE := fun σ H Q => ta σ H fun x H1 => tb σ H1 fun y H2 => r x y H2 Q
def tUn (r : V → Hp → VK → Prop) (ta : TE) : TE := fun σ H Q => ta σ H fun x H1 => r x H1 Q
def rI (C : Int → Int → Prop) (g : Int → Int → V) : R2 := fun x y H Q => ∃ i j, x = .int i ∧ y = .int j ∧ C i j ∧ Q (g i j) H
def rI0 (g : Int → Int → V) : R2 := fun x y H Q => ∃ i j, x = .int i ∧ y = .int j ∧ Q (g i j) H
def rU (g : Int → V) : V → Hp → VK → Prop := fun x H Q => ∃ i, x = .int i ∧ Q (g i) H
section
variable {X : Cx} {a b c : Expr} {ta tb tc : TE} {pos : Pos}
theorem Ow (ha : PE X a ta) (hb : PE X b tb) {pins : List (Addr × Obj)} {s : Shared} {σ : St} {H : Hp} {R : V → V → Hp → Prop} (I : Inv X pins σ H s)
  (h : ta σ H fun x H1 => tb σ H1 fun y H2 => R x y H2) {Q : Value → Shared → Prop} {f : Value → Value → Sem Value}
  (hf : ∀ v u s2 x y H2, Inv X pins σ H2 s2 → RelV x v → RelV y u → R x y H2 → wpAny (model X.prog X.w) X.A (f v u) Q X.xe s2) :
  wpAny (model X.prog X.w) X.A (eval a X.env) (fun v s₁ => wpAny (model X.prog X.w) X.A (eval b X.env) (fun u s₂ => wpAny (model X.prog X.w) X.A (f v u) Q X.xe s₂) X.xe s₁) X.xe s := by
 refine thE (ha pins s σ H _ I h) fun v s1 x H1 I1 r1 q1 => ?_
 refine thE (hb pins s1 σ H1 _ I1 q1) fun u s2 y H2 I2 r2 q2 => ?_
 exact hf v u s2 x y H2 I2 r1 r2 q2
theorem Pj {op : Operator} {r : R2} (ho : OpR X (binaryOp op) r) (ha : PE X a ta) (hb : PE X b tb) : PE X (.BinOp a op b pos) (tOp r ta tb) := by
 intro pins s σ H Q I h
 exact wpAny_BinOp (Ow ha hb I h fun v u s2 x y H2 I2 rx ry q => ho pins s2 σ H2 x y v u Q I2 rx ry q)
theorem Ph {op : UnaryOp} {r : V → Hp → VK → Prop} (ho : UnR X (unaryOp op) r) (ha : PE X a ta) : PE X (.UnaryOp op a pos) (tUn r ta) := by
 intro pins s σ H Q I h
 exact UnaryOp_ (thE (ha pins s σ H _ I h) fun v s1 x H1 I1 r1 q1 => ho pins s1 σ H1 x v Q I1 r1 q1)
theorem opI {f : Value → Value → Sem Value} {C : Int → Int → Prop} {g : Int → Int → Int}
  (rule : ∀ (i j : Int) (t u : Tok) (s : Shared) (Q : Value → Shared → Prop) (E : Value → Shared → Prop), C i j → Q (.int (g i j) s.toks) { s with toks := s.toks + 1 } → wpAny (model X.prog X.w) X.A (f (.int i t) (.int j u)) Q E s) :
  OpR X f (rI C fun i j => .int (g i j)) := by
 intro pins s σ H x y v u Q I rx ry h
 obtain ⟨i, j, rfl, rfl, hc, q⟩ := h
 obtain ⟨t, rfl⟩ := rx
 obtain ⟨t', rfl⟩ := ry
 exact rule i j t t' s _ _ hc ⟨.int (g i j), H, I.tok _, ⟨_, rfl⟩, q⟩
theorem Nh {f : Value → Value → Sem Value} {g : Int → Int → Int}
  (rule : ∀ (i j : Int) (t u : Tok) (s : Shared) (Q : Value → Shared → Prop) (E : Value → Shared → Prop), Q (.int (g i j) s.toks) { s with toks := s.toks + 1 } → wpAny (model X.prog X.w) X.A (f (.int i t) (.int j u)) Q E s) :
  OpR X f (rI0 fun i j => .int (g i j)) := by
 intro pins s σ H x y v u Q I rx ry h
 obtain ⟨i, j, rfl, rfl, q⟩ := h
 obtain ⟨t, rfl⟩ := rx
 obtain ⟨t', rfl⟩ := ry
 exact rule i j t t' s _ _ ⟨.int (g i j), H, I.tok _, ⟨_, rfl⟩, q⟩
theorem Jk {f : Value → Value → Sem Value} {g : Int → Int → Bool}
  (rule : ∀ (i j : Int) (t u : Tok) (s : Shared) (Q : Value → Shared → Prop) (E : Value → Shared → Prop), Q (.bool (g i j)) s → wpAny (model X.prog X.w) X.A (f (.int i t) (.int j u)) Q E s) :
  OpR X f (rI0 fun i j => .bl (g i j)) := by
 intro pins s σ H x y v u Q I rx ry h
 obtain ⟨i, j, rfl, rfl, q⟩ := h
 obtain ⟨t, rfl⟩ := rx
 obtain ⟨t', rfl⟩ := ry
 exact rule i j t t' s _ _ ⟨.bl (g i j), H, I, rfl, q⟩
def KQ (i j : Int) : Prop := 0 ≤ j ∧ j ≤ 1000000 ∧ i.natAbs < 2 ^ 64
def Aw (i j : Int) : Prop := (-(2 ^ 64) < i ∧ i < 2 ^ 64) ∨ (-(2 ^ 64) < j ∧ j < 2 ^ 64)
theorem Aw.ok {i j : Int} (h : Aw i j) : IntMulOk i j := by
 rcases h with ⟨h1, h2⟩ | ⟨h1, h2⟩
 ·exact .of_left (intBits_le_64 h1 h2)
 ·exact .of_right (intBits_le_64 h1 h2)
theorem vp (k : Nat) : (0 : Int) ≤ 2 ^ k := by
 rw [two_pow_cast]
 exact Int.natCast_nonneg _
theorem Ng : OpR X (binaryOp .Add) (rI0 fun i j => .int (i + j)) := Nh fun _ _ _ _ _ _ _ q => add_int q
theorem dh : OpR X (binaryOp .Sub) (rI0 fun i j => .int (i - j)) := Nh fun _ _ _ _ _ _ _ q => sub_int q
theorem M9 : OpR X (binaryOp .Mult) (rI Aw fun i j => .int (i * j)) := opI fun _ _ _ _ _ _ _ hc q => mul_int q hc.ok
theorem dj : OpR X (binaryOp .Mod) (rI (fun _ j => 0 < j) fun i j => .int (i % j)) := opI fun i j _ _ _ _ _ hc q => by
 have h1 : (0 : Int) < j := hc
 exact mod_int' (by omega) (by rw [Int.fmod_eq_emod_of_nonneg i (by omega)]; exact q)
theorem Ds : OpR X (binaryOp .Pow) (rI KQ fun i j => .int (i ^ j.toNat)) := opI fun _ _ _ _ _ _ _ hc q => pow_int_small hc.1 hc.2.1 hc.2.2 q
theorem cM : OpR X (binaryOp .LShift) (rI KQ fun i j => .int (i * 2 ^ j.toNat)) := opI fun _ _ _ _ _ _ _ hc q => lshift_int_small hc.1 hc.2.1 hc.2.2 q
theorem rQ : OpR X (binaryOp .RShift) (rI (fun _ j => 0 ≤ j) fun i j => .int (i / 2 ^ j.toNat)) := opI fun i j _ _ _ _ _ hc q =>
 rshift_int hc (by rw [Int.fdiv_eq_ediv_of_nonneg i (vp _)]; exact q)
theorem jx : OpR X (binaryOp .BitAnd) (rI0 fun i j => .int (Builtin.bitAnd i j)) := Nh fun _ _ _ _ _ _ _ q => and_int q
theorem unI {f : Value → Sem Value} {g : Int → Int}
  (rule : ∀ (i : Int) (t : Tok) (s : Shared) (Q : Value → Shared → Prop) (E : Value → Shared → Prop), Q (.int (g i) s.toks) { s with toks := s.toks + 1 } → wpAny (model X.prog X.w) X.A (f (.int i t)) Q E s) :
  UnR X f (rU fun i => .int (g i)) := by
 intro pins s σ H x v Q I rx h
 obtain ⟨i, rfl, q⟩ := h
 obtain ⟨t, rfl⟩ := rx
 exact rule i t s _ _ ⟨.int (g i), H, I.tok _, ⟨_, rfl⟩, q⟩
theorem nP : UnR X (unaryOp .USub) (rU fun i => .int (-i)) := unI fun _ _ _ _ _ q => neg_int q
end
def mZ : V → V → Bool
 | .non, .non => true | .non, .int _ => true | .int _, .non => true | .non, .bl _ => true | .bl _, .non => true | .non, .str _ => true | .str _, .non => true
 | .int _, .int _ => true | .bl _, .bl _ => true | .str _, .str _ => true | .byt _, .byt _ => true
 | .int _, .str _ => true | .str _, .int _ => true | .bl _, .str _ => true | .str _, .bl _ => true
 | _, _ => false
def rEq : R2 := fun x y H Q => mZ x y = true ∧ Q (.bl (decide (x = y))) H
def rNe : R2 := fun x y H Q => mZ x y = true ∧ Q (.bl (!decide (x = y))) H
theorem yE {i j : Int} : decide (V.int i = V.int j) = (i == j) := by
 rw [Bool.eq_iff_iff]
 simp
theorem FP {i j : Bool} : decide (V.bl i = V.bl j) = (i == j) := by
 rw [Bool.eq_iff_iff]
 simp
theorem yD {i j : Str} : decide (V.str i = V.str j) = (i == j) := by
 rw [Bool.eq_iff_iff]
 simp
theorem yF {i j : Array UInt8} : decide (V.byt i = V.byt j) = (i.toList == j.toList) := by
 rw [Bool.eq_iff_iff]
 cases i
 cases j
 simp
section
variable {X : Cx} {a b c : Expr} {ta tb tc : TE} {pos : Pos}
theorem bK {pins : List (Addr × Obj)} {σ : St} {H : Hp} {s : Shared} {Q : VK} {k k' : Bool} (I : Inv X pins σ H s) (q : Q (.bl k) H) (e : k = k') : EP X pins σ Q (.bool k') s := by
 subst e
 exact ⟨.bl k, H, I, rfl, q⟩
theorem PN : OpR X (compareOp .Eq) rEq := by
 intro pins s σ H x y v u Q I rx ry h
 obtain ⟨hs, q⟩ := h
 cases x with
 | non =>
  cases rx
  cases y with
  | non => cases ry; exact PySem.EqNone.eq_none_none (bK I q (by simp))
  | bl j => cases ry; exact PySem.EqNone.eq_none_bool (bK I q (by simp))
  | int j => obtain ⟨t', rfl⟩ := ry; exact PySem.EqNone.eq_none_int (bK I q (by simp))
  | str j => obtain ⟨t', rfl⟩ := ry; exact PySem.EqNone.eq_none_str (bK I q (by simp))
  | _ => exact absurd (show false = true from hs) Bool.false_ne_true
 | bl i =>
  cases rx
  cases y with
  | non => cases ry; exact PySem.EqNone.eq_bool_none (bK I q (by simp))
  | bl j => cases ry; exact eq_bool (bK I q FP)
  | str j => obtain ⟨t', rfl⟩ := ry; exact PySem.EqMixed.eq_bool_str (bK I q (by simp))
  | _ => exact absurd (show false = true from hs) Bool.false_ne_true
 | int i =>
  obtain ⟨t, rfl⟩ := rx
  cases y with
  | non => cases ry; exact PySem.EqNone.eq_int_none (bK I q (by simp))
  | int j => obtain ⟨t', rfl⟩ := ry; exact eq_int (bK I q yE)
  | str j => obtain ⟨t', rfl⟩ := ry; exact PySem.EqMixed.eq_int_str (bK I q (by simp))
  | _ => exact absurd (show false = true from hs) Bool.false_ne_true
 | str i =>
  obtain ⟨t, rfl⟩ := rx
  cases y with
  | non => cases ry; exact PySem.EqNone.eq_str_none (bK I q (by simp))
  | bl j => cases ry; exact PySem.EqMixed.eq_str_bool (bK I q (by simp))
  | int j => obtain ⟨t', rfl⟩ := ry; exact PySem.EqMixed.eq_str_int (bK I q (by simp))
  | str j => obtain ⟨t', rfl⟩ := ry; exact eq_str (bK I q yD)
  | _ => exact absurd (show false = true from hs) Bool.false_ne_true
 | byt i =>
  obtain ⟨t, rfl⟩ := rx
  cases y with
  | byt j => obtain ⟨t', rfl⟩ := ry; exact PySem.W.eq_bytes (bK I q yF)
  | _ => exact absurd (show false = true from hs) Bool.false_ne_true
 | _ => cases y <;> exact absurd (show false = true from hs) Bool.false_ne_true
theorem PL : OpR X (compareOp .NotEq) rNe := by
 intro pins s σ H x y v u Q I rx ry h
 obtain ⟨hs, q⟩ := h
 cases x with
 | non =>
  cases rx
  cases y with
  | non => cases ry; exact PySem.EqNone.ne_none_none (bK I q (by simp))
  | bl j => cases ry; exact PySem.EqNone.ne_none_bool (bK I q (by simp))
  | int j => obtain ⟨t', rfl⟩ := ry; exact PySem.EqNone.ne_none_int (bK I q (by simp))
  | str j => obtain ⟨t', rfl⟩ := ry; exact PySem.EqNone.ne_none_str (bK I q (by simp))
  | _ => exact absurd (show false = true from hs) Bool.false_ne_true
 | bl i =>
  cases rx
  cases y with
  | non => cases ry; exact PySem.EqNone.ne_bool_none (bK I q (by simp))
  | bl j => cases ry; exact ne_bool (bK I q (congrArg not FP))
  | str j => obtain ⟨t', rfl⟩ := ry; exact PySem.EqMixed.ne_bool_str (bK I q (by simp))
  | _ => exact absurd (show false = true from hs) Bool.false_ne_true
 | int i =>
  obtain ⟨t, rfl⟩ := rx
  cases y with
  | non => cases ry; exact PySem.EqNone.ne_int_none (bK I q (by simp))
  | int j => obtain ⟨t', rfl⟩ := ry; exact ne_int (bK I q (congrArg not yE))
  | str j => obtain ⟨t', rfl⟩ := ry; exact PySem.EqMixed.ne_int_str (bK I q (by simp))
  | _ => exact absurd (show false = true from hs) Bool.false_ne_true
 | str i =>
  obtain ⟨t, rfl⟩ := rx
  cases y with
  | non => cases ry; exact PySem.EqNone.ne_str_none (bK I q (by simp))
  | bl j => cases ry; exact PySem.EqMixed.ne_str_bool (bK I q (by simp))
  | int j => obtain ⟨t', rfl⟩ := ry; exact PySem.EqMixed.ne_str_int (bK I q (by simp))
  | str j => obtain ⟨t', rfl⟩ := ry; exact ne_str (bK I q (congrArg not yD))
  | _ => exact absurd (show false = true from hs) Bool.false_ne_true
 | byt i =>
  obtain ⟨t, rfl⟩ := rx
  cases y with
  | byt j => obtain ⟨t', rfl⟩ := ry; exact PySem.W.ne_bytes (bK I q (congrArg not yF))
  | _ => exact absurd (show false = true from hs) Bool.false_ne_true
 | _ => cases y <;> exact absurd (show false = true from hs) Bool.false_ne_true
theorem jm : OpR X (compareOp .Lt) (rI0 fun i j => .bl (decide (i < j))) := Jk fun _ _ _ _ _ _ _ q => lt_int q
theorem xU : OpR X (compareOp .LtE) (rI0 fun i j => .bl (decide (i ≤ j))) := Jk fun _ _ _ _ _ _ _ q => le_int q
theorem Dt : OpR X (compareOp .Gt) (rI0 fun i j => .bl (decide (j < i))) := Jk fun _ _ _ _ _ _ _ q => gt_int q
theorem K4 : OpR X (compareOp .GtE) (rI0 fun i j => .bl (decide (j ≤ i))) := Jk fun _ _ _ _ _ _ _ q => ge_int q
theorem Nb : OpR X (compareOp .Is) (fun x y H Q => y = .non ∧ Q (.bl (decide (x = .non))) H) := by
 intro pins s σ H x y v u Q I rx ry h
 obtain ⟨rfl, q⟩ := h
 cases ry
 refine is_none_gen (bK I q ?_)
 cases x <;> first
  | (cases rx; rfl)
  | (obtain ⟨t, rfl⟩ := rx; rfl)
theorem aP (b : Expr) {op : CmpOp} (h : op ≠ .In := by decide) (h2 : op ≠ .NotIn := by decide) : behindInMarks op b = false := by
 have e1 : (op == CmpOp.In) = false := by cases op <;> first | rfl | exact absurd rfl h
 have e2 : (op == CmpOp.NotIn) = false := by cases op <;> first | rfl | exact absurd rfl h2
 cases b <;> simp [behindInMarks, e1, e2]
theorem Jf {op : CmpOp} {r : R2} (ho : OpR X (compareOp op) r) (ha : PE X a ta) (hb : PE X b tb) (hm : behindInMarks op b = false) : PE X (.Compare a [op] [b] pos) (tOp r ta tb) := by
 intro pins s σ H Q I h
 exact wpAny_Compare1 (Ow ha hb I h fun v u s2 x y H2 I2 rx ry q => ho pins s2 σ H2 x y v u Q I2 rx ry q) hm
def pQ (t : TE) : TT := fun σ H Q => t σ H fun x H' => ∃ k, x = .bl k ∧ Q k H'
theorem Ik {op : CmpOp} {r : R2} (ho : OpR X (compareOp op) r) (ha : PE X a ta) (hb : PE X b tb) (hm : behindInMarks op b = false) : PT X (.Compare a [op] [b] pos) (pQ (tOp r ta tb)) := by
 intro pins s σ H Q I h
 refine wpAny_isTrue_Compare1 (thE (ha pins s σ H _ I h) fun v s1 x H1 I1 r1 q1 => thE (hb pins s1 σ H1 _ I1 q1) fun u s2 y H2 I2 r2 q2 =>
  thn (ho pins s2 σ H2 x y v u _ I2 r1 r2 q2) fun c s3 ⟨z, H3, I3, r3, k, e, q3⟩ => ?_) hm
 subst e
 cases r3
 exact wpAny_truthy_bool ⟨H3, I3, q3⟩
def nQ (r r' : R2) (ta tb tc : TE) : TE := fun σ H Q => ta σ H fun x H1 => tb σ H1 fun y H2 => r x y H2 fun z H3 => ∃ k, z = .bl k ∧
 (if k = true then tc σ H3 fun w' H4 => r' y w' H4 Q else Q (.bl false) H3)
theorem Dq {op op' : CmpOp} {r r' : R2} (ho : OpR X (compareOp op) r) (ho' : OpR X (compareOp op') r') (ha : PE X a ta) (hb : PE X b tb) (hc : PE X c tc)
  (hm : lastMarks [op, op'] [b, c] = false := by with_unfolding_all rfl) : PE X (.Compare a [op, op'] [b, c] pos) (nQ r r' ta tb tc) := by
 intro pins s σ H Q I h
 refine Compare_chain (thE (ha pins s σ H _ I h) fun v s1 x H1 I1 r1 q1 => chain_link (thE (hb pins s1 σ H1 _ I1 q1) fun u s2 y H2 I2 r2 q2 =>
  thn (ho pins s2 σ H2 x y v u _ I2 r1 r2 q2) fun d s3 ⟨z, H3, I3, r3, k, e, q3⟩ => ?_)) hm
 subst e
 cases r3
 refine wpAny_truthy_bool ?_
 cases k with
 | false => exact ite_ff ⟨.bl false, H3, I3, rfl, q3⟩
 | true => exact ite_tt (chain_last (thn (hc pins s3 σ H3 _ I3 q3) fun w' s4 ⟨z', H4, I4, r4, q4⟩ => ho' pins s4 σ H4 y z' u w' Q I4 r2 r4 q4))
theorem Dd {op op' : CmpOp} {r r' : R2} (ho : OpR X (compareOp op) r) (ho' : OpR X (compareOp op') r') (ha : PE X a ta) (hb : PE X b tb) (hc : PE X c tc)
  (hm : lastMarks [op, op'] [b, c] = false := by with_unfolding_all rfl) : PT X (.Compare a [op, op'] [b, c] pos) (pQ (nQ r r' ta tb tc)) := by
 intro pins s σ H Q I h
 refine isTrue_chain (thE (ha pins s σ H _ I h) fun v s1 x H1 I1 r1 q1 => test_link (thE (hb pins s1 σ H1 _ I1 q1) fun u s2 y H2 I2 r2 q2 =>
  thn (ho pins s2 σ H2 x y v u _ I2 r1 r2 q2) fun d s3 ⟨z, H3, I3, r3, k, e, q3⟩ => ?_)) hm
 subst e
 cases r3
 refine wpAny_truthy_bool ?_
 cases k with
 | false =>
  obtain ⟨k', e', q'⟩ := q3
  cases e'
  exact ite_ff ⟨H3, I3, q'⟩
 | true =>
  refine ite_tt (test_last (thn (hc pins s3 σ H3 _ I3 q3) fun w' s4 ⟨z', H4, I4, r4, q4⟩ => thn (ho' pins s4 σ H4 y z' u w' _ I4 r2 r4 q4) fun d' s5 ⟨z2, H5, I5, r5, k2, e2, q5⟩ => ?_))
  subst e2
  cases r5
  exact wpAny_truthy_bool ⟨H5, I5, q5⟩
theorem sI : (sizeLine : Nat) < 2 ^ 63 := by rw [sizeLine_eq]; decide
theorem vals1 {x : V} {us : List Value} (r : Vals [x] us) : ∃ u, us = [u] ∧ RelV x u := by
 cases r with
 | cons r1 r2 => cases r2; exact ⟨_, rfl, r1⟩
theorem vals2 {x y : V} {us : List Value} (r : Vals [x, y] us) : ∃ u w', us = [u, w'] ∧ RelV x u ∧ RelV y w' := by
 cases r with
 | cons r1 r2 =>
  cases r2 with
  | cons r3 r4 => cases r4; exact ⟨_, _, rfl, r1, r3⟩
theorem u5 : cO X (.builtin "abs") (fun xs H Q => ∃ i, xs = [.int i] ∧ Q (.int (if i < 0 then -i else i)) H) := by
 intro pins s σ H xs us Q I r h
 obtain ⟨i, rfl, q⟩ := h
 obtain ⟨u, rfl, t, rfl⟩ := vals1 r
 exact call_abs_int fun u tk => ⟨.int (if i < 0 then -i else i), H, I.tok _, ⟨_, rfl⟩, q⟩
theorem Af (hc : X.calm = true) : cO X (.builtin "max") (fun xs H Q => ∃ i j, xs = [.int i, .int j] ∧ Q (.int (if j > i then j else i)) H) := by
 intro pins s σ H xs us Q I r h
 obtain ⟨i, j, rfl, q⟩ := h
 obtain ⟨u, w', rfl, ⟨t, rfl⟩, ⟨t', rfl⟩⟩ := vals2 r
 refine max_two_ints (I.ok.hd hc) fun h' tk k => ⟨_, H, I.kept k, ?_, q⟩
 by_cases hj : j > i
 ·rw [if_pos hj, if_pos hj]; exact ⟨_, rfl⟩
 ·rw [if_neg hj, if_neg hj]; exact ⟨_, rfl⟩
theorem Ad (hc : X.calm = true) : cO X (.builtin "min") (fun xs H Q => ∃ i j, xs = [.int i, .int j] ∧ Q (.int (if j < i then j else i)) H) := by
 intro pins s σ H xs us Q I r h
 obtain ⟨i, j, rfl, q⟩ := h
 obtain ⟨u, w', rfl, ⟨t, rfl⟩, ⟨t', rfl⟩⟩ := vals2 r
 refine min_two_ints (I.ok.hd hc) fun h' tk k => ⟨_, H, I.kept k, ?_, q⟩
 by_cases hj : j < i
 ·rw [if_pos hj, if_pos hj]; exact ⟨_, rfl⟩
 ·rw [if_neg hj, if_neg hj]; exact ⟨_, rfl⟩
theorem qJ : cO X (.type "int") (fun xs H Q => (∃ i, xs = [.int i] ∧ Q (.int i) H) ∨ ∃ k, xs = [.bl k] ∧ Q (.int (if k then 1 else 0)) H) := by
 intro pins s σ H xs us Q I r h
 rcases h with ⟨i, rfl, q⟩ | ⟨k, rfl, q⟩
 ·obtain ⟨u, rfl, t, rfl⟩ := vals1 r
  exact call_int_int ⟨.int i, H, I, ⟨_, rfl⟩, q⟩
 ·obtain ⟨u, rfl, r1⟩ := vals1 r
  cases r1
  exact call_int_bool ⟨.int (if k then 1 else 0), H, I.tok _, ⟨_, rfl⟩, q⟩
end
structure O1 (h : Heap) (x dx C : Addr) (mA : Str → Option Value) : Prop where
 obj : h.get? x = some (PySem.W.instObj C dx)
 ns : h.Ns1 dx mA
 ne : dx ≠ x
theorem zN {h : Heap} {dx : Addr} {mA : Str → Option Value} (n : h.Ns1 dx mA) : ∃ od, h.get? dx = some od ∧ ∀ name, PySem.W.lookIn name od = some (mA name) := by
 obtain ⟨o, es, ep, ho, hd, hk, _, hm⟩ := n
 refine ⟨o, ho, fun name => ?_⟩
 have e := hm name
 unfold nsFind findBy at e
 rw [← Array.find?_toList] at e
 unfold PySem.W.lookIn
 rw [hd]
 dsimp only
 split
 ·rename_i y q
  rw [q] at e
  exact congrArg some e
 ·rename_i q
  rw [q] at e
  have a : es.toList.any (·.refKey) = false := by
   rw [List.any_eq_false]
   intro y hy
   obtain ⟨z, t, hkey⟩ := hk y (Array.mem_toList_iff.mp hy)
   simp [DictEntry.refKey, hkey]
  have a' : ¬ es.toList.any (·.refKey) = true := by rw [a]; exact Bool.false_ne_true
  rw [if_neg a']
  exact congrArg some e
theorem O1.look {h : Heap} {x dx C : Addr} {mA : Str → Option Value} (I : O1 h x dx C mA) : ∃ od, PySem.W.InstAt h x (PySem.W.instObj C dx) C (some od) ∧ ∀ name, PySem.W.lookIn name od = some (mA name) :=
 let ⟨od, ho, hl⟩ := zN I.ns
 ⟨od, ⟨I.obj, rfl, rfl, ho⟩, hl⟩
section
variable {prog : Program} {w : World} {A : Around} {E : Value → Shared → Prop} {s : Shared} {K : PySem.W.Frag} {x dx C f : Addr} {mA : Str → Option Value} {name : Str} {v : Value}
end
section
variable {P : Program} {w : World} {H H' : Hp} {h h' : Heap} {a C dx : Addr} {fs fs' : List (Str × V)}
theorem J3 (hok : HOk P w H h) (e : H a = some (.ins C dx fs)) : ∃ mA, O1 h a dx C mA ∧ (∀ f, OJ (fs.lookup f) (mA f)) ∧ PySem.Within mA (fs.map (·.1)) ∧ fs.length ≤ 1000 ∧ H dx = some (.own a) := by
 obtain ⟨d, z, ne, ob, mA, n, r, q⟩ := (show cu P w H h a (.ins C dx fs) from hok a _ e)
 exact ⟨mA, ⟨ob, n, ne⟩, r, q, z, d⟩
end
structure Cls (K : PySem.W.Frag) (C : Addr) : Prop where
 pg : PySem.W.plainGet K C Str.empty = true
 hd : PySem.W.hasDictIn K C = true
 po : PySem.W.plainOver K C = true
 sa : PySem.W.findIn K (.ref C) "__setattr__" = some (some (.builtin "object.__setattr__"))
theorem Cls.get {K : PySem.W.Frag} {C : Addr} (c : Cls K C) (f : Str) : PySem.W.plainGet K C f = true := c.pg
section
variable {X : Cx} {pins : List (Addr × Obj)} {σ : St} {H : Hp} {s : Shared} {a C dx : Addr} {fs : List (Str × V)} {f : Str} {v : V} {A : Around} {E : Value → Shared → Prop}
end
section
variable {X : Cx} {o e value : Expr} {f : Str} {pos pos' tpos : Pos} {ta tv : TE}
end
section
variable {X : Cx} {pins : List (Addr × Obj)} {σ : St} {H : Hp} {s : Shared} {A : Around} {E : Value → Shared → Prop} {Q : Value → Shared → Prop} {c : Value} {b : Bool}
inductive jR (K : PySem.W.Frag) (H : Hp) : V → Value → Prop where
 | non : jR K H .non (.type "NoneType")
 | bl (x : Bool) : jR K H (.bl x) (.type "bool")
 | int (i : Int) : jR K H (.int i) (.type "int")
 | str (x : Str) : jR K H (.str x) (.type "str")
 | flt (x : UInt64) : jR K H (.flt x) (.type "float")
 | lst {a : Addr} {xs : List V} (e : H a = some (.lst xs)) : jR K H (.ref a) (.type "list")
 | frz {a : Addr} {o : Obj} {xs : List V} (e : H a = some (.frz o (.lst xs))) : jR K H (.ref a) (.type "list")
 | tup {a : Addr} {xs : List V} (e : H a = some (.tup xs)) : jR K H (.ref a) (.type "tuple")
 | dK {a : Addr} {kvs : List (Key × V)} (e : H a = some (.dK kvs)) : jR K H (.ref a) (.type "dict")
 | dT {a : Addr} {kvs : List (List Key × V)} (e : H a = some (.dT kvs)) : jR K H (.ref a) (.type "dict")
 | ins {a C dx : Addr} {fs : List (Str × V)} (e : H a = some (.ins C dx fs)) (cl : Cls K C) (ha : PySem.W.findIn K (.ref C) "__class__" = some (some (.builtin "object.__class__")))
   (hn : PySem.W.specialIn K (.builtin "object.__class__") "__get__" = some (some (.builtin "getset_descriptor.__get__"))) (htk : PySem.W.takesIn K (.builtin "object.__class__") = some true)
   (hm : PySem.W.mroIn K C (.type "object") = some true) : jR K H (.ref a) (.ref C)
theorem zO {x : V} {u t : Value} (I : Inv X pins σ H s) (rx : RelV x u) (ty : jR X.K H x t) (e : PySem.W.kitOne X.K t c = some b) (h : ∀ tk, Q (.bool b) { s with toks := tk }) :
  wpAny (model X.prog X.w) A (call (.builtin "isinstance") [u, c]) Q E s := by
 cases ty with
 | non => cases (show u = Value.none from rx); exact PySem.W.kia_one PySem.W.kitx_none I.kIn True.intro e (fun z => nomatch z) h
 | bl y => cases (show u = Value.bool y from rx); exact PySem.W.kia_one PySem.W.kitx_bool I.kIn True.intro e (fun z => nomatch z) h
 | int i => obtain ⟨t, q⟩ := (show ∃ t, u = Value.int i t from rx); cases q; exact PySem.W.kia_one PySem.W.kitx_int I.kIn True.intro e (fun z => nomatch z) h
 | str y => obtain ⟨t, q⟩ := (show ∃ t, u = Value.str y t from rx); cases q; exact PySem.W.kia_one PySem.W.kitx_str I.kIn True.intro e (fun z => nomatch z) h
 | flt y => obtain ⟨t, q⟩ := (show ∃ t, u = Value.float y t from rx); cases q; exact PySem.W.kia_one PySem.W.kitx_float I.kIn True.intro e (fun z => nomatch z) h
 | @lst a xs ea =>
  cases (show u = Value.ref a from rx)
  obtain ⟨_, _, n, _, h1⟩ := (show cu X.prog X.w H s.heap a (.lst xs) from I.hok a _ ea)
  exact PySem.W.kia_one PySem.W.kitx_list I.kIn ⟨_, h1, rfl⟩ e (fun z => nomatch z) h
 | @frz a ob xs ea =>
  cases (show u = Value.ref a from rx)
  obtain ⟨_, _, _, n, _, h1⟩ := (show cu X.prog X.w H s.heap a (.frz ob (.lst xs)) from I.hok a _ ea)
  exact PySem.W.kia_one PySem.W.kitx_list I.kIn ⟨_, h1, rfl⟩ e (fun z => nomatch z) h
 | @tup a xs ea =>
  cases (show u = Value.ref a from rx)
  obtain ⟨_, _, _, p⟩ := (show cu X.prog X.w H s.heap a (.tup xs) from I.hok a _ ea)
  obtain ⟨o, h1, h2, _⟩ := p
  exact PySem.W.kia_one PySem.W.kitx_tuple I.kIn ⟨o, h1, h2⟩ e (fun z => nomatch z) h
 | @dK a kvs ea =>
  cases (show u = Value.ref a from rx)
  obtain ⟨_, _, vs, _, p⟩ := (show cu X.prog X.w H s.heap a (.dK kvs) from I.hok a _ ea)
  obtain ⟨o, es, ep, h1, h2, _⟩ := p
  exact PySem.W.kia_one PySem.W.kitx_dict I.kIn ⟨o, h1, h2.1⟩ e (fun z => nomatch z) h
 | @dT a kvs ea =>
  cases (show u = Value.ref a from rx)
  obtain ⟨_, _, xs, _, o, es, ep, h1, h2, _⟩ := (show cu X.prog X.w H s.heap a (.dT kvs) from I.hok a _ ea)
  exact PySem.W.kia_one PySem.W.kitx_dict I.kIn ⟨o, h1, h2.1⟩ e (fun z => nomatch z) h
 | @ins a C dx fs ea cl ha hn htk hm =>
  cases (show u = Value.ref a from rx)
  obtain ⟨mA, O, _⟩ := J3 I.hok ea
  obtain ⟨od, J, _⟩ := O.look
  exact PySem.W.kia_one (PySem.W.kitx_own (cl.get _) cl.hd ha hn htk hm) I.kIn J e (fun z => nomatch z) h
end
structure gJ (k : Nat) (A : Around) : Prop where
 hd : A.handled = none
 dp : A.depth + 3 * k + 5 < recursionLimit
 un : A.units + 16 * k + 200 < cLine
 gd : A.guards = some []
theorem gJ.mono {j k : Nat} {A : Around} (r : gJ k A) (h : j ≤ k) : gJ j A := ⟨r.hd, by have := r.dp; omega, by have := r.un; omega, r.gd⟩
theorem gJ.deeper {k : Nat} {A : Around} (r : gJ (k + 1) A) (env : Env) : gJ k (A.deeper env) :=
 ⟨r.hd, by have := r.dp; show A.depth + 1 + 3 * k + 5 < _; omega, by have := r.un; show A.units + 3 + 16 * k + 200 < _; omega, r.gd⟩
theorem gJ.depth {k : Nat} {A : Around} (r : gJ k A) : A.depth < recursionLimit := by have := r.dp; omega
theorem gJ.bw {k : Nat} {A : Around} (r : gJ k A) : A.units < cLine := by have := r.un; omega
def qR : TA := fun _ H Q => Q [] H
def gR (ta : TE) (tr : TA) : TA := fun σ H Q => ta σ H fun x H1 => tr σ H1 fun xs H2 => Q (x :: xs) H2
section
variable {X : Cx} {e : Expr} {es : List Expr} {te : TE} {t : TA} {pos : Pos}
theorem M7 : PA X [] qR := fun _ _ _ _ H Q I h => Calls.spliced_nil ⟨[], H, I, .nil, h⟩
theorem Jj (ha : PE X e te) (hr : PA X es t) (hs : starEach (e :: es) X.env = (false, eval e X.env) :: starEach es X.env := by rfl) : PA X (e :: es) (gR te t) := by
 intro pos pins s σ H Q I h
 rw [hs]
 show wpAny _ _ (spliced ((false, eval e X.env) :: backTo pos (starEach es X.env))) _ _ s
 refine Calls.spliced_cons (thE (ha pins s σ H _ I h) fun u s1 x H1 I1 r1 q1 => ?_)
 exact thA (hr pos pins s1 σ H1 _ I1 q1) fun us s2 xs H2 I2 r2 q2 => ⟨x :: xs, H2, I2, .cons r1 r2, q2⟩
def GJ (t : TA) : TE := fun σ H Q => t σ H fun xs H1 => xs.length ≤ sizeLine ∧ ∀ p, H1 p = none → Q (.ref p) (upd H1 p (.tup xs))
def Lk (t : TA) : TE := fun σ H Q => t σ H fun xs H1 => xs.length ≤ sizeLine ∧ ∀ p, H1 p = none → Q (.ref p) (upd H1 p (.lst xs))
theorem Mz {x1} (h : PA X es t) : PE X (.Tuple es x1 pos) (GJ t) := by
 intro pins s σ H Q I hq
 refine wpAny_Tuple_spliced (thn (h pos pins s σ H _ I hq) fun us s1 ⟨xs, H1, I1, r, z, q⟩ => ⟨by rw [← r.length]; exact z, ?_⟩)
 have hf : H1 s1.heap.objs.size = none := I1.hok.fresh (Nat.le_refl _)
 refine ⟨.ref s1.heap.objs.size, upd H1 s1.heap.objs.size (.tup xs), I1.laid (t' := s1.toks) (fun b u e => Heap.get?_push_of_some _ e) (Nat.le_refl _) ?_, rfl, q _ hf⟩
 exact ⟨z, us, r, ⟨_, Heap.get?_push_size _ rfl, rfl, _, rfl⟩⟩
theorem MT (h : PA X es t) : PE X (.List es pos) (Lk t) := by
 intro pins s σ H Q I hq
 refine wpAny_List_spliced (thn (h pos pins s σ H _ I hq) fun us s1 ⟨xs, H1, I1, r, z, q⟩ => ⟨by rw [← r.length]; exact z, ?_⟩)
 have hf : H1 s1.heap.objs.size = none := I1.hok.fresh (Nat.le_refl _)
 refine ⟨.ref s1.heap.objs.size, upd H1 s1.heap.objs.size (.lst xs), I1.laid (t' := s1.toks) (fun b u e => Heap.get?_push_of_some _ e) (Nat.le_refl _) ?_, rfl, q _ hf⟩
 exact ⟨z, us, 0, r, Heap.get?_push_size _ rfl⟩
end
abbrev Sp := List V → Hp → VK → XK → Prop
abbrev CXT := List Env → Hp → Shared → XK → Value → Shared → Prop
structure KJ (P : Program) (w : World) (K : PySem.W.Frag) (mg : Str → Option Value) (base : Heap) (A : Around) (outer : List Env) (s : Shared) (H : Hp) : Prop where
 frames : A.frames = some outer
 mod : Mod K mg base
 bs : ∀ b o, base.get? b = some o → s.heap.get? b = some o ∧ H b = none
 bsz : base.objs.size ≤ s.heap.objs.size
 nu : s.heap.FunFrames base outer
 frf : ∀ b ∈ frs outer, H b = none
 hok : HOk P w H s.heap
 bare : AllBare s.gens
def CE (outer : List Env) (P : Program) (w : World) (H : Hp) (s : Shared) (Q : VK) (u : Value) (s' : Shared) : Prop :=
 ∃ v H', s'.os = s.os ∧ AllBare s'.gens ∧ Un (frs outer) [] H H' s.heap s'.heap ∧ HOk P w H' s'.heap ∧ RelV v u ∧ Q v H'
def CR (CX : CXT) (outer : List Env) (P : Program) (w : World) (H : Hp) (s : Shared) (Q : VK) (E : XK) (r : Result) (s' : Shared) : Prop :=
 match r with
 | .ok (.ret u) => CE outer P w H s Q u s'
 | .ok _ => False
 | .error e => CX outer H s E e s'
structure dg (P : Program) (w : World) (K : PySem.W.Frag) (mg : Str → Option Value) (base : Heap) (CX : CXT) (k : Nat) (f : Addr) (fd : FuncData) (ps : List Str) (sp : Sp) : Prop where
 len : ∀ vs H Q E, sp vs H Q E → vs.length = ps.length
 run : ∀ (A : Around) (outer : List Env) (s : Shared) (H : Hp) (args : Args) (us : List Value) (vs : List V) (Q : VK) (E : XK), gJ k A → KJ P w K mg base A outer s H → BindsTo s fd args (ps.zip us) → Vals vs us → sp vs H Q E →
  codeAny (model P w) A (.call (.ref f) args) (CR CX outer P w H s Q E) s
section
variable {X : Cx} {pins : List (Addr × Obj)} {σ : St} {H : Hp} {s s' : Shared}
theorem Inv.env0 (I : Inv X pins σ H s) : KJ X.prog X.w X.K X.mg X.base X.A X.stack s H :=
 ⟨I.ok.frames, I.ok.mod, I.bs, Nat.le_trans I.ok.bsz I.sz, I.stack, I.w6, I.hok, I.bare⟩
theorem Inv.after {Q : VK} {u : Value} (I : Inv X pins σ H s) (h : CE X.stack X.prog X.w H s Q u s') : EP X pins σ Q u s' := by
 obtain ⟨v, H', os, bare, un, hok, r, q⟩ := h
 obtain ⟨hh, g, d, t, os'⟩ := s'
 obtain rfl : os' = s.os := os
 exact ⟨v, H', I.call (h' := hh) (g' := g) (d' := d) (t' := t) (ch := []) un hok bare (fun b z => absurd z (by simp)), r, q⟩
end
def kh (sp : Sp) (dvs : List V) (E : XK) (t : TA) : TE := fun σ H Q => t σ H fun vs H1 => sp (vs ++ dvs) H1 Q E
def Binds (K : PySem.W.Frag) (fd : FuncData) (ps : List Str) (ds : List Value) : Prop :=
 ∀ (s : Shared) (us : List Value), K.In s.heap → (us ++ ds).length = ps.length → BindsTo s fd ⟨us, []⟩ (ps.zip (us ++ ds))
theorem Binds.all {K : PySem.W.Frag} {fd : FuncData} {ps : List Str} (h : ∀ us : List Value, us.length = ps.length → bindArgs fd ⟨us, []⟩ = pure (ps.zip us)) : Binds K fd ps [] := fun s us _ hl => by
 rw [List.append_nil] at hl ⊢
 exact .of_eq (h us hl)
def wR (CX : CXT) (X : Cx) (E : XK) : Prop := ∀ (pins : List (Addr × Obj)) (σ : St) (H : Hp) (s : Shared) (e : Value) (s' : Shared), Inv X pins σ H s → CX X.stack H s E e s' → X.xe e s'
section
variable {X : Cx} {CX : CXT} {k : Nat} {f C : Addr} {fd : FuncData} {ps : List Str} {sp : Sp} {dvs : List V} {ds : List Value} {E : XK} {x m : Str} {p pos apos : Pos} {e o : Expr} {es : List Expr} {ta : TE} {t : TA}
theorem Lx {pins : List (Addr × Obj)} {σ : St} {H : Hp} {s : Shared} {Q : VK} {us : List Value} {vs : List V} (F : dg X.prog X.w X.K X.mg X.base CX k f fd ps sp) (hr : gJ k X.A) (hb : Binds X.K fd ps ds) (hd : Vals dvs ds) (hx : wR CX X E)
  (I : Inv X pins σ H s) (r : Vals vs us) (h : sp (vs ++ dvs) H Q E) : wpAny (model X.prog X.w) X.A (call (.ref f) us) (EP X pins σ Q) X.xe s := by
 have r2 : Vals (vs ++ dvs) (us ++ ds) := r.append hd
 have hl : (us ++ ds).length = ps.length := by rw [← r2.length]; exact F.len _ _ _ _ h
 refine wpAny_call (codeAny_mono (F.run X.A X.stack s H ⟨us, []⟩ (us ++ ds) (vs ++ dvs) Q E hr I.env0 (hb s us I.kIn hl) r2 h) fun r s' hq => ?_)
 cases r with
 | error e => exact hx pins σ H s e s' I hq
 | ok fl =>
  cases fl with
  | ret u => exact I.after hq
  | next => exact False.elim hq
  | brk => exact False.elim hq
  | cont => exact False.elim hq
theorem Jg (F : dg X.prog X.w X.K X.mg X.base CX k f fd ps sp) (hr : gJ k X.A) (hg : Gl X x) (hm : X.mg x = some (.ref f)) (hk : PySem.W.keepIn X.K (.ref f) = true) (hb : Binds X.K fd ps ds) (hd : Vals dvs ds) (hx : wR CX X E)
  (ha : PA X (e :: es) t) (hdb : (x == ("__debug__" : Str)) = false := by decide) (he : starEach (e :: es) X.env = (false, eval e X.env) :: starEach es X.env := by rfl) (hpl : (backTo pos (starEach es X.env)).any (·.1) = false := by rfl) :
  PE X (.Call (.Name x p) (e :: es) [] pos) (kh sp dvs E t) := by
 intro pins s σ H Q I h
 refine wpAny_Call_Name_kw (JM I hg hm ?_ hdb)
 refine PySem.W.callWith_K (h₀ := X.base) I.ok.mod.kin hk (thA (ha pos pins s σ H _ I h) fun us s1 vs H1 I1 r q => ⟨I1.kIn, ?_⟩) he hpl
 exact Lx F hr hb hd hx I1 r q
end
section
variable {X : Cx} {CX : CXT} {k : Nat} {f C : Addr} {fd : FuncData} {ps ks : List Str} {sp : Sp} {E : XK} {x m : Str} {p pos apos kpos : Pos} {e o : Expr} {es : List Expr} {kws : List Keyword} {te ta : TE} {t tk : TA} {nm : Option Str}
variable {g : List Value → List Value → List Value} {gV : List V → List V → List V}
end
structure bJ (N P : List Str) (sc : Scope) : Prop where
 kind : sc.kind = .function
 co : sc.isCoroutine = false
 gen : sc.isGenerator = false
 nd : N.Nodup
 pre : N.take P.length = P
 par : ∀ x ∈ P, sc.names.lookup x = some .local ∨ sc.names.lookup x = some .cell
 nofree : ∀ y ∈ sc.names, y.2 ≠ .free
theorem qL {kindOf : Str → Option NameKind} {x : Str} : ∀ {binds : List (Str × Value)} {m : Str → Option Value}, (∀ v, (x, v) ∉ binds) → bindL kindOf binds m x = m x
 | [], _, _ => rfl
 | (n, v) :: r, m, h => by
  unfold bindL
  rw [qL fun w hw => h w (List.mem_cons_of_mem _ hw)]
  split
  ·have : x ≠ n := by rintro rfl; exact h v List.mem_cons_self
   simp [this]
  ·rfl
theorem qN {kindOf : Str → Option NameKind} {x : Str} : ∀ {binds : List (Str × Value)} {m : Str → Option Value}, (∀ v, (x, v) ∉ binds) → bindC kindOf binds m x = m x
 | [], _, _ => rfl
 | (n, v) :: r, m, h => by
  unfold bindC
  rw [qN fun w hw => h w (List.mem_cons_of_mem _ hw)]
  split
  ·rfl
  ·have : x ≠ n := by rintro rfl; exact h v List.mem_cons_self
   simp [this]
theorem qM {kindOf : Str → Option NameKind} {x : Str} {v : Value} : ∀ {P : List Str} {vs : List Value} {i : Nat} {m : Str → Option Value}, P.Nodup → P[i]? = some x → vs[i]? = some v → kindOf x = some .local →
  bindL kindOf (P.zip vs) m x = some v
 | [], _, _, _, _, h, _, _ => by simp at h
 | _ :: _, [], _, _, _, _, h, _ => by simp at h
 | p :: P, w :: vs, 0, m, nd, h1, h2, hk => by
  simp at h1 h2; subst h1; subst h2
  show bindL kindOf ((p, w) :: P.zip vs) m p = _
  unfold bindL
  rw [qL fun v hv => (List.nodup_cons.mp nd).1 (List.of_mem_zip hv).1, if_pos hk]
  simp
 | p :: P, w :: vs, i + 1, m, nd, h1, h2, hk => by
  show bindL kindOf ((p, w) :: P.zip vs) m x = _
  unfold bindL
  exact qM (i := i) (List.nodup_cons.mp nd).2 (by simpa using h1) (by simpa using h2) hk
theorem qO {kindOf : Str → Option NameKind} {x : Str} {v : Value} : ∀ {P : List Str} {vs : List Value} {i : Nat} {m : Str → Option Value}, P.Nodup → P[i]? = some x → vs[i]? = some v → kindOf x ≠ some .local →
  bindC kindOf (P.zip vs) m x = some v
 | [], _, _, _, _, h, _, _ => by simp at h
 | _ :: _, [], _, _, _, _, h, _ => by simp at h
 | p :: P, w :: vs, 0, m, nd, h1, h2, hk => by
  simp at h1 h2; subst h1; subst h2
  show bindC kindOf ((p, w) :: P.zip vs) m p = _
  unfold bindC
  rw [qN fun v hv => (List.nodup_cons.mp nd).1 (List.of_mem_zip hv).1, if_neg hk]
  simp
 | p :: P, w :: vs, i + 1, m, nd, h1, h2, hk => by
  show bindC kindOf ((p, w) :: P.zip vs) m x = _
  unfold bindC
  exact qO (i := i) (List.nodup_cons.mp nd).2 (by simpa using h1) (by simpa using h2) hk
def start (N : List Str) (vs : List V) : St := vs.map some ++ List.replicate (N.length - vs.length) none
def wG (CX : CXT) (P : Program) (w : World) (K : PySem.W.Frag) (mg : Str → Option Value) (base : Heap) (N : List Str) (qual : Str) (scope : Scope) (f : Addr) (cd : Value) (A : Around) (outer : List Env) (s : Shared) (H : Hp) (E : XK) : Cx where
 prog := P
 w := w
 K := K
 mg := mg
 base := base
 A := A.deeper (envOfC qual scope s.heap.objs.size f cd)
 N := N
 s₀ := s
 H₀ := H
 env := envOfC qual scope s.heap.objs.size f cd
 outer := outer
 stack := envOfC qual scope s.heap.objs.size f cd :: outer
 ex := []
 calm := true
 fn := fun _ => true
 pn := []
 xe := fun e s' => wpAny (model P w) (A.deeper (envOfC qual scope s.heap.objs.size f cd)) (leaving (envOfC qual scope s.heap.objs.size f cd) e) (fun _ s'' => CX outer H s E e s'') (fun e' s'' => CX outer H s E e' s'') s'
theorem uZ {sc : Scope} {n : Nat} {x : Str} (h : sc.names.lookup x = some .cell) : ∃ c, (cellsFrom n sc.names []).lookup x = some c := by
 have q := PySem.W.cellsFrom_some sc.names n [] (.inl h)
 exact Option.isSome_iff_exists.mp q
theorem zP {CX : CXT} {P : Program} {w : World} {K : PySem.W.Frag} {mg : Str → Option Value} {base : Heap} {N ps : List Str} {qual : Str} {scope : Scope} {f : Addr} {cd : Value} {A : Around} {outer : List Env} {s s1 : Shared} {H : Hp} {E : XK} {us : List Value} {vs : List V}
  (S : bJ N ps scope) (hd : A.handled = none) (e0 : KJ P w K mg base A outer s H) (hl : vs.length = ps.length) (r : Vals vs us)
  (x : InCallC s s.heap.objs.size (bindL (envOfC qual scope s.heap.objs.size f cd).kindOf (ps.zip us) fun _ => none) (cellsFrom (s.heap.objs.size + 1) scope.names []) (bindC (envOfC qual scope s.heap.objs.size f cd).kindOf (ps.zip us) fun _ => none) s1) :
  Inv (wG CX P w K mg base N qual scope f cd A outer s H E) [] (start N vs) H s1 := by
 have hpl : ps.length ≤ N.length := by have := congrArg List.length S.pre; rw [List.length_take] at this; omega
 obtain ⟨h1, tk, rfl, hk⟩ := x.done
 have noA : ∀ b : Addr, b ∉ (wG CX P w K mg base N qual scope f cd A outer s H E).ex := fun b z => absurd (show b ∈ ([] : List Addr) from z) (by simp)
 refine ⟨⟨e0.mod, S.kind, rfl, rfl, Nat.le_refl _, fun y z c h1 h2 => ?_, fun y hy => ?_, fun y c _ h => ?_, fun _ => hd, Around.frames_deeper e0.frames, .inr ⟨rfl, rfl⟩, fun b z => absurd z (noA b), e0.bs, e0.bsz, fun b _ _ => noA b, fun b z => absurd z (noA b), e0.nu, e0.frf⟩,
  rfl, e0.bare, Un.kept hk, ⟨_, x.toInCall.ns, fun i y v h1 h2 h3 => ?_⟩, fun y c h => ⟨_, x.cell y c h⟩, e0.hok.fresh (Nat.le_refl _), fun y c h => ?_, fun p hp => absurd (show p ∈ ([] : List (Addr × Obj)) from hp) (by simp), e0.hok.kept hk, ?_⟩
 ·exact name_of_addr x.apart (PySem.mem_of_lookup h1) (PySem.mem_of_lookup h2)
 ·have hy : scope.names.lookup y = some .cell ∨ scope.names.lookup y = some .free := hy
  rcases hy with hy | hy
  ·exact uZ hy
  ·exact absurd rfl (S.nofree _ (PySem.mem_of_lookup hy))
 ·exact Nat.le_of_lt (x.above y c (PySem.mem_of_lookup h))
 ·have hi : i < vs.length := by
   unfold start at h2
   by_cases hi : i < vs.length
   ·exact hi
   ·rw [List.getElem?_append_right (by simpa using hi)] at h2
    rw [List.getElem?_replicate] at h2
    split at h2 <;> cases h2
  have ha : vs[i]? = some v := by
   unfold start at h2
   rw [List.getElem?_append_left (by simpa using hi), List.getElem?_map] at h2
   cases e : vs[i]? with
   | none => rw [e] at h2; cases h2
   | some a => rw [e] at h2; cases h2; rfl
  obtain ⟨u, hu, rv⟩ := r.get ha
  have hp : ps[i]? = some y := by
   rw [← S.pre, List.getElem?_take_of_lt (by omega)]; exact h1
  have ndP : ps.Nodup := by rw [← S.pre]; exact S.nd.sublist (List.take_sublist _ _)
  refine ⟨u, rv, ?_⟩
  rcases S.par y (List.mem_of_getElem? hp) with k | k
  ·exact .inl ⟨k, qM ndP hp hu k⟩
  ·obtain ⟨c, e⟩ := uZ (n := s.heap.objs.size + 1) k
   refine .inr ⟨.inl k, c, e, ?_⟩
   have q := x.cell y c e
   rw [qO ndP hp hu (by show scope.names.lookup y ≠ _; rw [k]; decide)] at q
   exact q
 ·exact e0.hok.fresh (Nat.le_of_lt (x.above y c (PySem.mem_of_lookup h)))
 ·unfold start
  show _ = N.length
  rw [List.length_append, List.length_map, List.length_replicate]
  omega
theorem Qi {CX : CXT} {P : Program} {w : World} {K : PySem.W.Frag} {mg : Str → Option Value} {base : Heap} {k : Nat} {f : Addr} {name qual : Str} {params : Arguments} {body : List Stmt} {scope : Scope} {dV kV doc pm cdv ct oc : Value} {an od : Option Addr}
  {osl : Array (Option Value)} {N ps : List Str} {sp : Sp} (lk : K.lookup f = some ⟨oc, od, .func (PySem.W.fnOf name qual params body scope dV kV doc pm an cdv ct), osl⟩) (hcd : PySem.W.codeIn K cdv qual = true) (S : bJ N ps scope)
  (len : ∀ vs H Q E, sp vs H Q E → vs.length = ps.length)
  (hbody : ∀ (A : Around) (outer : List Env) (s : Shared) (H : Hp) (vs : List V) (Q : VK) (E : XK), gJ k (A.deeper (envOfC qual scope s.heap.objs.size f cdv)) → sp vs H Q E →
   ∃ t, PSs (wG CX P w K mg base N qual scope f cdv A outer s H E) body t ∧ t { nx := fun _ H' => Q .non H', rt := Q } (start N vs) H) :
  dg P w K mg base CX (k + 1) f (PySem.W.fnOf name qual params body scope dV kV doc pm an cdv ct) ps sp := by
 refine ⟨len, fun A outer s H args us vs Q E hr e0 hb r hsp => ?_⟩
 have hl := len _ _ _ _ hsp
 have KX : K.In s.heap := e0.mod.kin.keeps fun b o e => (e0.bs b o e).1
 have lim : s.heap.NoLimit := e0.mod.nolimit.keeps fun b o e => (e0.bs b o e).1
 have hkind : ∀ y ∈ ps.zip us, scope.names.lookup y.1 = some .local ∨ (scope.names.lookup y.1 = some .cell ∧ ((cellsFrom (s.heap.objs.size + 1) scope.names []).lookup y.1).isSome = true) := fun ⟨n, v⟩ hy => by
  rcases S.par n (List.of_mem_zip hy).1 with q | q
  ·exact .inl q
  ·exact .inr ⟨q, PySem.W.cellsFrom_some _ _ _ (.inl q)⟩
 refine codeAny_call_function hr.depth (KX _ _ lk) rfl S.co S.gen rfl (PySem.W.codeRec_of KX hcd) (hb _ _ _ _ ?_)
 refine wpAny_newFunctionEnv_cells S.kind hkind fun env he s1 x => ?_
 subst he
 refine ⟨lim.keeps x.toInCall.keep, codeAny_func ?_⟩
 obtain ⟨t, ht, hq⟩ := hbody A outer s H vs Q E (hr.deeper _) hsp
 have I : Inv (wG CX P w K mg base N qual scope f cdv A outer s H E) [] (start N vs) H s1 := zP S hr.hd e0 hl r x
 refine wpAny_mono (ht [] s1 (start N vs) H _ I hq) (fun fl s' hs => ?_) fun e s' hs => hs
 have fin : ∀ {σ' : St} {H' : Hp} {v : V} {u : Value}, Inv (wG CX P w K mg base N qual scope f cdv A outer s H E) [] σ' H' s' → RelV v u → Q v H' → CE outer P w H s Q u s' :=
  fun {σ' H' v u} J rv q => ⟨v, H', J.os, J.bare, J.base, J.hok, rv, q⟩
 cases fl with
 | ret u =>
  obtain ⟨v, σ', H', J, rv, q⟩ := hs
  exact fin J rv q
 | next =>
  obtain ⟨σ', H', J, q⟩ := hs
  exact fin (v := V.non) (u := Value.none) J rfl q
 | brk =>
  obtain ⟨_, _, _, q⟩ := hs
  exact False.elim q
 | cont =>
  obtain ⟨_, _, _, q⟩ := hs
  exact False.elim q
section
variable {X : Cx} {x : Str} {p pos : Pos} {e : Expr} {es : List Expr} {t : TA} {id T : String} {r : List V → Hp → VK → Prop}
def tCB (r : List V → Hp → VK → Prop) (t : TA) : TE := fun σ H Q => t σ H fun vs H1 => r vs H1 Q
theorem Dr (hc : cO X (.builtin id) r) (hg : Gl X x) (hm : X.mg x = none) (hv : bootBuiltins x = some (.builtin id)) (ha : PA X (e :: es) t) (hn : x ≠ "__name__" := by decide) (hdb : (x == ("__debug__" : Str)) = false := by decide)
  (he : starEach (e :: es) X.env = (false, eval e X.env) :: starEach es X.env := by rfl) (hpl : (backTo pos (starEach es X.env)).any (·.1) = false := by rfl) : PE X (.Call (.Name x p) (e :: es) [] pos) (tCB r t) := by
 intro pins s σ H Q I h
 refine wpAny_Call_Name_kw (iC I hg hm hv ?_ hn hdb)
 exact PyProof.Rows.callWith_builtin1 (thA (ha pos pins s σ H _ I h) fun us s1 vs H1 I1 r1 q1 => hc pins s1 σ H1 vs us Q I1 r1 q1) he hpl
theorem zu (hc : cO X (.type T) r) (hg : Gl X x) (hm : X.mg x = none) (hv : bootBuiltins x = some (.type T)) (ha : PA X (e :: es) t) (hn : x ≠ "__name__" := by decide) (hdb : (x == ("__debug__" : Str)) = false := by decide)
  (he : starEach (e :: es) X.env = (false, eval e X.env) :: starEach es X.env := by rfl) (hpl : (backTo pos (starEach es X.env)).any (·.1) = false := by rfl) : PE X (.Call (.Name x p) (e :: es) [] pos) (tCB r t) := by
 intro pins s σ H Q I h
 refine wpAny_Call_Name_kw (iC I hg hm hv ?_ hn hdb)
 exact PyProof.Rows.callWith_type1 (thA (ha pos pins s σ H _ I h) fun us s1 vs H1 I1 r1 q1 => hc pins s1 σ H1 vs us Q I1 r1 q1) he hpl
end
end L2
namespace HT
open PySem PyProof.Rows
section
open PySem.SeqAt
open PySem.AutoSeq1 (wpAny_loadPart')
open PySem.MeetsSeq PySem.MeetsSeq2 PySem.MeetsSeq3
end
section
variable {prog : Program} {w : World} {A : Around} {E : Value → Shared → Prop} {s : Shared}
def sIx (n d : Nat) : Option Int → Nat
 | none => d
 | some v => if v < 0 then (v + (n : Int)).toNat else min v.toNat n
end
end HT
namespace L2
open PySem PySem.Spec PyProof.Rows
abbrev TO := St → Hp → (Option Int → Hp → Prop) → Prop
def GP : TO := fun _ H Q => Q none H
def O5 (t : TE) : TO := fun σ H Q => t σ H fun x H1 => ∃ i, x = .int i ∧ Q (some i) H1
section
variable {X : Cx} {e : Expr} {te : TE} {lo hi : Option Expr} {tl th : TO} {pos p2 : Pos}
def tSl (r : V → Option Int → Option Int → Hp → VK → Prop) (te : TE) (tl th : TO) : TE := fun σ H Q => te σ H fun x H1 => tl σ H1 fun l H2 => th σ H2 fun u H3 => r x l u H3 Q
def Km (xs : List V) (lo hi : Option Int) : List V := (xs.drop (HT.sIx xs.length 0 lo)).take (HT.sIx xs.length xs.length hi - HT.sIx xs.length 0 lo)
end
def ixN (n : Nat) (i : Int) : Option Nat := if 0 ≤ i then (if i < n then some i.toNat else none) else if -(n : Int) ≤ i then some (i + n).toNat else none
def atI {α : Type} (xs : List α) (i : Int) : Option α := (ixN xs.length i).bind fun j => xs[j]?
theorem yj {n : Nat} {i : Int} {j : Nat} (h : ixN n i = some j) : seqIndex? i n = some j ∧ j < n ∧ -(n : Int) ≤ i ∧ i < n := by
 unfold ixN at h
 by_cases h0 : 0 ≤ i
 ·rw [if_pos h0] at h
  by_cases h1 : i < n
  ·rw [if_pos h1] at h
   have e : i.toNat = j := Option.some.inj h
   exact ⟨by rw [seqIndex_of h0 h1, e], by omega, by omega, h1⟩
  ·rw [if_neg h1] at h; cases h
 ·rw [if_neg h0] at h
  by_cases h1 : -(n : Int) ≤ i
  ·rw [if_pos h1] at h
   have e : (i + n).toNat = j := Option.some.inj h
   exact ⟨by rw [seqIndex_neg (by omega) h1, e], by omega, h1, by omega⟩
  ·rw [if_neg h1] at h; cases h
theorem yK {α : Type} {xs : List α} {i : Int} {v : α} (h : atI xs i = some v) : ∃ j, seqIndex? i xs.length = some j ∧ xs[j]? = some v ∧ j < xs.length ∧ -(xs.length : Int) ≤ i ∧ i < xs.length := by
 unfold atI at h
 cases e : ixN xs.length i with
 | none => rw [e] at h; cases h
 | some j =>
  rw [e] at h
  obtain ⟨h1, h2, h3, h4⟩ := yj e
  exact ⟨j, h1, h, h2, h3, h4⟩
theorem eV {α : Type} {xs : List α} {j : Nat} {v : α} (h : xs[j]? = some v) : atI xs (j : Int) = some v := by
 have hj : j < xs.length := (List.getElem?_eq_some_iff.mp h).1
 have e : ixN xs.length (j : Int) = some j := by
  unfold ixN
  rw [if_pos (by omega), if_pos (by omega)]; simp
 unfold atI; rw [e]; exact h
def yM (b : Expr) : Prop := ∀ o i, subscripted b false o i = operate [o, i] (getItem o i)
def IxR (X : Cx) (r : R2) : Prop :=
 ∀ (value slice : Expr) (pins : List (Addr × Obj)) (s : Shared) (σ : St) (H : Hp) (x y : V) (v u : Value) (Q : VK), Inv X pins σ H s → RelV x v → RelV y u → r x y H Q →
  subscripted slice false v u = operate [v, u] (getItem v u) → wpAny (model X.prog X.w) X.A (subscriptTail value slice v u) (EP X pins σ Q) X.xe s
section
variable {X : Cx} {a b : Expr} {ta tb : TE} {pos : Pos}
theorem Pk {r : R2} (hr : IxR X r) (ha : PE X a ta) (hb : PE X b tb) (hs : yM b) : PE X (.Subscript a b pos) (tOp r ta tb) := by
 intro pins s σ H Q I h
 exact Subscript_ (Ow ha hb I h fun v u s2 x y H2 I2 rx ry q => hr a b pins s2 σ H2 x y v u Q I2 rx ry q (hs _ _))
def O7 (K : PySem.W.Frag) : R2 := fun x y H Q => ∃ p xs i v, x = .ref p ∧ y = .int i ∧ SqL K H p xs ∧ atI xs i = some v ∧ Q v H
def Qv (K : PySem.W.Frag) : R2 := fun x y H Q => ∃ p xs i v, x = .ref p ∧ y = .int i ∧ SqT K H p xs ∧ atI xs i = some v ∧ Q v H
theorem yh : IxR X (O7 X.K) := by
 intro value slice pins s σ H x y v u Q I rx ry h hs
 obtain ⟨p, xs, i, z, rfl, rfl, hq, he, q⟩ := h
 cases rx
 obtain ⟨t, rfl⟩ := ry
 obtain ⟨its, r, pl, hz⟩ := I.list hq
 obtain ⟨j, h1, h2, h3, h4, h5⟩ := yK he
 obtain ⟨w, ew, rw'⟩ := r.get h2
 have hl := r.length
 have hn := sI
 have fin : EP X pins σ Q w s := ⟨z, H, I, rw', q⟩
 by_cases h0 : 0 ≤ i
 ·have hj : i.toNat = j := by
   rw [seqIndex_of h0 h5] at h1
   exact Option.some.inj h1
  exact item_listR pl.isList h0 (by omega) (by rw [hj]; simpa using ew) fin hs
 ·have hj : (i + (its.toArray.size : Int)).toNat = j := by
   rw [seqIndex_neg (by omega) h4] at h1
   rw [List.size_toArray, ← hl]
   exact Option.some.inj h1
  exact subscriptTail_builtinR (x := w) pl.isList.typeIs slot_list_getitem.lookup
   (wpAny_getItem_list_neg (Q := fun r s' => r = w ∧ EP X pins σ Q r s') pl.isList (by omega) (by rw [List.size_toArray] <;> omega) (by omega) (by rw [hj]; simpa using ew) ⟨rfl, fin⟩) hs
theorem Oa : IxR X (Qv X.K) := by
 intro value slice pins s σ H x y v u Q I rx ry h hs
 obtain ⟨p, xs, i, z, rfl, rfl, hq, he, q⟩ := h
 cases rx
 obtain ⟨t, rfl⟩ := ry
 obtain ⟨its, r, pl, hz⟩ := I.tuple hq
 obtain ⟨j, h1, h2, h3, h4, h5⟩ := yK he
 obtain ⟨w, ew, rw'⟩ := r.get h2
 have hl := r.length
 have hn := sI
 have fin : EP X pins σ Q w s := ⟨z, H, I, rw', q⟩
 exact subscriptTail_builtinR (x := w) pl.typeIs slot_tuple_getitem.lookup
  (getItem_tuple (j := j) (Q := fun r s' => r = w ∧ EP X pins σ Q r s') pl (by omega) (by omega) (by rw [List.size_toArray, ← hl]; exact h1) (by simpa using ew) ⟨rfl, fin⟩) hs
theorem wg (its : List Value) (n j : Nat) (u : Value) : Obj.mapSeq (·.setIfInBounds j u) { cls := .type "list", data := .seq its.toArray n } = { cls := .type "list", data := .seq (its.set j u).toArray n } := by
 simp [Obj.mapSeq]
theorem Inv.lst {pins : List (Addr × Obj)} {σ : St} {H : Hp} {s : Shared} {p : Addr} {xs : List V} (I : Inv X pins σ H s) (h : H p = some (.lst xs)) :
  ∃ (its : List Value) (n : Nat), Vals xs its ∧ s.heap.get? p = some { cls := .type "list", data := .seq its.toArray n } ∧ xs.length ≤ sizeLine := by
 obtain ⟨z, its, n, r, e⟩ := I.hok p _ h
 exact ⟨its, n, r, e, z⟩
theorem Inv.NP {pins : List (Addr × Obj)} {σ : St} {H : Hp} {s : Shared} {p : Addr} {xs ys : List V} {its its' : List Value} {n n' : Nat} {f : Obj → Obj} (I : Inv X pins σ H s) (h : H p = some (.lst xs))
  (ho : s.heap.get? p = some { cls := .type "list", data := .seq its.toArray n }) (hf : f { cls := .type "list", data := .seq its.toArray n } = { cls := .type "list", data := .seq its'.toArray n' }) (r : Vals ys its') (hz : ys.length ≤ sizeLine) (t : Nat) :
  Inv X pins σ (upd H p (.lst ys)) { s with heap := s.heap.update p f, toks := t } := by
 have e : (s.heap.update p f).get? p = some { cls := .type "list", data := .seq its'.toArray n' } := by
  rw [Heap.get?_update_self f ho (by rw [hf] <;> rfl), hf]
 refine I.write (x := p) (e := p) (by rw [h]; trivial) (.inl rfl) (fun b u hb q => (Heap.get?_update_other _ _ (Ne.symm hb)).trans q) ⟨_, e⟩ ?_
 exact ⟨hz, its', n', r, e⟩
def K3 : V → V → V → Hp → (Hp → Prop) → Prop := fun o i v H Q => ∃ p xs k j, o = .ref p ∧ i = .int k ∧ H p = some (.lst xs) ∧ ixN xs.length k = some j ∧ Q (upd H p (.lst (xs.set j v)))
theorem set_list : Gr X K3 := by
 intro pins s σ H o i v ov iv u Q I ro ri rv h
 obtain ⟨p, xs, k, j, rfl, rfl, hp, hj, q⟩ := h
 cases ro
 obtain ⟨t, rfl⟩ := ri
 obtain ⟨its, n, r, ho, hz⟩ := I.lst hp
 obtain ⟨h1, h2, h3, h4⟩ := yj hj
 have hl := r.length
 have hn := sI
 have I' : Inv X pins σ (upd H p (.lst (xs.set j v))) { s with heap := s.heap.update p (Obj.mapSeq (·.setIfInBounds j u)) } :=
  I.NP hp ho (wg its n j u) (r.set rv j) (by rw [List.length_set]; exact hz) s.toks
 by_cases h0 : 0 ≤ k
 ·have hk : k.toNat = j := by
   rw [seqIndex_of h0 h4] at h1
   exact Option.some.inj h1
  exact PySem.W.ki_setAt ho h0 (by omega) (by rw [List.size_toArray, ← hl]; exact h4) (by rw [hk]; exact ⟨_, I', q⟩)
 ·have hk : (k + (its.toArray.size : Int)).toNat = j := by
   rw [seqIndex_neg (by omega) h3] at h1
   rw [List.size_toArray, ← hl]
   exact Option.some.inj h1
  exact PySem.W.ki_setBack ho (by omega) (by rw [List.size_toArray, ← hl]; exact h3) (by omega) (by rw [hk]; exact ⟨_, I', q⟩)
def dF : V → Bool
 | .non => true
 | .bl _ => true
 | .int _ => true
 | .str _ => true
 | _ => false
def eqV : V → V → Bool
 | .non, .non => true
 | .bl a, .bl b => a == b
 | .bl a, .int b => (if a then 1 else 0) == b
 | .int a, .bl b => a == (if b then 1 else 0)
 | .int a, .int b => a == b
 | .str a, .str b => a == b
 | _, _ => false
theorem FJ {A : Around} {s : Shared} {y x : V} {u v : Value} (ry : RelV y u) (rx : RelV x v) (fy : dF y = true) (fx : dF x = true) : SeqAt.EqAt A s u v (eqV y x) := by
 cases y with
 | non =>
  cases ry
  cases x with
  | non => cases rx; exact SeqAt.EqAt.same _
  | bl b => cases rx; exact SeqAt.EqAt.none_bool b
  | int b => obtain ⟨t, rfl⟩ := rx; exact SeqAt.EqAt.none_int b t
  | str b => obtain ⟨t, rfl⟩ := rx; exact SeqAt.EqAt.none_str b t
  | _ => exact absurd (show false = true from fx) Bool.false_ne_true
 | bl a =>
  cases ry
  cases x with
  | non => cases rx; exact SeqAt.EqAt.bool_none a
  | bl b => cases rx; exact SeqAt.EqAt.bool_bool a b
  | int b => obtain ⟨t, rfl⟩ := rx; exact SeqAt.EqAt.bool_int a b t
  | str b => obtain ⟨t, rfl⟩ := rx; exact SeqAt.EqAt.bool_str a b t
  | _ => exact absurd (show false = true from fx) Bool.false_ne_true
 | int a =>
  obtain ⟨t', rfl⟩ := ry
  cases x with
  | non => cases rx; exact SeqAt.EqAt.int_none a t'
  | bl b => cases rx; exact SeqAt.EqAt.int_bool a t' b
  | int b => obtain ⟨t, rfl⟩ := rx; exact SeqAt.EqAt.int_int a t' b t
  | str b => obtain ⟨t, rfl⟩ := rx; exact SeqAt.EqAt.int_str a t' b t
  | _ => exact absurd (show false = true from fx) Bool.false_ne_true
 | str a =>
  obtain ⟨t', rfl⟩ := ry
  cases x with
  | non => cases rx; exact SeqAt.EqAt.str_none a t'
  | bl b => cases rx; exact SeqAt.EqAt.str_bool a t' b
  | int b => obtain ⟨t, rfl⟩ := rx; exact SeqAt.EqAt.str_int a t' b t
  | str b => obtain ⟨t, rfl⟩ := rx; exact SeqAt.EqAt.str_str a t' b t
  | _ => exact absurd (show false = true from fx) Bool.false_ne_true
 | _ => exact absurd (show false = true from fy) Bool.false_ne_true
def eqU (x : V) (u : Value) : Bool := match u with
 | .none => eqV .non x
 | .bool b => eqV (.bl b) x
 | .int i _ => eqV (.int i) x
 | .str z _ => eqV (.str z) x
 | _ => false
theorem Fz {x y : V} {u : Value} (r : RelV y u) (f : dF y = true) : eqU x u = eqV y x := by
 cases y with
 | non => cases r; rfl
 | bl b => cases r; rfl
 | int i => obtain ⟨t, rfl⟩ := r; rfl
 | str z => obtain ⟨t, rfl⟩ := r; rfl
 | _ => exact absurd (show false = true from f) Bool.false_ne_true
theorem tG {x : V} : ∀ {xs : List V} {us : List Value}, Vals xs us → xs.all dF = true → us.any (eqU x) = xs.any fun y => eqV y x
 | _, _, .nil, _ => rfl
 | y :: xs, u :: us, .cons r t, f => by
  rw [List.all_cons, Bool.and_eq_true] at f
  rw [List.any_cons, List.any_cons, Fz r f.1, tG t f.2]
theorem oE {A : Around} {s : Shared} {x : V} {v : Value} (rx : RelV x v) (fx : dF x = true) : ∀ {xs : List V} {us : List Value}, Vals xs us → xs.all dF = true → ∀ u ∈ us, SeqAt.EqAt A s u v (eqU x u)
 | _, _, .nil, _ => fun u hu => by cases hu
 | y :: xs, u :: us, .cons r t, f => fun u' hu => by
  rw [List.all_cons, Bool.and_eq_true] at f
  rcases List.mem_cons.mp hu with rfl | hu
  ·rw [Fz r f.1]; exact FJ r rx f.1 fx
  ·exact oE rx fx t f.2 u' hu
def inV (x : V) (xs : List V) : Bool := xs.any fun y => eqV y x
def rIn (K : PySem.W.Frag) (neg : Bool) : R2 := fun x y H Q => ∃ p xs, y = .ref p ∧ (SqL K H p xs ∨ SqT K H p xs) ∧ dF x = true ∧ xs.all dF = true ∧ Q (.bl (if neg then !inV x xs else inV x xs)) H
theorem rR : OpR X (compareOp .NotIn) (rIn X.K true) := by
 intro pins s σ H x y v u Q I rx ry h
 obtain ⟨p, xs, rfl, hq, fx, fs, q⟩ := h
 cases ry
 rcases hq with hq | hq
 ·obtain ⟨its, r, pl, hz⟩ := I.list hq
  refine SeqAt.notIn_listAt (eqU x) pl.isList (fun w hw => oE rx fx r fs w (by simpa using hw)) ⟨.bl _, H, I, rfl, ?_⟩
  rw [show its.toArray.any (eqU x) = its.any (eqU x) by simp, tG r fs]
  exact q
 ·obtain ⟨its, r, pl, hz⟩ := I.tuple hq
  refine SeqAt.notIn_tupleAt (eqU x) pl (fun w hw => oE rx fx r fs w (by simpa using hw)) ⟨.bl _, H, I, rfl, ?_⟩
  rw [show its.toArray.any (eqU x) = its.any (eqU x) by simp, tG r fs]
  exact q
theorem gj : cO X (.builtin "len") (fun xs H Q => ∃ p ys, xs = [.ref p] ∧ (SqL X.K H p ys ∨ SqT X.K H p ys) ∧ Q (.int ys.length) H) := by
 intro pins s σ H xs us Q I r h
 obtain ⟨p, ys, rfl, hq, q⟩ := h
 obtain ⟨u, rfl, rx⟩ := vals1 r
 cases rx
 have hn := sI
 rcases hq with hq | hq
 ·obtain ⟨its, r', pl, hz⟩ := I.list hq
  have hlen := r'.length
  exact Calls.call_len_list pl.isList (by simp only [List.size_toArray] <;> omega) ⟨.int ys.length, H, I.tok _, ⟨s.toks + 1, by rw [List.size_toArray, hlen]⟩, q⟩
 ·obtain ⟨its, r', pl, hz⟩ := I.tuple hq
  have hlen := r'.length
  exact len_tuple pl (by simp only [List.size_toArray] <;> omega) ⟨.int ys.length, H, I.tok _, ⟨s.toks + 1, by rw [List.size_toArray, hlen]⟩, q⟩
def tyV (K : PySem.W.Frag) (T : String) (x : V) (H : Hp) : Prop := match x with
 | .str _ => T = "str"
 | .int _ => T = "int"
 | .ref p => (T = "list" ∧ ∃ xs, SqL K H p xs) ∨ (T = "tuple" ∧ ∃ o, K.lookup p = some o ∧ o.cls = .type "tuple" ∧ o.dict = none) ∨
   (T = "dict" ∧ ((∃ kvs, H p = some (.dK kvs)) ∨ ∃ kvs, H p = some (.dT kvs))) ∨ (T = "set" ∧ ∃ S n, H p = some (.set S n))
 | _ => False
theorem Lh {pins : List (Addr × Obj)} {σ : St} {H : Hp} {s : Shared} {T : String} {x : V} {v : Value} (I : Inv X pins σ H s) (r : RelV x v) (ty : tyV X.K T x H) :
  s.TypeIs v T ∧ ∀ a, v = .ref a → ∃ ob, s.heap.get? a = some ob ∧ ob.dict = none := by
 cases x with
 | str z =>
  obtain ⟨t, rfl⟩ := r
  cases (show T = "str" from ty)
  exact ⟨typeIs_str s z t, fun _ e => nomatch e⟩
 | int i =>
  obtain ⟨t, rfl⟩ := r
  cases (show T = "int" from ty)
  exact ⟨typeIs_int s i t, fun _ e => nomatch e⟩
 | ref p =>
  cases r
  rcases ty with ⟨rfl, xs, hq⟩ | ⟨rfl, o, hk, hc, hd⟩ | ⟨rfl, hk⟩ | ⟨rfl, S, n, hk⟩
  ·obtain ⟨its, _, pl, _⟩ := I.list hq
   refine ⟨pl.isList.typeIs, fun a e => ?_⟩
   cases e
   obtain ⟨o, n, e, c, hd, _⟩ := pl
   exact ⟨o, e, hd⟩
  ·refine ⟨⟨o, I.kIn p o hk, hc⟩, fun a e => ?_⟩
   cases e
   exact ⟨o, I.kIn _ o hk, hd⟩
  ·have z : ∃ o, s.heap.get? p = some o ∧ o.ExactDict := by
    rcases hk with ⟨kvs, hk⟩ | ⟨kvs, hk⟩
    ·obtain ⟨_, _, _, _, o, _, _, e, ex, _⟩ := I.hok p _ hk
     exact ⟨o, e, ex⟩
    ·obtain ⟨_, _, _, _, o, _, _, e, ex, _⟩ := I.hok p _ hk
     exact ⟨o, e, ex⟩
   obtain ⟨o, e, ex⟩ := z
   refine ⟨⟨o, e, ex.1⟩, fun a e2 => ?_⟩
   cases e2
   exact ⟨o, e, ex.2.1⟩
  ·obtain ⟨o, _, _, _, e, ex, _⟩ := I.hok p _ hk
   refine ⟨⟨o, e, ex.1⟩, fun a e2 => ?_⟩
   cases e2
   exact ⟨o, e, ex.2.1⟩
 | _ => exact False.elim ty
variable {o e : Expr} {es : List Expr} {to : TE} {t : TA} {name : Str} {apos cpos : Pos} {T id : String} {r : V → List V → Hp → VK → Prop}
end
def MtM (X : Cx) (id : String) (r : V → List V → Hp → VK → Prop) : Prop :=
 ∀ (pins : List (Addr × Obj)) (s : Shared) (σ : St) (H : Hp) (x : V) (xs : List V) (v : Value) (us : List Value) (Q : VK), Inv X pins σ H s → RelV x v → Vals xs us → r x xs H Q →
  wpAny (model X.prog X.w) X.A (call (.builtin id) (v :: us)) (EP X pins σ Q) X.xe s
theorem Vals.one : ∀ {x : V} {us : List Value}, Vals [x] us → ∃ u, us = [u] ∧ RelV x u := fun h => by
 cases h with
 | cons r h =>
  cases h
  exact ⟨_, rfl, r⟩
theorem Vals.rep {xs : List V} {us : List Value} (h : Vals xs us) : ∀ k : Nat, Vals (List.replicate k xs).flatten (List.replicate k us).flatten
 | 0 => .nil
 | k + 1 => by
  rw [List.replicate_succ, List.replicate_succ, List.flatten_cons, List.flatten_cons]
  exact Vals.append h (Vals.rep h k)
theorem foldl_rep (its : List Value) : ∀ (k : Nat) (acc : List Value),
  List.foldl (fun x1 x2 => x1 ++ x2) acc.toArray (List.replicate k its.toArray) = (acc ++ (List.replicate k its).flatten).toArray
 | 0, acc => by simp
 | k + 1, acc => by
  have e : acc.toArray ++ its.toArray = (acc ++ its).toArray := by simp
  have e2 : (acc ++ its) ++ (List.replicate k its).flatten = acc ++ (List.replicate (k + 1) its).flatten := by
   rw [List.replicate_succ, List.flatten_cons, List.append_assoc]
  rw [← e2, ← foldl_rep its k (acc ++ its), ← e, List.replicate_succ, List.foldl_cons]
section
variable {X : Cx} {pins : List (Addr × Obj)} {σ : St} {H : Hp} {s : Shared} {l b : Addr} {xs ys zs : List V}
theorem Inv.Qz {its its' : List Value} {n : Nat} {f : Array Value → Array Value} {t' : Nat} (I : Inv X pins σ H s) (hH : H l = some (.lst xs))
  (e : s.heap.get? l = some { cls := .type "list", data := .seq its.toArray n }) (hf : f its.toArray = its'.toArray) (hv : Vals ys its') (hz : ys.length ≤ sizeLine) :
  Inv X pins σ (upd H l (.lst ys)) { s with heap := s.heap.update l (Obj.mapSeq f), toks := t' } := by
 have q := PySem.IsL.update e f
 rw [hf] at q
 refine I.write (x := l) (e := l) (by rw [hH]; exact trivial) (.inl rfl) (fun b' u hb hu => (Heap.get?_update_other s.heap (Obj.mapSeq f) (Ne.symm hb)).trans hu) ⟨_, q⟩ ?_
 exact ⟨hz, its', _, hv, q⟩
theorem Inv.Qd {its : List Value} {t' : Nat} (I : Inv X pins σ H s) (hv : Vals ys its) (hz : ys.length ≤ sizeLine) :
  Inv X pins σ (upd H s.heap.objs.size (.lst ys)) { s with heap := s.heap.push { cls := .type "list", data := .seq its.toArray }, toks := t' } :=
 I.laid (fun _ _ q => Heap.get?_push_of_some _ q) (Nat.le_refl _) ⟨hz, its, 0, hv, Heap.get?_push_size _ rfl⟩
theorem Inv.fresh (I : Inv X pins σ H s) : H s.heap.objs.size = none := I.hok.fresh (Nat.le_refl _)
theorem Inv.JC (I : Inv X pins σ H s) (hH : H l = some (.lst xs)) : xs.length ≤ sizeLine ∧ ∃ (its : List Value) (n : Nat), Vals xs its ∧ xs.length = its.length ∧ s.heap.get? l = some { cls := .type "list", data := .seq its.toArray n } := by
 obtain ⟨z, its, n, r, e⟩ := I.hok l _ hH
 exact ⟨z, its, n, r, r.length, e⟩
theorem Dy {n : Nat} (h : n ≤ sizeLine) : Builtin.List.listTooLong n = false := by
 unfold Builtin.List.listTooLong
 exact decide_eq_false (by omega)
end
section
variable {X : Cx}
def HN : V → List V → Hp → VK → Prop := fun x vs H Q => ∃ l xs y, x = .ref l ∧ vs = [y] ∧ H l = some (.lst xs) ∧ xs.length < sizeLine ∧ Q .non (upd H l (.lst (xs ++ [y])))
theorem zL : MtM X "list.append" HN := by
 intro pins s σ H x vs v us Q I rx rv h
 obtain ⟨l, xs, y, rfl, rfl, hH, hz, q⟩ := h
 cases rx
 obtain ⟨u, rfl, ru⟩ := rv.one
 obtain ⟨z, its, n, r, hl, e⟩ := I.JC hH
 refine call_meets F.slot_list_append ⟨_, e, rfl⟩ F.entry_list_append (F.args_list_append_2 _ _) (PySem.list_append l its.toArray n u (by rw [List.size_toArray]; omega)) ⟨e, ?_⟩
 refine ⟨.non, _, I.Qz (its' := its ++ [u]) hH e (by simp) (r.append (.cons ru .nil)) ?_, rfl, q⟩
 rw [List.length_append, List.length_singleton]
 omega
def Qx : R2 := fun x y H Q => ∃ l b xs zs, x = .ref l ∧ y = .ref b ∧ H l = some (.lst xs) ∧ H b = some (.lst zs) ∧ xs.length + zs.length ≤ sizeLine ∧ ∀ p, H p = none → Q (.ref p) (upd H p (.lst (xs ++ zs)))
theorem Nf : OpR X (binaryOp .Add) Qx := by
 intro pins s σ H x y v u Q I rx ry h
 obtain ⟨l, b, xs, zs, rfl, rfl, hH, hB, hz, q⟩ := h
 cases rx
 cases ry
 obtain ⟨z, its, n, r, hl, e⟩ := I.JC hH
 obtain ⟨z2, its2, n2, r2, hl2, e2⟩ := I.JC hB
 refine PySem.P.add_list e e2 ?_ (by rw [List.size_toArray, List.size_toArray]; omega)
 have ea : its.toArray ++ its2.toArray = (its ++ its2).toArray := by simp
 rw [ea]
 exact ⟨.ref _, _, I.Qd (t' := s.toks) (r.append r2) (by rw [List.length_append]; omega), rfl, q _ I.fresh⟩
def Qu : R2 := fun x y H Q => ∃ l k xs, x = .ref l ∧ y = .int k ∧ H l = some (.lst xs) ∧ -(2 ^ 63) ≤ k ∧ k < 2 ^ 63 ∧ xs.length * k.toNat ≤ sizeLine ∧
 ∀ p, H p = none → Q (.ref p) (upd H p (.lst (List.replicate k.toNat xs).flatten))
theorem len_rep {α : Type} (xs : List α) (k : Nat) : (List.replicate k xs).flatten.length = k * xs.length := by
 induction k with
 | zero => simp
 | succ k ih => rw [List.replicate_succ, List.flatten_cons, List.length_append, ih, Nat.succ_mul, Nat.add_comm]
theorem M8 : OpR X (binaryOp .Mult) Qu := by
 intro pins s σ H x y v u Q I rx ry h
 obtain ⟨l, k, xs, rfl, rfl, hH, h1, h2, hz, q⟩ := h
 cases rx
 obtain ⟨t, rfl⟩ := ry
 obtain ⟨z, its, n, r, hl, e⟩ := I.JC hH
 have hlen : its.toArray.size * k.toNat ≤ sizeLine := by rw [List.size_toArray, ← hl]; exact hz
 have hcap : ¬ its.toArray.size * k.toNat > (2 ^ 63 - 1) / 8 := by
  have : (sizeLine : Nat) ≤ (2 ^ 63 - 1) / 8 := by decide
  omega
 have hfit : ¬ (!Builtin.List.listFitsIndex k) = true := by
  rw [fitsIndex_both h1 h2]
  exact Bool.false_ne_true
 have hlong : ¬ Builtin.List.listTooLong (its.toArray.size * k.toNat) = true := by
  rw [Dy hlen]
  exact Bool.false_ne_true
 have hnew : List.foldl (fun x1 x2 => x1 ++ x2) #[] (List.replicate (if its.toArray.isEmpty = true then 0 else k.toNat) its.toArray) = (List.replicate k.toNat its).flatten.toArray := by
  have f0 : ∀ m : Nat, List.foldl (fun x1 x2 => x1 ++ x2) #[] (List.replicate m its.toArray) = (List.replicate m its).flatten.toArray := fun m => by
   have := foldl_rep its m []
   rw [List.nil_append] at this
   exact this
  rw [f0]
  cases its with
  | nil => simp
  | cons a r' => rw [if_neg (by simp)]
 refine wpAny_binaryOp_repeat_ref (T := "list") (U := "int") (by decide) ⟨_, e, rfl⟩ (fun s' => typeIs_int s' k t) noFill_list_mul F.fills_int_mul F.slot_int_rmul repeat_list F.slot_int_index.lookup
  (call_meets F.slot_int_rmul (typeIs_int s k t) F.entry_int_rmul (F.args_int_rmul_2 _ _) (int___rmul___int_list k t l its.toArray n)
   ⟨e, rfl, ⟨_, e, rfl⟩, call_meets F.slot_list_mul ⟨_, e, rfl⟩ F.entry_list_mul (F.args_list_mul_2 _ _) (AutoListH.list___mul___list_int_3 l its.toArray n k t hfit hcap hlong) ⟨e, ?_⟩⟩)
 rw [hnew]
 exact ⟨.ref _, _, I.Qd (t' := s.toks) (r.rep k.toNat) (by rw [len_rep, Nat.mul_comm]; exact hz), rfl, q _ I.fresh⟩
end
section
variable {prog : Program} {w : World} {A : Around} {E : Value → Shared → Prop} {s : Shared}
end
section
variable {X : Cx}
end
end L2
namespace Att
open PySem PySem.W PySem.Calls PyProof.Rows
theorem nj {P : Params} {h : Heap} : ∀ (ns : List Int) (vs : List Value), WellAll P h vs (ns.map WData.int) → IntsAre vs ns := by
 intro ns
 induction ns with
 | nil =>
  intro vs w
  rw [List.map_nil] at w
  cases w
  exact .nil
 | cons n ns ih =>
  intro vs w
  rw [List.map_cons] at w
  cases w with
  | cons a b =>
   cases a
   exact .cons _ _ (ih _ b)
theorem yX {l : OpenLaw} {n : Nat} (hn : l.most = some n) {P : Params} {h : Heap} {args : List WData} {vals : List Value}
  (hpre : l.row.toRowW.claim.pre args = true) (hwl : WellAll P h vals args) :
  ∃ a vs ns, vals = [Value.ref a] ∧ args = [WData.list (ns.map WData.int)] ∧ h.get? a = some { cls := .type "list", data := .seq vs.toArray } ∧ IntsAre vs ns ∧ ns.length ≤ n := by
 have hsh : WShape.hasAll [] args [.list .int] = true := (pre_splitW hpre).1
 have hc : l.pre.holds [] { args := args } = true := (pre_splitW hpre).2
 obtain ⟨d, r, rfl, h1, h2⟩ := hasAllW_cons hsh
 obtain rfl := hasAllW_nil h2
 obtain ⟨xs, rfl, h3⟩ := hasW_list h1
 obtain ⟨ns, rfl⟩ := items_int h3
 have hlen : ns.length ≤ n := by
  unfold OpenLaw.pre at hc
  have h4 : (WTm.not (.lt (.lit (.int (n : Int))) (.len (.arg 0)))).holds [] { args := [.list (ns.map .int)] } = true := by
   have h4 := (holds_andW hc).1
   rw [hn] at h4
   exact h4
  have h5 := condW_of h4 (w_not (w_lt w_lit (w_len_list (w_arg rfl))))
  rw [List.length_map] at h5
  refine Nat.le_of_not_lt fun q => ?_
  have q' : (n : Int) < ((ns.length : Nat) : Int) := by omega
  first
   | (rw [decide_eq_true q'] at h5; exact absurd h5 (by decide))
   | (simp at h5; omega)
 cases hwl with
 | cons w1 w2 =>
  cases w2
  cases w1 with
  | list ho hall => exact ⟨_, _, ns, rfl, rfl, ho, nj ns _ hall, hlen⟩
theorem zm (l : OpenLaw) (args : List WData) : l.row.toRowW.claim.post args (.bool true) args = true :=
 postW_of (r := l.row.toRowW) (X := (true == true))
  (show WShape.has [] (.bool true) .bool = true by first | rfl | decide | simp [WShape.has, WShape.arms, WShape.armsAll])
  (show (WTm.eq .res (.lit (.bool true))).value [] { args := args, res := some (.bool true), after := args } = some (.bool (true == true)) from w_eq_bool (w_res rfl) w_lit) rfl
theorem vf {l : OpenLaw} {n : Nat} {q : Program} {loose : List Str} {XP : (Str → Option Value) → Heap → Prop} {YP : World → Heap → Prop} {d : DefRec}
  (hn : l.most = some n) (hdf : d.params.defaults = [])
  (call : ∀ (w : World) (s₀ s₁ : Shared) (mg mb : Str → Option Value) (fa : Addr) (o : Obj) (pm cd doc : Value) (a : Addr) (vs : List Value) (ns : List Int),
   Ground q loose [] XP w s₀ mg mb s₁.heap → YP w s₁.heap →
   s₁.heap.get? fa = some o → o.data = .func (docDef d.name d.params d.body d.scope pm cd doc) → s₁.heap.CodeRec cd d.name → mg d.name = some (.ref fa) →
   s₁.heap.get? a = some { cls := .type "list", data := .seq vs.toArray } → IntsAre vs ns → ns.length ≤ n → s₁.gens = #[] →
   codeAny (model l.prog w) callerA (.call (.ref fa) ⟨[.ref a], []⟩) (fun r s' => r = .ok (.ret (.bool true)) ∧ OldK s₁.heap s'.heap ∧ s'.os = s₁.os ∧ AllBare s'.gens) s₁) :
  WalkO q loose XP YP l.row.toRowW d [] (fun f vs => PySem.call f vs) := by
 intro w s₀ s₁ mg mb G Y fa o pm cd doc dV kV ho hd hcd hD hmg hg args vals as hpre hlay hrd hwl hlo
 obtain rfl : dV = .none := Dflts.none hD hdf
 obtain rfl : kV = .none := Dflts.noKw hD
 obtain ⟨a, vs, ns, rfl, rfl, hobj, hints, hlen⟩ := yX hn hpre hwl
 refine enter_call (codeAny_mono (call w s₀ s₁ mg mb fa o pm cd doc a vs ns G Y ho (fd_plain hd) hcd hmg hobj hints hlen hg) fun r s' hq => ?_)
 obtain ⟨rfl, h2, h3, h4⟩ := hq
 exact ⟨.inl ⟨.bool true, .bool true, [], rfl, fun _ => rfl, .bool true, zm l _, fun _ => ⟨List.Pairwise.nil, fun _ hm => (nomatch hm)⟩⟩, h2, h3, h4⟩
section
variable {prog : Program} {w : World} {A : Around} {E : Value → Shared → Prop} {s : Shared} {K : Frag}
end
end Att
namespace L2
open PySem PySem.Spec PyProof.Rows
theorem pP : ∀ {vs : List Value} {ns : List Int}, IntsAre vs ns → Vals (ns.map V.int) vs
 | _, _, .nil => .nil
 | _, _, .cons n t h => .cons ⟨t, rfl⟩ (pP h)
def Only (H : Hp) : Prop := ∀ b, H b = none ∨ ∃ o xs, H b = some (.frz o (.lst xs))
theorem Et {P : Program} {w : World} {K : PySem.W.Frag} {mg mb : Str → Option Value} {CX : CXT} {k : Nat} {fa a : Addr} {fd : FuncData} {x : Str} {sp : Sp} {s₁ : Shared} {vs : List Value} {ns : List Int}
  (KX : K.In s₁.heap) (hns : s₁.heap.Ns mainGlobals mg) (hb : s₁.heap.Ns builtinsNs mb) (hbb : ∀ x : Str, x ≠ "__name__" → mb x = bootBuiltins x) (hlim : s₁.heap.NoLimit) (hg : s₁.gens = #[])
  (ha : s₁.heap.get? a = some { cls := .type "list", data := .seq vs.toArray }) (hi : IntsAre vs ns) (hl : ns.length ≤ sizeLine) (hr : gJ k callerA)
  (F : ∀ base : Heap, K.In base → base.Ns mainGlobals mg → dg P w K mg base CX k fa fd [x] sp) (hbind : ∀ (s : Shared) (u : Value), BindsTo s fd ⟨[u], []⟩ [(x, u)])
  (hsp : ∀ H : Hp, Only H → SqL K H a (ns.map V.int) → sp [.ref a] H (fun v _ => v = .bl true) fun _ _ _ => False)
  (hCX : ∀ H e s', CX [] H s₁ (fun _ _ _ => False) e s' → False) :
  codeAny (model P w) callerA (.call (.ref fa) ⟨[.ref a], []⟩) (fun r s' => r = .ok (.ret (.bool true)) ∧ OldK s₁.heap s'.heap ∧ s'.os = s₁.os ∧ AllBare s'.gens) s₁ := by
 have rv := pP hi
 have lenV := hi.length
 -- from an abstract heap in which nothing but the script may be tracked
 have core : ∀ H : Hp, Only H → SqL K H a (ns.map V.int) → HOk P w H s₁.heap → (∀ b, H b ≠ none → b = a) → (H a ≠ none → K.lookup a = none) →
   codeAny (model P w) callerA (.call (.ref fa) ⟨[.ref a], []⟩) (fun r s' => r = .ok (.ret (.bool true)) ∧ OldK s₁.heap s'.heap ∧ s'.os = s₁.os ∧ AllBare s'.gens) s₁ := by
  intro H hO hS hok hA hK
  have base_of : ∀ {b : Addr} {o : Obj}, s₁.heap.get? b = some o → H b = none → (sO s₁.heap H).get? b = some o := fun e n => Fg e n
  have noA : ∀ {b : Addr} {o : Obj} {es : Array DictEntry} {ep : Nat}, s₁.heap.get? b = some o → o.data = .dict es ep → H b = none := fun {b o es ep} e d => by
   cases q : H b with
   | none => rfl
   | some u =>
    have e' : b = a := hA b (by rw [q]; simp)
    subst e'
    rw [ha] at e; cases e
    have d' : Data.seq vs.toArray _ = Data.dict es ep := d
    cases d'
  have nsK : ∀ {b : Addr} {m : Str → Option Value}, s₁.heap.Ns b m → (sO s₁.heap H).Ns b m := fun {b m} ⟨o, es, ep, e, d, r⟩ => ⟨o, es, ep, base_of e (noA e d), d, r⟩
  have hKb : K.In (sO s₁.heap H) := fun b o e => base_of (KX b o e) (by
   cases q : H b with
   | none => rfl
   | some u =>
    have e' : b = a := hA b (by rw [q]; simp)
    subst e'
    rw [hK (by rw [q]; simp)] at e; cases e)
  have hM : Mod K mg (sO s₁.heap H) := ⟨hKb, nsK hns, ⟨mb, nsK hb, hbb⟩, let ⟨mc, h1, h2⟩ := hlim; ⟨mc, nsK h1, h2⟩⟩
  have e0 : KJ P w K mg (sO s₁.heap H) callerA [] s₁ H := ⟨rfl, hM, fun b o e => Jt e, Nat.le_of_eq (zQ _ _), trivial, fun b hb => absurd (show b ∈ ([] : List Addr) from hb) (by simp), hok, .of_eq hg⟩
  refine codeAny_mono ((F _ hKb (nsK hns)).run callerA [] s₁ H ⟨[.ref a], []⟩ [.ref a] [.ref a] _ _ hr e0 (hbind s₁ (.ref a)) (.cons rfl .nil) (hsp H hO hS)) fun r s' h => ?_
  cases r with
  | error e => exact (hCX H e s' h).elim
  | ok fl =>
   cases fl with
   | next => exact False.elim h
   | brk => exact False.elim h
   | cont => exact False.elim h
   | ret u =>
    obtain ⟨v, H', os, bare, un, hok', r', q⟩ := h
    have q' : v = .bl true := q
    subst q'
    obtain rfl : u = Value.bool true := r'
    refine ⟨rfl, OldK.of_keep fun b o e => ?_, os, bare⟩
    cases q : H b with
    | none => exact un.keep b o e q (by intro z; exact absurd (show b ∈ ([] : List Addr) from z) (by simp)) (by simp)
    | some u =>
     rcases hO b with z | ⟨ob, xs, z⟩
     ·rw [q] at z; cases z
     ·have z2 := un.frzs b ob _ z
      obtain ⟨e1, _⟩ := hok b _ z
      obtain ⟨e2, _⟩ := hok' b _ z2
      rw [e] at e1; cases e1
      exact e2
 cases hk : K.lookup a with
 | some o =>
  -- the script is one of the module's own objects
  have e := KX a o hk
  rw [ha] at e
  cases e
  refine core (fun _ => none) (fun _ => .inl rfl) (.inr ⟨_, vs.toArray, _, hk, rfl, rfl, rfl, by rw [List.size_toArray, lenV]; exact hl, by simpa using rv⟩) (fun b u z => by have z' : (none : Option HO) = some u := z; cases z') (fun b z => absurd rfl z) fun z => absurd rfl z
 | none =>
  refine core (fun b => if b = a then some (.frz { cls := .type "list", data := .seq vs.toArray } (.lst (ns.map V.int))) else none) (fun b => ?_) (.inl (.inr ⟨{ cls := .type "list", data := .seq vs.toArray }, if_pos rfl⟩)) (fun b u z => ?_) (fun b z => ?_) fun _ => hk
  ·by_cases hb : b = a
   ·exact .inr ⟨_, _, if_pos hb⟩
   ·exact .inl (if_neg hb)
  ·by_cases hb : b = a
   ·have z' := (if_pos hb).symm.trans z
    cases z'
    subst hb
    exact ⟨ha, by rw [List.length_map]; exact hl, vs, _, rv, ha⟩
   ·have z' := (if_neg hb).symm.trans z
    cases z'
  ·by_cases hb : b = a
   ·exact hb
   ·exact absurd (if_neg hb) z
theorem Gv {l : PySem.W.OpenLaw} {n k : Nat} {q : Program} {loose : List Str} {XP : (Str → Option Value) → Heap → Prop} {YP : World → Heap → Prop} {d : DefRec} {K : Params → PySem.W.Frag} {CX : World → CXT} {sp : World → Sp} {x : Str}
  (hn : l.most = some n) (hn2 : n ≤ sizeLine) (hdf : d.params.defaults = []) (hr : gJ k callerA)
  (hY : ∀ (w : World) (h : Heap), YP w h → (K w.params).In h)
  (F : ∀ (w : World) (mg : Str → Option Value) (fa : Addr) (h : Heap), (K w.params).In h → h.Ns mainGlobals mg → mg d.name = some (.ref fa) →
   ∃ fd : FuncData, (∀ (s : Shared) (u : Value), BindsTo s fd ⟨[u], []⟩ [(x, u)]) ∧
    ∀ base : Heap, (K w.params).In base → base.Ns mainGlobals mg → dg l.prog w (K w.params) mg base (CX w) k fa fd [x] (sp w))
  (hsp : ∀ (w : World) (H : Hp) (a : Addr) (ns : List Int), ns.length ≤ n → Only H → SqL (K w.params) H a (ns.map V.int) → sp w [.ref a] H (fun v _ => v = .bl true) fun _ _ _ => False)
  (hCX : ∀ (w : World) (H : Hp) (s : Shared) (e : Value) (s' : Shared), CX w [] H s (fun _ _ _ => False) e s' → False) :
  PySem.W.WalkO q loose XP YP l.row.toRowW d [] (fun f vs => PySem.call f vs) := by
 refine Att.vf hn hdf fun w s₀ s₁ mg mb fa o pm cd doc a vs ns G Y ho hd hcd hmg hobj hints hlen hg => ?_
 have KX := hY w _ Y
 obtain ⟨fd, hb, hF⟩ := F w mg fa _ KX G.T.g hmg
 exact Et KX G.T.g G.T.b G.T.builtins G.T.nolimit hg hobj hints (Nat.le_trans hlen hn2) hr hF hb (fun H hO hS => hsp w H a ns hlen hO hS) fun H e s' => hCX w H s₁ e s'
def bH (s : Stmt) : Arguments := match s with
 | .FunctionDef _ a _ _ _ _ _ _ _ _ => a
 | _ => { posonlyargs := [], args := [], vararg := none, kwonlyargs := [], kw_defaults := [], kwarg := none, defaults := [] }
def bB (s : Stmt) : List Stmt := match s with
 | .FunctionDef _ _ b _ _ _ _ _ _ _ => b
 | _ => []
def ak (s : Stmt) : Scope := match s with
 | .FunctionDef _ _ _ _ _ _ sc _ _ _ => sc
 | _ => { kind := .function, names := [], isGenerator := false, isCoroutine := false }
abbrev CX0 : CXT := fun _ _ _ _ _ _ => False
abbrev E0 : XK := fun _ _ _ => False
theorem PK {X : Cx} : wR CX0 X E0 := fun _ _ _ _ _ _ _ h => h.elim
structure Fun (K : PySem.W.Frag) (x qual : Str) (st : Stmt) (f : Addr) (fd : FuncData) : Prop where
 ex : ∃ (oc : Value) (od : Option Addr) (kV doc pm : Value) (an : Option Addr) (cdv ct : Value) (osl : Array (Option Value)),
  fd = PySem.W.fnOf x qual (bH st) (bB st) (ak st) .none kV doc pm an cdv ct ∧ K.lookup f = some ⟨oc, od, .func fd, osl⟩ ∧ PySem.W.codeIn K cdv qual = true
 kp : PySem.W.keepIn K (.ref f) = true
section
variable {P : Program} {w : World} {K : PySem.W.Frag} {mg : Str → Option Value} {base : Heap}
theorem Fun.ok {x qual : Str} {st : Stmt} {f : Addr} {fd : FuncData} {N ps : List Str} {k : Nat} {sp : Sp} (F : Fun K x qual st f fd) (S : bJ N ps (ak st)) (len : ∀ vs H Q E, sp vs H Q E → vs.length = ps.length)
  (hbody : ∀ (cdv : Value) (A : Around) (outer : List Env) (s : Shared) (H : Hp) (vs : List V) (Q : VK) (E : XK), gJ k (A.deeper (envOfC qual (ak st) s.heap.objs.size f cdv)) → sp vs H Q E →
   ∃ t, PSs (wG CX0 P w K mg base N qual (ak st) f cdv A outer s H E).nox (bB st) t ∧ t { nx := fun _ H' => Q .non H', rt := Q } (start N vs) H) : dg P w K mg base CX0 (k + 1) f fd ps sp := by
 obtain ⟨oc, od, kV, doc, pm, an, cdv, ct, osl, rfl, lk, hcd⟩ := F.ex
 refine Qi lk hcd S len fun A outer s H vs Q E hr hsp => ?_
 obtain ⟨t, h, q⟩ := hbody cdv A outer s H vs Q E hr hsp
 exact ⟨t, h.nox, q⟩
theorem Fun.binds {x qual : Str} {st : Stmt} {f : Addr} {fd : FuncData} {ps : List Str} (F : Fun K x qual st f fd)
  (h : ∀ (kV doc pm : Value) (an : Option Addr) (cdv ct : Value) (us : List Value), us.length = ps.length → bindArgs (PySem.W.fnOf x qual (bH st) (bB st) (ak st) .none kV doc pm an cdv ct) ⟨us, []⟩ = pure (ps.zip us)) : Binds K fd ps [] := by
 obtain ⟨oc, od, kV, doc, pm, an, cdv, ct, osl, rfl, lk, hcd⟩ := F.ex
 exact .all (h kV doc pm an cdv ct)
theorem aX {x qual : Str} {st : Stmt} {f : Addr} {oc : Value} {od an : Option Addr} {osl : Array (Option Value)} {kV doc pm cdv ct : Value} (l : K.lookup f = some ⟨oc, od, .func (PySem.W.fnOf x qual (bH st) (bB st) (ak st) .none kV doc pm an cdv ct), osl⟩)
  (c : PySem.W.codeIn K cdv qual = true) (k : PySem.W.keepIn K (.ref f) = true) : Fun K x qual st f (PySem.W.fnOf x qual (bH st) (bB st) (ak st) .none kV doc pm an cdv ct) := ⟨⟨oc, od, kV, doc, pm, an, cdv, ct, osl, rfl, l, c⟩, k⟩
end
section
variable {X : Cx}
end
def Same (H H' : Hp) : Prop := ∀ b o, H b = some o → H' b = some o
theorem Same.refl (H : Hp) : Same H H := fun _ _ h => h
theorem Same.trans {H H1 H2 : Hp} (a : Same H H1) (b : Same H1 H2) : Same H H2 := fun c o h => b c o (a c o h)
theorem Same.seq {K : PySem.W.Frag} {H H' : Hp} {a : Addr} {xs : List V} (e : Same H H') (h : SqL K H a xs) : SqL K H' a xs := by
 rcases h with (h | ⟨o, h⟩) | h
 ·exact .inl (.inl (e _ _ h))
 ·exact .inl (.inr ⟨o, e _ _ h⟩)
 ·exact .inr h
end L2
set_option maxHeartbeats 4000000
namespace L2
open PySem PySem.Spec PyProof.Rows
theorem oN {env : Env} : ∀ (names : List (Str × NameKind)) (acc : List (Str × Addr)),
  (∀ y ∈ names, y.2 = .free → ∃ c, env.cells.lookup y.1 = some c) → (∀ x c, acc.lookup x = some c → env.cells.lookup x = some c) →
  ∃ cl, (forIn names acc fun (y : Str × NameKind) (r : List (Str × Addr)) => (match y with
   | (name, kind) => if (kind == .free) = true then (do let a ← cellOf env name; pure (ForInStep.yield ((name, a) :: r))) else pure (ForInStep.yield r) : Sem (ForInStep (List (Str × Addr))))) = pure cl ∧
   (∀ x c, cl.lookup x = some c → env.cells.lookup x = some c) ∧ (∀ y ∈ names, y.2 = .free → ∃ c, cl.lookup y.1 = some c) ∧ (∀ x c, acc.lookup x = some c → ∃ c', cl.lookup x = some c')
 | [], acc, _, ha => ⟨acc, rfl, ha, fun _ h => (nomatch h), fun x c h => ⟨c, h⟩⟩
 | (n, k) :: r, acc, hf, ha => by
  have hf' : ∀ y ∈ r, y.2 = .free → ∃ c, env.cells.lookup y.1 = some c := fun y hy => hf y (List.mem_cons_of_mem _ hy)
  by_cases hk : k = .free
  ·subst hk
   obtain ⟨c0, e0⟩ := hf (n, .free) List.mem_cons_self rfl
   have hce : cellOf env n = pure c0 := by unfold cellOf; rw [e0]
   have ha2 : ∀ x c, ((n, c0) :: acc).lookup x = some c → env.cells.lookup x = some c := fun x c h => by
    rw [List.lookup_cons] at h
    cases hx : x == n with
    | true =>
     rw [hx] at h
     have e1 : x = n := by simpa using hx
     rw [e1, e0]
     exact h
    | false =>
     rw [hx] at h
     exact ha x c h
   obtain ⟨cl, e, h1, h2, h3⟩ := oN r ((n, c0) :: acc) hf' ha2
   refine ⟨cl, ?_, h1, fun y hy hz => ?_, fun x c h => ?_⟩
   ·rw [List.forIn_cons]
    simp only [beq_self_eq_true, if_true, hce]
    exact e
   ·rcases List.mem_cons.mp hy with q | q
    ·subst q
     exact h3 n c0 (by simp)
    ·exact h2 y q hz
   ·cases hx : x == n with
    | true => exact h3 x c0 (by rw [List.lookup_cons, hx])
    | false => exact h3 x c (by rw [List.lookup_cons, hx]; exact h)
  ·have hb : (k == NameKind.free) = false := by simpa using hk
   obtain ⟨cl, e, h1, h2, h3⟩ := oN r acc hf' ha
   refine ⟨cl, ?_, h1, fun y hy hz => ?_, h3⟩
   ·rw [List.forIn_cons]
    simp only [hb, Bool.false_eq_true, if_false]
    exact e
   ·rcases List.mem_cons.mp hy with q | q
    ·subst q
     exact absurd hz hk
    ·exact h2 y q hz
theorem sY {env : Env} {scope : Scope} (hf : ∀ y ∈ scope.names, y.2 = .free → ∃ c, env.cells.lookup y.1 = some c) :
  ∃ cl, closureFor scope env = pure cl ∧ (∀ x c, cl.lookup x = some c → env.cells.lookup x = some c) ∧ (∀ y ∈ scope.names, y.2 = .free → ∃ c, cl.lookup y.1 = some c) := by
 obtain ⟨cl, e, h1, h2, _⟩ := oN (env := env) scope.names [] hf (fun x c h => by simp at h)
 refine ⟨cl, ?_, h1, h2⟩
 unfold closureFor
 show (forIn scope.names [] _ >>= fun r => pure r) = _
 rw [show (forIn scope.names ([] : List (Str × Addr)) fun (y : Str × NameKind) (r : List (Str × Addr)) => (match y with
   | (name, kind) => if (kind == .free) = true then (do let a ← cellOf env name; pure (ForInStep.yield ((name, a) :: r))) else pure (ForInStep.yield r) : Sem (ForInStep (List (Str × Addr))))) = pure cl from e]
 rfl
section
variable {prog : Program} {w : World} {A : Around} {R : Result → Shared → Prop} {s : Shared}
theorem qI {elt tg iter : Expr} {ifs : List Expr} {scope : Scope} {pos : Pos} {it acc : Value} {env : Env} (J : Nat → Shared → Prop)
  (turn : ∀ n s, J n s → wpAny (model prog w) A (pyNext it) (fun r s1 => match r with
   | none => R (.ok .next) s1
   | some v => wpAny (model prog w) A (letOwnedTupleGo tg it v) (fun _ s1' => wpAny (model prog w) A (assign tg env v) (fun _ s2 =>
     wpAny (model prog w) A (forIn ifs true fun c r => if r = true then do let ok ← isTrue c env (eval c env); pure (ForInStep.yield ok) else pure (ForInStep.yield r)) (fun ok s3 =>
      if ok = true then wpAny (model prog w) A (eval elt env) (fun x s4 =>
       wpAny (model prog w) A (call (.builtin "list.append") [acc, x]) (fun _ s5 => ∃ m, m < n ∧ J m s5) (notedBy (model prog w) A env fun e z => R (.error e) z) s4) (notedBy (model prog w) A env fun e z => R (.error e) z) s3
      else ∃ m, m < n ∧ J m s3) (notedBy (model prog w) A env fun e z => R (.error e) z) s2) (notedBy (model prog w) A env fun e z => R (.error e) z) s1') (notedBy (model prog w) A env fun e z => R (.error e) z) s1) (notedBy (model prog w) A env fun e z => R (.error e) z) s)
  (n : Nat) (h : J n s) : codeAny (model prog w) A (.compLoop (.ListComp elt [⟨tg, iter, ifs, 0⟩] scope pos) 0 it acc env) R s := by
 refine codeAny_loop rfl J (fun n z hJ => ?_) n h
 show wpAny _ A ((compTurn (.ListComp elt [⟨tg, iter, ifs, 0⟩] scope pos) 0 it acc env).onRaise (fun y => do noteFrame y env; theTreesLotGoes y)) _ _ z
 refine wpAny_noted ?_
 rw [compTurn_list]
 refine wpAny_bind (wpAny_standAt (wpAny_bind (wpAny_mono (turn n z hJ) (fun r s1 h1 => ?_) fun _ _ q => q)))
 cases r with
 | none => exact wpAny_pure h1
 | some v =>
  refine wpAny_bind (wpAny_mono h1 (fun _ s1' h1' => ?_) fun _ _ q => q)
  refine wpAny_bind (wpAny_mono h1' (fun _ s2 h2 => wpAny_bind (wpAny_mono h2 (fun ok s3 h3 => ?_) fun _ _ q => q)) fun _ _ q => q)
  cases ok with
  | false => exact wpAny_pure ⟨rfl, h3⟩
  | true =>
   exact wpAny_bind (wpAny_bind (wpAny_mono h3 (fun x s4 h4 => wpAny_bind (wpAny_mono h4 (fun _ s5 h5 => wpAny_pure (wpAny_pure ⟨rfl, h5⟩)) fun _ _ q => q)) fun _ _ q => q))
end
def fZ (mp : List (Option Nat)) (σ : St) : St := mp.map fun o => match o with
 | some j => (σ[j]?).join
 | none => none
def aU (X : Cx) (N : List Str) (scope : Scope) (cl : List (Str × Addr)) (C : Addr) (s : Shared) (H : Hp) (fp : List Addr) : Cx :=
 { X with N := N, s₀ := s, H₀ := H, env := compEnvC scope cl C X.env, outer := X.stack, stack := X.stack, ex := fp, fn := fun _ => false, pn := [], xe := fun _ _ => False }
def jU (NX : List Str) (names : List (Str × NameKind)) : List Str → List (Option Nat) → Bool
 | [], [] => true
 | x :: r, o :: q => (match o with
   | none => names.lookup x == some .local
   | some j => NX[j]? == some x && names.lookup x == some .free) && jU NX names r q
 | _, _ => false
theorem qu {NX : List Str} {names : List (Str × NameKind)} : ∀ {N : List Str} {mp : List (Option Nat)} {i j : Nat} {x : Str}, jU NX names N mp = true → N[i]? = some x → mp[i]? = some (some j) → NX[j]? = some x ∧ names.lookup x = some .free
 | [], _, i, _, _, _, h, _ => by simp at h
 | _ :: _, [], _, _, _, h, _, _ => by simp [jU] at h
 | y :: r, o :: q, 0, j, x, h, h1, h2 => by
  simp at h1 h2
  subst h1 h2
  unfold jU at h
  simp only [Bool.and_eq_true, beq_iff_eq] at h
  exact h.1
 | y :: r, o :: q, i + 1, j, x, h, h1, h2 => by
  unfold jU at h
  rw [Bool.and_eq_true] at h
  exact qu (i := i) h.2 (by simpa using h1) (by simpa using h2)
theorem qt {NX : List Str} {names : List (Str × NameKind)} : ∀ {N : List Str} {mp : List (Option Nat)}, jU NX names N mp = true → mp.length = N.length
 | [], [], _ => rfl
 | [], _ :: _, h => by simp [jU] at h
 | _ :: _, [], h => by simp [jU] at h
 | _ :: r, _ :: q, h => by
  unfold jU at h
  rw [Bool.and_eq_true] at h
  simp [qt h.2]
structure mY (NX : List Str) (kX : List (Str × NameKind)) (N : List Str) (mp : List (Option Nat)) (scope : Scope) : Prop where
 kind : scope.kind = .function
 nocell : ∀ y ∈ scope.names, y.2 ≠ .cell
 locs : ∀ y ∈ scope.names, y.2 = .local → scope.names.lookup y.1 = some .local
 fre : ∀ y ∈ scope.names, y.2 = .free → kX.lookup y.1 = some .cell ∨ kX.lookup y.1 = some .free
 map : jU NX scope.names N mp = true
def PTs (X : Cx) (cs : List Expr) (t : TT) : Prop :=
 ∀ (pins : List (Addr × Obj)) (s : Shared) (σ : St) (H : Hp) (Q : Bool → Hp → Prop), Inv X pins σ H s → t σ H Q →
  wpAny (model X.prog X.w) X.A (forIn cs true fun c r => if r = true then do let ok ← isTrue c X.env (eval c X.env); pure (ForInStep.yield ok) else pure (ForInStep.yield r)) (TP X pins σ Q) X.xe s
def GF : TT := fun _ H Q => Q true H
theorem Ij {X : Cx} : PTs X [] GF := fun _ _ _ H _ I h => wpAny_tests_nil ⟨H, I, h⟩
theorem Ii {X : Cx} {c : Expr} {t : TT} (h : PT X c t) : PTs X [c] t := fun pins s σ H Q I q => wpAny_tests_one (h pins s σ H Q I q)
def pU (mp : List (Option Nat)) (wi : TI) (g : TG) (tc : TT) (te : TE) : TE := fun σ H Q => wi σ H fun J H1 =>
 ∃ W : Nat → Nat → List V → St → Hp → Prop, (∃ m, W 0 m [] (fZ mp σ) H1) ∧ ∀ i m acc τ H2, W i m acc τ H2 →
  (J.stop i H2 ∧ ∀ d, H2 d = none → Q (.ref d) (upd H2 d (.lst acc))) ∨
  (J.go i H2 ∧ acc.length < sizeLine ∧ ∃ N : List V → St → Hp → Prop, (∀ acc' τ' H', N acc' τ' H' → ∃ m', m' < m ∧ W (i + 1) m' acc' τ' H') ∧ ∀ x H3, J.yld i H2 x H3 → g x τ H3 fun τ1 H4 => tc τ1 H4 fun b H5 =>
   if b = true then te τ1 H5 fun v H6 => N (acc ++ [v]) τ1 H6 else N acc τ1 H5)
theorem eO {env : Env} : ∀ {names : List (Str × NameKind)} {x : Str} {k : NameKind}, (names.map fun (n, k) => if (k == NameKind.free && env.scope.kind == .function && env.kindOf n == some .cell) then (n, NameKind.cell) else (n, k)).lookup x = some k →
  names.lookup x = some k ∨ (k = .cell ∧ names.lookup x = some .free)
 | [], _, _, h => by simp at h
 | (n, k0) :: r, x, k, h => by
  have ih := @eO env r x k
  rw [List.map_cons] at h
  by_cases hc : (k0 == NameKind.free && env.scope.kind == .function && env.kindOf n == some .cell) = true
  ·simp only [hc, if_true] at h
   cases hx : x == n with
   | true =>
    rw [List.lookup_cons, hx] at h
    have hk : k0 = .free := by
     rw [Bool.and_eq_true, Bool.and_eq_true] at hc
     simpa using hc.1.1
    right
    refine ⟨(Option.some.inj h).symm, ?_⟩
    rw [List.lookup_cons, hx, hk]
   | false =>
    rw [List.lookup_cons, hx] at h
    rw [List.lookup_cons, hx]
    exact ih h
  ·simp only [hc, if_false] at h
   cases hx : x == n with
   | true =>
    rw [if_neg (by simp), List.lookup_cons, hx] at h
    rw [List.lookup_cons, hx]
    exact .inl h
   | false =>
    rw [if_neg (by simp), List.lookup_cons, hx] at h
    rw [List.lookup_cons, hx]
    exact ih h
theorem na0 {b D E : Nat} (h : b < E) (hD : E = D) : b ≠ D := by omega
theorem na1 {b D E C : Nat} (h : b < E) (hD : E = D) (hC : C = D + 1) : b ≠ C := by omega
theorem na2 {C D : Nat} (hC : C = D + 1) : D ≠ C := by omega
theorem na3 {C D E : Nat} (hD : E = D) (hC : C = D + 1) : E ≤ C := by omega
theorem na4 {D E : Nat} (hD : E = D) : E ≤ D := by omega
section
variable {X : Cx} {NX N : List Str} {kX : List (Str × NameKind)} {mp : List (Option Nat)} {scope : Scope} {pins : List (Addr × Obj)} {σ : St} {s s' : Shared} {H : Hp} {fp : List Addr} {cl : List (Str × Addr)} {C : Addr}
theorem sW (hkX : X.env.scope.names = kX) (S : mY NX kX N mp scope) (I : Inv X pins σ H s) (hfp : ∀ b ∈ fp, j9 X pins H b) (hold : ∀ b ∈ fp, b < s.heap.objs.size) (hC : s.heap.objs.size ≤ C)
  (hsub : ∀ x c, cl.lookup x = some c → X.env.cells.lookup x = some c) (hhas : ∀ y ∈ scope.names, y.2 = .free → ∃ c, cl.lookup y.1 = some c) : (aU X N scope cl C s H fp).Ok where
 mod := I.ok.mod
 kind := S.kind
 glob := I.ok.glob
 blt := I.ok.blt
 above := hC
 inj := fun x y c h1 h2 => I.ok.inj x y c (hsub x c h1) (hsub y c h2)
 has := fun x h => by
  have key : scope.names.lookup x = some .free := by
   rcases h with h | h
   ·rcases eO (env := X.env) (names := scope.names) h with q | ⟨_, q⟩
    ·exact absurd rfl (S.nocell _ (PySem.mem_of_lookup q))
    ·exact q
   ·rcases eO (env := X.env) (names := scope.names) h with q | ⟨q, _⟩
    ·exact q
    ·cases q
  exact hhas _ (PySem.mem_of_lookup key) rfl
 cab := fun x c h => by cases h
 hd := I.ok.hd
 frames := I.ok.frames
 stk := .inl rfl
 exf := fun b hb => ⟨Nat.ne_of_lt (Nat.lt_of_lt_of_le (hold b hb) hC), fun x c e => (hfp b hb).2.2.2.2.1 x c (hsub x c e)⟩
 bs := I.bs
 bsz := Nat.le_trans I.ok.bsz I.sz
 noex := fun b o e hb => by
  rcases (hfp b hb).2.2.2.1 with q | q
  ·exact I.ok.noex b o e q
  ·exact absurd (Nat.lt_of_lt_of_le (Nat.lt_of_lt_of_le (Heap.lt_size e) I.ok.bsz) q) (Nat.lt_irrefl _)
 exfs := fun b hb hz => by
  obtain ⟨_, h1, h2, _⟩ := hfp b hb
  rcases List.mem_cons.mp (I.lY b hz) with q | q
  ·exact h1 q
  ·exact h2 q
 nu := I.stack
 frf := I.w6
theorem sX (hNX : X.N = NX) (hkX : X.env.scope.names = kX) (S : mY NX kX N mp scope) (I : Inv X pins σ H s) (hfp : ∀ b ∈ fp, j9 X pins H b) (hold : ∀ b ∈ fp, b < s.heap.objs.size) (hC : s.heap.objs.size ≤ C)
  (hsub : ∀ x c, cl.lookup x = some c → X.env.cells.lookup x = some c) (hhas : ∀ y ∈ scope.names, y.2 = .free → ∃ c, cl.lookup y.1 = some c)
  (ho : s'.os = s.os) (hg : s'.gens = s.gens) (hn : ∃ m, s'.heap.Ns C m) (hk : ∀ b o, s.heap.get? b = some o → s'.heap.get? b = some o) {pl : List (Addr × Obj)}
  (hp : ∀ p ∈ pl, s'.heap.get? p.1 = some p.2 ∧ H p.1 = none ∧ p.1 ≠ C ∧ p.1 ∉ frs X.stack ∧ ∀ v, p.2.data ≠ .cell v) :
  Inv (aU X N scope cl C s H fp) pl (fZ mp σ) H s' where
 ok := sW hkX S I hfp hold hC hsub hhas
 os := ho
 bare := by rw [hg]; exact I.bare
 base := Un.kept hk
 loc := by
  obtain ⟨m, hm⟩ := hn
  refine ⟨m, hm, fun i x v h1 h2 h3 => ?_⟩
  have h2' : (mp.map fun o => match o with | some j => (σ[j]?).join | none => none)[i]? = some (some v) := h2
  rw [List.getElem?_map] at h2'
  cases e : mp[i]? with
  | none => rw [e] at h2'; cases h2'
  | some o =>
   rw [e] at h2'
   cases o with
   | none => cases h2'
   | some j =>
    have h4 : (σ[j]?).join = some v := by simpa using h2'
    have h5 : σ[j]? = some (some v) := by
     cases q : σ[j]? with
     | none => rw [q] at h4; cases h4
     | some z => rw [q] at h4; rw [show z = some v from h4]
    obtain ⟨g1, g2⟩ := qu S.map h1 e
    have fk := S.fre _ (PySem.mem_of_lookup g2) rfl
    obtain ⟨m0, _, hl⟩ := I.loc
    have vis : Vis X.env.scope x := by
     rcases fk with q | q
     ·exact .inr (.inl (by rw [hkX]; exact q))
     ·exact .inr (.inr (by rw [hkX]; exact q))
    obtain ⟨u, r, l⟩ := hl j x v (by rw [hNX]; exact g1) h5 vis
    refine ⟨u, r, .inr ?_⟩
    have l' : ∃ c, X.env.cells.lookup x = some c ∧ s.heap.IsCell c (some u) := by
     rcases l with ⟨q, _⟩ | ⟨_, q⟩
     ·have q' : X.env.scope.names.lookup x = some .local := q
      rw [hkX] at q'
      rcases fk with z | z
      ·rw [q'] at z; cases z
      ·rw [q'] at z; cases z
     ·exact q
    obtain ⟨c, hc, oc, hoc, hd⟩ := l'
    obtain ⟨c', hc'⟩ := hhas _ (PySem.mem_of_lookup g2) rfl
    have ec : c' = c := by
     have := hsub x c' hc'
     rw [hc] at this
     exact (Option.some.inj this).symm
    subst ec
    refine ⟨?_, c', hc', oc, hk _ _ hoc, hd⟩
    rcases h3 with q | q | q
    ·rcases eO (env := X.env) (names := scope.names) q with z | ⟨z, _⟩
     ·rw [g2] at z; cases z
     ·cases z
    ·exact .inl q
    ·exact .inr q
 cell := fun x c e => by
  obtain ⟨v, o, h1, h2⟩ := I.cell x c (hsub x c e)
  exact ⟨v, o, hk _ _ h1, h2⟩
 free := I.hok.fresh hC
 freeC := fun x c e => I.freeC x c (hsub x c e)
 pin := fun p hpp => hp p (by simpa [aU] using hpp)
 hok := I.hok.kept hk
 len := by
  show (mp.map _).length = N.length
  rw [List.length_map]
  exact qt S.map
set_option maxHeartbeats 8000000 in
theorem Je {tg iter elt : Expr} {ifs : List Expr} {pos : Pos} {wi : TI} {g : TG} {tc : TT} {te : TE} (N : List Str) (mp : List (Option Nat)) (hNX : X.N = NX) (hkX : X.env.scope.names = kX) (S : mY NX kX N mp scope) (hc : X.calm = true)
  (hi : PI X tg iter wi) (hg : ∀ cl C s H fp, PG (aU X N scope cl C s H fp) tg g) (ht : ∀ cl C s H fp, PTs (aU X N scope cl C s H fp) ifs tc) (he : ∀ cl C s H fp, PE (aU X N scope cl C s H fp) elt te)
  (hs : ∀ x, foldedSetIterable iter X.env x = pure x := by intro _; rfl) : PE X (.ListComp elt [⟨tg, iter, ifs, 0⟩] scope pos) (pU mp wi g tc te) := by
 intro pins s σ H Q I h
 obtain ⟨cl, hcl, hsub, hhas⟩ := sY (env := X.env) (scope := scope) fun y hy hf => I.ok.has y.1 (by
  rcases S.fre y hy hf with q | q
  ·exact .inl (show X.env.scope.names.lookup y.1 = _ by rw [hkX]; exact q)
  ·exact .inr (show X.env.scope.names.lookup y.1 = _ by rw [hkX]; exact q))
 rw [eval_ListComp]
 refine wpAny_comprehension_free (use := none) rfl hs hcl S.kind S.locs ?_
 refine thn (hi pins s σ H _ I h) fun v s1 h1 => thn h1 fun itv s2 h2 => ?_
 obtain ⟨it, fp, tn, J, H2, e, I2, T, st2, f2, W, ⟨m0, w0⟩, turn⟩ := h2
 subst e
 refine wpAny_newObj_type (wpAny_newFunctionEnv S.nocell (by intro y hy; simp at hy) (fun h3 hns hsb => ?_) S.kind)
 dsimp only at hns hsb ⊢
 have hold : ∀ b ∈ fp, b < s2.heap.objs.size := fun b hb => by
  obtain ⟨o, q, _⟩ := T.obj _ _ st2 b hb
  exact Heap.lt_size q
 generalize hD : s2.heap.objs.size = D at hns hsb
 generalize hH2 : s2.heap.push { cls := .type "list", dict := none, data := .seq ([] : List Value).toArray } = P2 at hns hsb ⊢
 have hC : P2.objs.size = D + 1 := by rw [← hH2, Heap.size_push, hD]
 generalize hC' : P2.objs.size = C at hns hsb ⊢
 rw [hC'] at hC
 have old : ∀ b o, s2.heap.get? b = some o → h3.get? b = some o := fun b o q => by
  have hb := Heap.lt_size q
  exact hsb.extBut b o (na1 hb hD hC) (Heap.get?_push_of_some _ (hH2 ▸ Heap.get?_push_of_some _ q))
 have accD : h3.get? D = some { cls := .type "list", data := .seq ([] : List Value).toArray } :=
  hsb.extBut _ _ (na2 hC) (Heap.get?_push_of_some _ (by rw [← hH2, ← hD]; exact Heap.get?_push_size _ rfl))
 have hfr : D ∉ frs X.stack := fun z => by
  rcases List.mem_cons.mp (I2.lY D z) with q | q
  ·exact na0 I2.lt hD q.symm
  ·exact I2.Ju (na4 hD) q
 have I0 : Inv (aU X N scope cl C s2 H2 fp) [(D, { cls := .type "list", data := .seq ([] : List Value).toArray })] (fZ mp σ) H2 { s2 with heap := h3, toks := s2.toks + ([] : List (Str × Value)).length } :=
  sX (s' := { s2 with heap := h3, toks := s2.toks + ([] : List (Str × Value)).length }) hNX hkX S I2 f2 hold (na3 hD hC) hsub hhas rfl rfl ⟨_, hns⟩ old fun p hp => by
   have ep := List.mem_singleton.mp hp
   subst ep
   exact ⟨accD, I2.hok.fresh (na4 hD), na2 hC, hfr, fun v z => by cases z⟩
 have T0 : tn 0 h3 := T.keep _ _ _ st2 fun b _ o q => old b o q
 have loop : ∀ z : Shared, z = { s2 with heap := h3, toks := s2.toks + ([] : List (Str × Value)).length } →
   codeAny (model X.prog X.w) X.A (.compLoop (.ListComp elt [⟨tg, iter, ifs, 0⟩] scope pos) 0 (.ref it) (.ref D) (compEnvC scope cl C X.env))
    (compPost (model X.prog X.w) X.A X.xe none (EP X pins σ Q) (.ref D) C) z := by
  rintro z rfl
  have stat : ∀ {H' : Hp} {pl : List (Addr × Obj)}, (∀ b ∈ fp, H' b = none) → (∀ p ∈ pl, p.1 = D) → ∀ b ∈ fp, j9 (aU X N scope cl C s2 H2 fp) pl H' b := fun hn hp b hb => by
   have hb2 := hold b hb
   refine ⟨hn b hb, na1 hb2 hD hC, (sW hkX S I2 f2 hold (na3 hD hC) hsub hhas).exfs b hb, .inl hb, fun x c q => (f2 b hb).2.2.2.2.1 x c (hsub x c q), fun p hpp => ?_⟩
   have hpD := hp p (by simpa [aU] using hpp)
   rw [hpD]
   exact (na0 hb2 hD).symm
  refine qI (env := compEnvC scope cl C X.env) (fun n z => ∃ i acc τ H' its k, Inv (aU X N scope cl C s2 H2 fp) [(D, { cls := .type "list", data := .seq (List.toArray its) k })] τ H' z ∧ tn i z.heap ∧ (∀ b ∈ fp, H' b = none) ∧ Vals acc its ∧ acc.length ≤ sizeLine ∧ W i n acc τ H')
   ?_ m0 ⟨0, [], _, H2, [], 0, I0, T0, fun b hb => (f2 b hb).1, .nil, Nat.zero_le _, w0⟩
  rintro n s5 ⟨i, acc, τ, H5, its, k, I5, st5, fr5, va, hz, w5⟩
  rcases turn i n acc τ H5 w5 with ⟨stop, qn⟩ | ⟨go, hz2, N9, hN9, step⟩
  ·refine thn (T.done (aU X N scope cl C s2 H2 fp) rfl rfl rfl hc i _ s5 τ H5 _ I5 (stat fr5 (by simp)) st5 stop) fun r s6 ⟨hr, I6⟩ => ?_
   subst hr
   obtain ⟨m6, hn6, _⟩ := I6.loc
   refine ⟨m6, hn6, fun h' sb => ?_⟩
   obtain ⟨dD, nD, _, _, _⟩ := I6.pin (D, _) (List.mem_append_right _ (List.mem_singleton.mpr rfl))
   have U := I6.base
   have nC : H5 C = none := I6.free
   have ne : ∀ b o, s2.heap.get? b = some o → b ≠ C ∧ b ≠ D := fun b o q => by
    exact ⟨na1 (Heap.lt_size q) hD hC, na0 (Heap.lt_size q) hD⟩
   have keepC : ∀ b o, b ≠ C → s6.heap.get? b = some o → h'.get? b = some o := fun b o hb q => (sb.2 b hb).trans q
   have U' : Un (frs X.stack) fp H2 (upd H5 D (.lst acc)) s2.heap h' := by
    refine ⟨fun b o q n1 hb hx => keepC b o (ne b o q).1 (U.keep b o q n1 hb hx), fun b o q n1 hb hx => ?_, fun b o q n1 hx => ?_, fun b o q hx => ?_, fun b xs q => ?_, fun b o xs q => ?_, fun b ps q => ?_⟩
    ·obtain ⟨sl, z⟩ := U.slot b o q n1 hb hx
     exact ⟨sl, keepC b _ (ne b o q).1 z⟩
    ·rw [aJ (ne b o q).2]
     exact U.free b o q n1 hx
    ·obtain ⟨o', z⟩ := U.there b o q hx
     exact ⟨o', keepC b _ (ne b o q).1 z⟩
    ·have z := U.tups b xs q
     rw [aJ (aB z nD)]
     exact z
    ·have z := U.frzs b o xs q
     rw [aJ (aB z nD)]
     exact z
    ·obtain ⟨more, z⟩ := U.tbls b ps q
     exact ⟨more, by rw [aJ (aB z nD)]; exact z⟩
   have hok : HOk X.prog X.w (upd H5 D (.lst acc)) h' := fun b u q => by
    by_cases hb : b = D
    ·subst hb
     rw [aD] at q
     cases q
     exact ⟨hz, its, k, va, keepC _ _ (na2 hC) dD⟩
    ·rw [aJ hb] at q
     refine (I6.hok b u q).stay (fun c v hcc z => keepC c v ?_ z) (fun c z => by rw [aJ (aB z nD)]; exact z) fun c xs z => by rw [aJ (aB z nD)]; exact z
     rcases hcc with z1 | z1
     ·subst z1
      exact aB q nC
     ·exact aB z1 nC
   have I7 : Inv X pins σ (upd H5 D (.lst acc)) { s6 with heap := h' } := I2.call' (s' := { s6 with heap := h' }) (ch := fp) I6.os U' hok I6.bare fun b hb => by
    obtain ⟨_, a2, _, a4, a5, a6⟩ := f2 b hb
    exact ⟨a4, a2, a5, a6⟩
   exact ⟨.ref D, _, I7, rfl, qn D nD⟩
  ·refine thn (T.item (aU X N scope cl C s2 H2 fp) rfl rfl rfl hc i _ s5 τ H5 _ I5 (stat fr5 (by simp)) st5 go) fun r s6 ⟨u, hr, h6⟩ => ?_
   subst hr
   refine thn h6 fun _ s7 ⟨x, H7, I7, r7, y7, st7, fr7⟩ => ?_
   have I7' := I7.pinned (stat fr7 (by simp)) (T.obj _ _ st7)
   have no : ∀ {α : Type} {t : Sem α} {Q1 Q2 : α → Shared → Prop} {E : Value → Shared → Prop} {z : Shared}, wpAny (model X.prog X.w) X.A t Q1 (fun _ _ => False) z → (∀ a z, Q1 a z → Q2 a z) → wpAny (model X.prog X.w) X.A t Q2 E z :=
    fun q f => wpAny_mono q f fun _ _ z => z.elim
   refine no (hg cl C s2 H2 fp _ s7 τ H7 x u _ I7' r7 (step x H7 y7)) fun _ s8 ⟨τ1, H8, I8, q8⟩ => ?_
   refine no (ht cl C s2 H2 fp _ s8 τ1 H8 _ I8 q8) fun ok s9 ⟨H9, I9, q9⟩ => ?_
   have again : ∀ {H' : Hp} {z : Shared} {its' : List Value} {k' : Nat}, Inv (aU X N scope cl C s2 H2 fp) ([(D, { cls := .type "list", data := .seq (List.toArray its') k' })] ++ dO fp s7.heap) τ1 H' z →
     tn (i + 1) z.heap ∧ (∀ b ∈ fp, H' b = none) ∧ Inv (aU X N scope cl C s2 H2 fp) [(D, { cls := .type "list", data := .seq (List.toArray its') k' })] τ1 H' z := fun {H' z its' k'} Iz => by
    have get : ∀ b ∈ fp, ∀ o, s7.heap.get? b = some o → z.heap.get? b = some o ∧ H' b = none := fun b hb o q => by
     obtain ⟨a1, a2, _⟩ := Iz.pin (b, o) (List.mem_append_right _ (List.mem_append_right _ (fD hb q)))
     exact ⟨a1, a2⟩
    refine ⟨T.keep _ _ _ st7 fun b hb o q => (get b hb o q).1, fun b hb => ?_, Iz.gn⟩
    obtain ⟨o, q, _⟩ := T.obj _ _ st7 b hb
    exact (get b hb o q).2
   cases ok with
   | false =>
    rw [if_neg Bool.false_ne_true] at q9 ⊢
    obtain ⟨m', hm, w9⟩ := hN9 _ _ _ q9
    obtain ⟨a1, a2, a3⟩ := again I9
    exact ⟨m', hm, i + 1, acc, τ1, H9, its, k, a3, a1, a2, va, hz, w9⟩
   | true =>
    rw [if_pos rfl] at q9 ⊢
    refine no (he cl C s2 H2 fp _ s9 τ1 H9 _ I9 q9) fun y s10 ⟨v, H10, I10, rv, q10⟩ => ?_
    obtain ⟨m', hm, w10⟩ := hN9 _ _ _ q10
    obtain ⟨a1, a2, a3⟩ := again I10
    obtain ⟨dD, nD, _, _, _⟩ := a3.pin (D, _) (List.mem_append_right _ (List.mem_singleton.mpr rfl))
    have hlen := va.length
    refine call_meets F.slot_list_append ⟨_, dD, rfl⟩ F.entry_list_append (F.args_list_append_2 _ _) (PySem.list_append D its.toArray k y (by rw [List.size_toArray]; omega)) ⟨dD, ?_⟩
    obtain ⟨k', q⟩ : ∃ k', (s10.heap.update D (Obj.mapSeq fun a => a.push y)).get? D = some { cls := .type "list", data := .seq (its ++ [y]).toArray k' } := by
     have q := PySem.IsL.update dD (fun a => a.push y)
     rw [show its.toArray.push y = (its ++ [y]).toArray by simp] at q
     exact ⟨_, q⟩
    have a4 : Inv (aU X N scope cl C s2 H2 fp) (dO fp s7.heap) τ1 H10 s10 := I10.gW fun p hp => I10.pin p (List.mem_append_right _ (List.mem_append_right _ hp))
    have a5 : Inv (aU X N scope cl C s2 H2 fp) (dO fp s7.heap) τ1 H10 { s10 with heap := s10.heap.update D (Obj.mapSeq fun a => a.push y), toks := s10.toks } :=
     a4.turned (it := D) (fun b o hb z => (Heap.get?_update_other _ _ (Ne.symm hb)).trans z) nD (na2 hC) (.inr (na4 hD))
      (fun x c z => by
       obtain ⟨_, o, h1, _⟩ := I2.cell x c (hsub x c z)
       exact na0 (Heap.lt_size h1) hD) fun p hp => by
       have hb := (jM (by simpa [aU] using hp)).1
       exact na0 (hold _ hb) hD
    obtain ⟨b1, b2, b3⟩ := (show tn (i + 1) (s10.heap.update D (Obj.mapSeq fun a => a.push y)) ∧ (∀ b ∈ fp, H10 b = none) ∧ True from
     ⟨T.keep _ _ _ a1 fun b hb o z => (Heap.get?_update_other _ _ (na0 (hold b hb) hD).symm).trans z, a2, trivial⟩)
    refine ⟨m', hm, i + 1, acc ++ [v], τ1, H10, its ++ [y], k', a5.gW fun p hp => ?_, b1, b2, va.append (.cons rv .nil), by rw [List.length_append, List.length_singleton]; omega, w10⟩
    have ep := List.mem_singleton.mp hp
    subst ep
    exact ⟨q, nD, na2 hC, hfr, fun v z => by cases z⟩
 have e1 : { newEnv scope C X.env.globals cl X.env.qual none .none (some X.env) X.env.builtins with scope := relabel scope X.env } = compEnvC scope cl C X.env := rfl
 exact codeAny_compStart_list (loop _ rfl) (T.self _ 0 _ _ _ T0 (loop _ rfl))
end
section
variable {X : Cx} {pins : List (Addr × Obj)} {σ : St} {H : Hp} {s : Shared}
theorem Inv.wW {ch : List Addr} {h' : Heap} {t' : Nat} (I : Inv X pins σ H s) (hf : ∀ b ∈ ch, j9 X pins H b) (k : ∀ b o, b ∉ ch → s.heap.get? b = some o → h'.get? b = some o) : Inv X pins σ H { s with heap := h', toks := t' } := by
 have nit : ∀ b u, H b = some u → b ∉ ch := fun b u e z => by rw [(hf b z).1] at e; cases e
 refine I.step (g' := s.gens) (d' := s.drawn) (ch := ch) (fun b hb => ?_) (fun b o _ _ hc e _ => k b o hc e) (fun b o _ _ hc e _ => ⟨o.slots, k b o hc e⟩) (fun _ _ _ _ n => n)
  (fun b o hc e => ⟨o, k b o hc e⟩) (fun _ _ e => e) (fun _ _ _ e => e) (fun b ps e => ⟨#[], by rw [e]; simp⟩) (fun m hm => ?_) (fun b u e => ?_) I.bare
 ·obtain ⟨_, a2, _, a4, a5, a6⟩ := hf b hb
  exact ⟨a4, a2, a5, a6⟩
 ·obtain ⟨o, es, ep, ho, r⟩ := hm
  exact ⟨o, es, ep, k _ o (fun z => (hf _ z).2.1 rfl) ho, r⟩
 ·refine (I.hok b u e).stay (fun c v hc q => k c v ?_ q) (fun _ q => q) fun _ _ q => q
  rcases hc with z | z
  ·rw [z]; exact nit b u e
  ·exact nit c _ z
theorem Inv.wV {ch : List Addr} {h' : Heap} {t' : Nat} {p : Addr} {o : HO} (I : Inv X pins σ H s) (hf : ∀ b ∈ ch, j9 X pins H b) (k : ∀ b o, b ∉ ch → s.heap.get? b = some o → h'.get? b = some o) (hp : s.heap.objs.size ≤ p)
  (new : cu X.prog X.w (upd H p o) h' p o) : Inv X pins σ (upd H p o) { s with heap := h', toks := t' } := by
 have hn : H p = none := I.hok.fresh hp
 have nit : ∀ b u, H b = some u → b ∉ ch := fun b u e z => by rw [(hf b z).1] at e; cases e
 have lt : ∀ b u, s.heap.get? b = some u → b ≠ p := fun b u e => Nat.ne_of_lt (Nat.lt_of_lt_of_le (Heap.lt_size e) hp)
 refine I.step (g' := s.gens) (d' := s.drawn) (ch := ch) (fun b hb => ?_) (fun b o _ _ hc e _ => k b o hc e) (fun b o _ _ hc e _ => ⟨o.slots, k b o hc e⟩) (fun b o _ e n => by rw [aJ (lt b o e)]; exact n)
  (fun b o hc e => ⟨o, k b o hc e⟩) (fun b xs e => by rw [aJ (aB e hn)]; exact e) (fun b u xs e => by rw [aJ (aB e hn)]; exact e) (fun b ps e => ⟨#[], by rw [aJ (aB e hn), e]; simp⟩) (fun m hm => ?_) (fun b u e => ?_) I.bare
 ·obtain ⟨_, a2, _, a4, a5, a6⟩ := hf b hb
  exact ⟨a4, a2, a5, a6⟩
 ·obtain ⟨o, es, ep, ho, r⟩ := hm
  exact ⟨o, es, ep, k _ o (fun z => (hf _ z).2.1 rfl) ho, r⟩
 ·by_cases hb : b = p
  ·subst hb
   rw [aD] at e
   cases e
   exact new
  ·rw [aJ hb] at e
   refine (I.hok b u e).stay (fun c v hc q => k c v ?_ q) (fun c q => by rw [aJ (aB q hn)]; exact q) fun c xs q => by rw [aJ (aB q hn)]; exact q
   rcases hc with z | z
   ·rw [z]; exact nit b u e
   ·exact nit c _ z
end
def Itz (K : PySem.W.Frag) (a b : Addr) : It :=
 ⟨fun i H => ∃ xs ys x y, SqL K H a xs ∧ SqL K H b ys ∧ xs[i]? = some x ∧ ys[i]? = some y,
  fun i H v H' => ∃ p x y, v = .ref p ∧ H p = none ∧ H' = upd H p (.tup [x, y]) ∧ (∀ xs, SqL K H a xs → xs[i]? = some x) ∧ ∀ ys, SqL K H b ys → ys[i]? = some y,
  fun i H => ∃ xs ys, SqL K H a xs ∧ SqL K H b ys ∧ (xs[i]? = none ∨ ys[i]? = none)⟩
theorem Bb {P : Program} {w : World} {K : PySem.W.Frag} {es : List Expr} {kk : Nat} {tpos : Pos} {z TI TO i1 i2 l1 l2 : Addr} (D : ZipApart z TI TO i1 i2 l1 l2) :
  Turn P w K (.Tuple es kk tpos) (Itz K l1 l2) [z, TI, TO, i1, i2] z (fun i h => IsZip h z TI TO .none ∧ IsPair h TI (.ref i1) (.ref i2) ∧ (∃ a b, IsPair h TO a b) ∧ h.IsListIter i1 l1 i ∧ h.IsListIter i2 l2 i) where
 mem := by simp
 obj := fun i h st b hb => by
  obtain ⟨hz, hTI, ⟨a, b', hTO⟩, ⟨o1, e1, c1, d1⟩, ⟨o2, e2, c2, d2⟩⟩ := st
  simp only [List.mem_cons, List.not_mem_nil, or_false] at hb
  rcases hb with rfl | rfl | rfl | rfl | rfl
  ·exact ⟨_, hz, fun v q => by cases q⟩
  ·exact ⟨_, hTI, fun v q => by cases q⟩
  ·exact ⟨_, hTO, fun v q => by cases q⟩
  ·exact ⟨o1, e1, fun v q => by rw [d1] at q; cases q⟩
  ·exact ⟨o2, e2, fun v q => by rw [d2] at q; cases q⟩
 keep := fun i h h' st k => by
  obtain ⟨hz, hTI, ⟨a, b', hTO⟩, h1, h2⟩ := st
  exact ⟨k z (by simp) _ hz, k TI (by simp) _ hTI, ⟨a, b', k TO (by simp) _ hTO⟩, h1.at fun o e => k i1 (by simp) o e, h2.at fun o e => k i2 (by simp) o e⟩
 item := by
  intro X hP hw hK hc i pins s σ H E I hf st hg
  subst hP hw hK
  obtain ⟨xs, ys, x, y, q1, q2, hx, hy⟩ := hg
  obtain ⟨its1, rv1, p1, hz1⟩ := I.list q1
  obtain ⟨its2, rv2, p2, hz2⟩ := I.list q2
  obtain ⟨u1, hu1, ru1⟩ := rv1.get hx
  obtain ⟨u2, hu2, ru2⟩ := rv2.get hy
  obtain ⟨hz, hTI, ⟨a, b', hTO⟩, h1, h2⟩ := st
  refine wpAny_pyNext_zip_item D hz hTI hTO h1 h2 p1.isList p2.isList (x := u1) (y := u2) (by simpa using hu1) (by simpa using hu2) fun h' a1 a2 a3 a4 a5 a6 hk => ?_
  have new : cu X.prog X.w (upd H s.heap.objs.size (.tup [x, y])) h' s.heap.objs.size (.tup [x, y]) := ⟨by show 2 ≤ sizeLine; decide, [u1, u2], .cons ru1 (.cons ru2 .nil), _, a5, rfl, _, rfl⟩
  have I1 : Inv X pins σ (upd H s.heap.objs.size (.tup [x, y])) { s with heap := h' } := I.wV (t' := s.toks) (ch := [z, TO, i1, i2]) (fun b hb => hf b (by
   simp only [List.mem_cons, List.not_mem_nil, or_false] at hb ⊢
   rcases hb with r | r | r | r <;> simp [r]))
   (fun b o hb e => hk b o (fun q => hb (by simp [q])) (fun q => hb (by simp [q])) (fun q => hb (by simp [q])) (fun q => hb (by simp [q])) e) (Nat.le_refl _) new
  have hTI' : IsPair h' TI (.ref i1) (.ref i2) := hk _ _ D.TIz D.TITO D.TIi1 D.TIi2 hTI
  have hsz : ∀ b, b ∈ [z, TI, TO, i1, i2] → b ≠ s.heap.objs.size := fun b hb => by
   obtain ⟨_, _, hlt, _⟩ := hf b hb
   have lt : ∃ o, s.heap.get? b = some o := by
    simp only [List.mem_cons, List.not_mem_nil, or_false] at hb
    rcases hb with rfl | rfl | rfl | rfl | rfl
    ·exact ⟨_, hz⟩
    ·exact ⟨_, hTI⟩
    ·exact ⟨_, hTO⟩
    ·obtain ⟨o, e, _⟩ := h1; exact ⟨o, e⟩
    ·obtain ⟨o, e, _⟩ := h2; exact ⟨o, e⟩
   obtain ⟨o, e⟩ := lt
   exact Nat.ne_of_lt (Heap.lt_size e)
  refine ⟨_, rfl, wpAny_letOwnedTupleGo_zip (s := { s with heap := h' }) a1 fun h'' z2 sb => ?_⟩
  have fz := hf z (by simp)
  have I2 : Inv X pins σ (upd H s.heap.objs.size (.tup [x, y])) { s with heap := h'' } := Inv.turned (s := { s with heap := h' }) (it := z) (t' := s.toks) I1 (fun b o hb e => (sb.2 b hb).trans e) (by rw [aJ (hsz z (by simp))]; exact fz.1) fz.2.1 fz.2.2.2.1 fz.2.2.2.2.1 fz.2.2.2.2.2
  refine ⟨.ref s.heap.objs.size, _, I2, rfl, ⟨_, x, y, rfl, I.fresh, rfl, fun xs' q => by rw [I.lH q q1]; exact hx, fun ys' q => by rw [I.lH q q2]; exact hy⟩,
   ⟨z2, (sb.2 _ D.TIz).trans hTI', ⟨_, _, (sb.2 _ D.TOz).trans a2⟩, a3.extBut sb.extBut D.i1z, a4.extBut sb.extBut D.i2z⟩, fun b hb => by rw [aJ (hsz b hb)]; exact (hf b hb).1⟩
 done := by
  intro X hP hw hK hc i pins s σ H E I hf st hg
  subst hP hw hK
  obtain ⟨xs, ys, q1, q2, hx⟩ := hg
  obtain ⟨its1, rv1, p1, hz1⟩ := I.list q1
  obtain ⟨its2, rv2, p2, hz2⟩ := I.list q2
  obtain ⟨hz, hTI, ⟨a, b', hTO⟩, h1, h2⟩ := st
  have hend : its1.toArray[i]? = none ∨ its2.toArray[i]? = none := by
   rcases hx with r | r
   ·exact .inl (by simpa using rv1.none_of r)
   ·exact .inr (by simpa using rv2.none_of r)
  refine wpAny_pyNext_zip_end (I.ok.hd hc) D hz hTI hTO h1 h2 p1.isList p2.isList hend fun h' hk => ⟨rfl, ?_⟩
  exact I.wW (t' := s.toks) (ch := [z, TO, i1, i2]) (fun b hb => hf b (by
   simp only [List.mem_cons, List.not_mem_nil, or_false] at hb ⊢
   rcases hb with r | r | r | r <;> simp [r]))
   (fun b o hb e => hk b o (fun q => hb (by simp [q])) (fun q => hb (by simp [q])) (fun q => hb (by simp [q])) (fun q => hb (by simp [q])) e)
 self := fun _ _ _ _ _ st h => wpAny_pyIter_zip st.1 h
section
variable {X : Cx}
end
def Ite (K : PySem.W.Frag) (a : Addr) : It :=
 ⟨fun i H => ∃ xs x, SqL K H a xs ∧ xs[i]? = some x,
  fun i H v H' => ∃ p x, v = .ref p ∧ H p = none ∧ H' = upd H p (.tup [.int (i : Nat), x]) ∧ ∀ xs, SqL K H a xs → xs[i]? = some x,
  fun i H => ∃ xs, SqL K H a xs ∧ xs[i]? = none⟩
theorem yP {P : Program} {w : World} {K : PySem.W.Frag} {es : List Expr} {kk : Nat} {tpos : Pos} {e it l : Addr} (hne : e ≠ it) :
  Turn P w K (.Tuple es kk tpos) (Ite K l) [e, it] e (fun i h => (∃ old, IsEnum h e it ((i : Nat) : Int) old) ∧ h.IsListIter it l i) where
 mem := by simp
 obj := fun i h st b hb => by
  obtain ⟨⟨old, he⟩, ⟨o1, e1, c1, d1⟩⟩ := st
  simp only [List.mem_cons, List.not_mem_nil, or_false] at hb
  rcases hb with rfl | rfl
  ·exact ⟨_, he, fun v q => by cases q⟩
  ·exact ⟨o1, e1, fun v q => by rw [d1] at q; cases q⟩
 keep := fun i h h' st k => by
  obtain ⟨⟨old, he⟩, h1⟩ := st
  exact ⟨⟨old, k e (by simp) _ he⟩, h1.at fun o q => k it (by simp) o q⟩
 item := by
  intro X hP hw hK hc i pins s σ H E I hf st hg
  subst hP hw hK
  obtain ⟨xs, x, q1, hx⟩ := hg
  obtain ⟨its1, rv1, p1, hz1⟩ := I.list q1
  obtain ⟨u1, hu1, ru1⟩ := rv1.get hx
  obtain ⟨⟨old, he⟩, h1⟩ := st
  refine wpAny_pyNext_enum_item he h1 p1.isList (x := u1) (by simpa using hu1) hne fun h' a1 a2 a3 a4 hk => ?_
  have new : cu X.prog X.w (upd H s.heap.objs.size (.tup [.int (i : Nat), x])) h' s.heap.objs.size (.tup [.int (i : Nat), x]) := ⟨by show 2 ≤ sizeLine; decide, [.int (i : Nat) s.toks, u1], .cons ⟨_, rfl⟩ (.cons ru1 .nil), _, a3, rfl, _, rfl⟩
  have I1 : Inv X pins σ (upd H s.heap.objs.size (.tup [.int (i : Nat), x])) { s with heap := h', toks := s.toks + 1 } := I.wV (ch := [e, it]) hf
   (fun b o hb q => hk b o (fun z => hb (by simp [z])) (fun z => hb (by simp [z])) q) (Nat.le_refl _) new
  have hsz : ∀ b, b ∈ [e, it] → b ≠ s.heap.objs.size := fun b hb => by
   have lt : ∃ o, s.heap.get? b = some o := by
    simp only [List.mem_cons, List.not_mem_nil, or_false] at hb
    rcases hb with rfl | rfl
    ·exact ⟨_, he⟩
    ·obtain ⟨o, q, _⟩ := h1; exact ⟨o, q⟩
   obtain ⟨o, q⟩ := lt
   exact Nat.ne_of_lt (Heap.lt_size q)
  refine ⟨_, rfl, wpAny_letOwnedTupleGo_enum (s := { s with heap := h', toks := s.toks + 1 }) a1 fun h'' z2 sb => ?_⟩
  have fz := hf e (by simp)
  have I2 : Inv X pins σ (upd H s.heap.objs.size (.tup [.int (i : Nat), x])) { s with heap := h'', toks := s.toks + 1 } := Inv.turned (s := { s with heap := h', toks := s.toks + 1 }) (it := e) I1 (fun b o hb q => (sb.2 b hb).trans q) (by rw [aJ (hsz e (by simp))]; exact fz.1) fz.2.1 fz.2.2.2.1 fz.2.2.2.2.1 fz.2.2.2.2.2
  refine ⟨.ref s.heap.objs.size, _, I2, rfl, ⟨_, x, rfl, I.fresh, rfl, fun xs' q => by rw [I.lH q q1]; exact hx⟩,
   ⟨⟨_, by simpa using z2⟩, a2.extBut sb.extBut hne.symm⟩, fun b hb => by rw [aJ (hsz b hb)]; exact (hf b hb).1⟩
 done := by
  intro X hP hw hK hc i pins s σ H E I hf st hg
  subst hP hw hK
  obtain ⟨xs, q1, hx⟩ := hg
  obtain ⟨its1, rv1, p1, hz1⟩ := I.list q1
  obtain ⟨⟨old, he⟩, h1⟩ := st
  refine wpAny_pyNext_enum_end (I.ok.hd hc) he h1 p1.isList (by simpa using rv1.none_of hx) fun h' hk => ⟨rfl, ?_⟩
  exact I.wW (t' := s.toks) (ch := [e, it]) hf (fun b o hb q => hk b o (fun z => hb (by simp [z])) q)
 self := fun _ _ _ _ _ st h => by
  obtain ⟨⟨old, he⟩, _⟩ := st
  exact wpAny_pyIter_enum he h
section
variable {X : Cx}
end
theorem Vals.bools : ∀ {bs : List Bool} {us : List Value}, Vals (bs.map V.bl) us → us = bs.map Value.bool
 | [], _, .nil => rfl
 | _ :: _, _, .cons r t => by rw [Vals.bools t, (show _ = Value.bool _ from r)]; rfl
section
variable {X : Cx}
theorem Aq (bs : List Bool) : ((List.range bs.length).all fun i => (bs[i]?).getD true) = bs.all id := by
 rw [Bool.eq_iff_iff, List.all_eq_true, List.all_eq_true]
 constructor
 ·intro h b hb
  obtain ⟨i, hi, rfl⟩ := List.getElem_of_mem hb
  have := h i (List.mem_range.mpr hi)
  rw [List.getElem?_eq_getElem hi] at this
  exact this
 ·intro h i hi
  have hi' := List.mem_range.mp hi
  rw [List.getElem?_eq_getElem hi']
  exact h _ (List.getElem_mem hi')
theorem Ao (bs : List Bool) : ((List.range bs.length).any fun i => (bs[i]?).getD false) = bs.any id := by
 rw [Bool.eq_iff_iff, List.any_eq_true, List.any_eq_true]
 constructor
 ·intro ⟨i, hi, h⟩
  have hi' := List.mem_range.mp hi
  rw [List.getElem?_eq_getElem hi'] at h
  exact ⟨_, List.getElem_mem hi', h⟩
 ·intro ⟨b, hb, h⟩
  obtain ⟨i, hi, rfl⟩ := List.getElem_of_mem hb
  exact ⟨i, List.mem_range.mpr hi, by rw [List.getElem?_eq_getElem hi]; exact h⟩
def Cv (K : PySem.W.Frag) (f : List Bool → Bool) : List V → Hp → VK → Prop := fun xs H Q => ∃ p bs, xs = [.ref p] ∧ SqL K H p (List.map V.bl bs) ∧ Q (.bl (f bs)) H
theorem FZ (hc : X.calm = true) : cO X (.builtin "all") (Cv X.K fun bs => bs.all id) := by
 intro pins s σ H xs us Q I r h
 obtain ⟨p, bs, rfl, hq, q⟩ := h
 cases r with
 | cons r rr =>
  cases rr
  cases r
  obtain ⟨its, rv, pl, hz⟩ := I.list hq
  have e := rv.bools
  subst e
  have lt : p < s.heap.objs.size := by obtain ⟨_, e, _⟩ := pl.isList; exact Heap.lt_size e
  refine call_all_walk (wpAny_pyIter_list pl.isList ?_)
  refine ⟨s.heap.objs.size, [s.heap.objs.size, p], [s.heap.objs.size], (bs.map Value.bool).toArray.size, _, _, fun i => (bs[i]?).getD true, rfl, Walks.list (A := X.A.in1) (I.ok.hd hc) _ p (Nat.ne_of_lt lt) _,
   ⟨⟨_, Heap.get?_push_size _ rfl, rfl, rfl⟩, pl.isList.push _⟩, fun i v s' Q' E' hP hQ => ?_, fun h' tk hk => ?_⟩
  ·have e : (bs.map Value.bool)[i]? = some v := by simpa using hP
   rw [List.getElem?_map] at e
   cases z : bs[i]? with
   | none => rw [z] at e; cases e
   | some b =>
    rw [z] at e
    have e' : Value.bool b = v := Option.some.inj e
    subst e'
    dsimp only at hQ
    rw [z] at hQ
    exact wpAny_truthy_bool hQ
  ·rw [List.size_toArray, List.length_map, Aq]
   refine ⟨.bl _, H, I.kept fun b o e => hk b o (fun hm => ?_) (Heap.get?_push_of_some _ e), rfl, q⟩
   rw [List.mem_singleton.mp hm] at e
   exact Nat.lt_irrefl _ (Heap.lt_size e)
theorem FW (hc : X.calm = true) : cO X (.builtin "any") (Cv X.K fun bs => bs.any id) := by
 intro pins s σ H xs us Q I r h
 obtain ⟨p, bs, rfl, hq, q⟩ := h
 cases r with
 | cons r rr =>
  cases rr
  cases r
  obtain ⟨its, rv, pl, hz⟩ := I.list hq
  have e := rv.bools
  subst e
  have lt : p < s.heap.objs.size := by obtain ⟨_, e, _⟩ := pl.isList; exact Heap.lt_size e
  refine call_any_walk (wpAny_pyIter_list pl.isList ?_)
  refine ⟨s.heap.objs.size, [s.heap.objs.size, p], [s.heap.objs.size], (bs.map Value.bool).toArray.size, _, _, fun i => (bs[i]?).getD false, rfl, Walks.list (A := X.A.in1) (I.ok.hd hc) _ p (Nat.ne_of_lt lt) _,
   ⟨⟨_, Heap.get?_push_size _ rfl, rfl, rfl⟩, pl.isList.push _⟩, fun i v s' Q' E' hP hQ => ?_, fun h' tk hk => ?_⟩
  ·have e : (bs.map Value.bool)[i]? = some v := by simpa using hP
   rw [List.getElem?_map] at e
   cases z : bs[i]? with
   | none => rw [z] at e; cases e
   | some b =>
    rw [z] at e
    have e' : Value.bool b = v := Option.some.inj e
    subst e'
    dsimp only at hQ
    rw [z] at hQ
    exact wpAny_truthy_bool hQ
  ·rw [List.size_toArray, List.length_map, Ao]
   refine ⟨.bl _, H, I.kept fun b o e => hk b o (fun hm => ?_) (Heap.get?_push_of_some _ e), rfl, q⟩
   rw [List.mem_singleton.mp hm] at e
   exact Nat.lt_irrefl _ (Heap.lt_size e)
def Qw (K : PySem.W.Frag) : List V → Hp → VK → Prop := fun xs H Q => ∃ x T t b, xs = [x, .ty T] ∧ jR K H x t ∧ PySem.W.kitOne K t (.type T) = some b ∧ Q (.bl b) H
theorem FT : cO X (.builtin "isinstance") (Qw X.K) := by
 intro pins s σ H xs us Q I r h
 obtain ⟨x, T, t, b, rfl, ty, e, q⟩ := h
 cases r with
 | cons r rr =>
  cases rr with
  | cons r' rr =>
   cases rr
   cases (show _ = Value.type T from r')
   exact zO I r ty e fun tk => ⟨.bl b, H, I.tok tk, rfl, q⟩
def O8 (K : PySem.W.Frag) : List V → Hp → VK → Prop := fun xs H Q => ∃ x p Ts t b, xs = [x, .ref p] ∧ SqT K H p (List.map V.ty Ts) ∧ jR K H x t ∧ PySem.W.kitAny K t (Ts.map Value.type) = some b ∧ Q (.bl b) H
theorem Vals.types : ∀ {bs : List String} {us : List Value}, Vals (bs.map V.ty) us → us = bs.map Value.type
 | [], _, .nil => rfl
 | _ :: _, _, .cons r t => by rw [Vals.types t, (show _ = Value.type _ from r)]; rfl
theorem QD {x : V} {u t : Value} {pins : List (Addr × Obj)} {σ : St} {H : Hp} {s : Shared} (I : Inv X pins σ H s) (rx : RelV x u) (ty : jR X.K H x t) (hl : ∀ a C dx fs, H a = some (.ins C dx fs) → x ≠ .ref a) :
  ∃ Hh : Heap → Prop, PySem.W.KitX X.K u t Hh ∧ Hh s.heap ∧ u ≠ .builtin "__main__.__loader__#opaque" := by
 cases ty with
 | non => cases (show u = Value.none from rx); exact ⟨_, PySem.W.kitx_none, True.intro, fun z => nomatch z⟩
 | bl y => cases (show u = Value.bool y from rx); exact ⟨_, PySem.W.kitx_bool, True.intro, fun z => nomatch z⟩
 | int i => obtain ⟨t, q⟩ := (show ∃ t, u = Value.int i t from rx); cases q; exact ⟨_, PySem.W.kitx_int, True.intro, fun z => nomatch z⟩
 | str y => obtain ⟨t, q⟩ := (show ∃ t, u = Value.str y t from rx); cases q; exact ⟨_, PySem.W.kitx_str, True.intro, fun z => nomatch z⟩
 | flt y => obtain ⟨t, q⟩ := (show ∃ t, u = Value.float y t from rx); cases q; exact ⟨_, PySem.W.kitx_float, True.intro, fun z => nomatch z⟩
 | @lst a xs ea =>
  cases (show u = Value.ref a from rx)
  obtain ⟨_, _, n, _, h1⟩ := (show cu X.prog X.w H s.heap a (.lst xs) from I.hok a _ ea)
  exact ⟨_, PySem.W.kitx_list, ⟨_, h1, rfl⟩, fun z => nomatch z⟩
 | @frz a ob xs ea =>
  cases (show u = Value.ref a from rx)
  obtain ⟨_, _, _, n, _, h1⟩ := (show cu X.prog X.w H s.heap a (.frz ob (.lst xs)) from I.hok a _ ea)
  exact ⟨_, PySem.W.kitx_list, ⟨_, h1, rfl⟩, fun z => nomatch z⟩
 | @tup a xs ea =>
  cases (show u = Value.ref a from rx)
  obtain ⟨_, _, _, p⟩ := (show cu X.prog X.w H s.heap a (.tup xs) from I.hok a _ ea)
  obtain ⟨o, h1, h2, _⟩ := p
  exact ⟨_, PySem.W.kitx_tuple, ⟨o, h1, h2⟩, fun z => nomatch z⟩
 | @dK a kvs ea =>
  cases (show u = Value.ref a from rx)
  obtain ⟨_, _, vs, _, p⟩ := (show cu X.prog X.w H s.heap a (.dK kvs) from I.hok a _ ea)
  obtain ⟨o, es, ep, h1, h2, _⟩ := p
  exact ⟨_, PySem.W.kitx_dict, ⟨o, h1, h2.1⟩, fun z => nomatch z⟩
 | @dT a kvs ea =>
  cases (show u = Value.ref a from rx)
  obtain ⟨_, _, xs, _, o, es, ep, h1, h2, _⟩ := (show cu X.prog X.w H s.heap a (.dT kvs) from I.hok a _ ea)
  exact ⟨_, PySem.W.kitx_dict, ⟨o, h1, h2.1⟩, fun z => nomatch z⟩
 | @ins a C dx fs ea cl ha hn htk hm => exact absurd rfl (hl a C dx fs ea)
theorem Ag : cO X (.builtin "isinstance") (fun xs H Q => O8 X.K xs H Q ∧ ∀ a C dx fs, H a = some (.ins C dx fs) → xs.head? ≠ some (.ref a)) := by
 intro pins s σ H xs us Q I r h
 obtain ⟨⟨x, p, Ts, t, b, rfl, hq, ty, e, q⟩, hl⟩ := h
 cases r with
 | cons r rr =>
  cases rr with
  | cons r' rr =>
   cases rr
   cases r'
   obtain ⟨Hh, Z, hh, ne⟩ := QD I r ty fun a C dx fs z w' => hl a C dx fs z (by rw [w']; rfl)
   obtain ⟨its, rv, ⟨o, ho, hcl, n, hd⟩, hz⟩ := I.tuple hq
   have ei := rv.types
   subst ei
   obtain ⟨c0, d0, dt0, sl0⟩ := o
   cases (show c0 = Value.type "tuple" from hcl)
   cases (show dt0 = Data.seq (List.map Value.type Ts).toArray n from hd)
   exact PySem.W.kia_tup Z I.kIn hh ho e ne fun tk => ⟨.bl b, H, I.tok tk, rfl, q⟩
end
inductive Tn (H : Hp) : V → String → Prop where
 | non : Tn H .non "NoneType"
 | bl (b : Bool) : Tn H (.bl b) "bool"
 | int (i : Int) : Tn H (.int i) "int"
 | str (x : Str) : Tn H (.str x) "str"
 | lst {a : Addr} {xs : List V} (e : H a = some (.lst xs)) : Tn H (.ref a) "list"
 | tup {a : Addr} {xs : List V} (e : H a = some (.tup xs)) : Tn H (.ref a) "tuple"
theorem Tn.ty {K : PySem.W.Frag} {H : Hp} {x : V} {t : String} (h : Tn H x t) : jR K H x (.type t) := by
 cases h with
 | non => exact .non
 | bl b => exact .bl b
 | int i => exact .int i
 | str x => exact .str x
 | lst e => exact .lst e
 | tup e => exact .tup e
def cL (t T : String) : Bool := t == T || (t == "bool" && T == "int")
def cR : List String := ["NoneType", "bool", "int", "str", "list", "tuple"]
theorem ye (K : PySem.W.Frag) : ∀ t ∈ cR, ∀ T ∈ cR, PySem.W.kitOne K (.type t) (.type T) = some (cL t T) := by
 intro t ht T hT
 simp only [cR, List.mem_cons, List.not_mem_nil, or_false] at ht hT
 rcases ht with rfl | rfl | rfl | rfl | rfl | rfl <;> rcases hT with rfl | rfl | rfl | rfl | rfl | rfl <;> first | rfl | kernel_rfl
theorem Tn.known {H : Hp} {x : V} {t : String} (h : Tn H x t) : t ∈ cR := by cases h <;> decide
section
variable {X : Cx}
theorem Aj : cO X (.builtin "isinstance") (fun xs H Q => ∃ x T t, xs = [x, .ty T] ∧ Tn H x t ∧ T ∈ cR ∧ Q (.bl (cL t T)) H) := by
 intro pins s σ H xs us Q I r h
 obtain ⟨x, T, t, rfl, ty, hT, q⟩ := h
 exact FT pins s σ H _ us Q I r ⟨x, T, _, _, rfl, ty.ty, ye X.K t ty.known T hT, q⟩
theorem yg (K : PySem.W.Frag) {t : String} (ht : t ∈ cR) : ∀ Ts : List String, (∀ T ∈ Ts, T ∈ cR) → PySem.W.kitAny K (.type t) (Ts.map Value.type) = some (Ts.any fun T => cL t T)
 | [], _ => rfl
 | T :: r, h => by
  have e := ye K t ht T (h T List.mem_cons_self)
  have ih := yg K ht r fun T' h' => h T' (List.mem_cons_of_mem _ h')
  show (match PySem.W.kitOne K (.type t) (.type T) with | some true => some true | some false => PySem.W.kitAny K (.type t) (r.map Value.type) | none => none) = _
  rw [e, List.any_cons]
  cases cL t T with
  | true => rfl
  | false => exact ih
theorem Ai : cO X (.builtin "isinstance") (fun xs H Q => ∃ x p Ts t, xs = [x, .ref p] ∧ H p = some (.tup (List.map V.ty Ts)) ∧ Tn H x t ∧ (∀ T ∈ Ts, T ∈ cR) ∧ Q (.bl (Ts.any fun T => cL t T)) H) := by
 intro pins s σ H xs us Q I r h
 obtain ⟨x, p, Ts, t, rfl, hp, ty, hT, q⟩ := h
 refine Ag pins s σ H _ us Q I r ⟨⟨x, p, Ts, _, _, rfl, SqT.of hp, ty.ty, yg X.K ty.known Ts hT, q⟩, fun a C dx fs e z => ?_⟩
 have z' : x = .ref a := by simpa using z
 subst z'
 cases ty with
 | lst e' => rw [e] at e'; cases e'
 | tup e' => rw [e] at e'; cases e'
def K9 (i j : Int) : Prop := 0 < j ∧ j < 2 ^ 70
theorem uF : OpR X (binaryOp .FloorDiv) (rI K9 fun i j => .int (i / j)) := opI fun i j _ _ _ _ _ hc q => by
 have h1 : (0 : Int) < j := hc.1
 have h2 : j < 2 ^ 70 := hc.2
 refine floordiv_int (by omega) (by rw [Int.fdiv_eq_ediv_of_nonneg i (by omega)]; exact q) (.inl (PyProof.noPylong_of_log2 ?_))
 have h3 : j.natAbs ≠ 0 := by omega
 have h4 : j.natAbs.log2 < 70 := (Nat.log2_lt h3).mpr (by omega)
 omega
end
def bN (p : Addr) (H H' : Hp) : Prop := ∀ b o, b ≠ p → H b = some o → H' b = some o
theorem bN.refl (p : Addr) (H : Hp) : bN p H H := fun _ _ _ h => h
theorem bN.trans {p : Addr} {H H1 H2 : Hp} (a : bN p H H1) (b : bN p H1 H2) : bN p H H2 := fun c o n h => b c o n (a c o n h)
theorem bN.upd {p : Addr} {H : Hp} {o : HO} : bN p H (upd H p o) := fun b u n h => by rw [aJ n]; exact h
theorem Same.x {p : Addr} {H H' : Hp} (h : Same H H') : bN p H H' := fun b o _ q => h b o q
theorem au {H : Hp} {p : Addr} {o : HO} (h : H p = none) : Same H (upd H p o) := fun b u q => by rw [aJ (aB q h)]; exact q
structure Cal (P : Program) (w : World) (K : PySem.W.Frag) (mg : Str → Option Value) (base : Heap) (x : Str) (k : Nat) (ps : List Str) (sp : Sp) : Prop where
 ex : ∃ (f : Addr) (fd : FuncData), dg P w K mg base CX0 k f fd ps sp ∧ Binds K fd ps [] ∧ PySem.W.keepIn K (.ref f) = true ∧ mg x = some (.ref f)
section
variable {X : Cx} {k : Nat} {ps : List Str} {sp : Sp} {x : Str} {p pos : Pos} {e : Expr} {es : List Expr} {t : TA}
theorem M5 (C : Cal X.prog X.w X.K X.mg X.base x k ps sp) (hr : gJ k X.A) (hg : Gl X x) (ha : PA X (e :: es) t) (hdb : (x == ("__debug__" : Str)) = false := by decide)
  (he : starEach (e :: es) X.env = (false, eval e X.env) :: starEach es X.env := by rfl) (hpl : (backTo pos (starEach es X.env)).any (·.1) = false := by rfl) : PE X (.Call (.Name x p) (e :: es) [] pos) (kh sp [] E0 t) := by
 obtain ⟨f, fd, F, b, kp, hm⟩ := C.ex
 exact Jg F hr hg hm kp b .nil PK ha hdb he hpl
end
structure gM (K : PySem.W.Frag) (mg : Str → Option Value) (x : Str) (st : Stmt) (ps : List Str) (f : Addr) (fd : FuncData) : Prop where
 fn : Fun K x x st f fd
 bd : Binds K fd ps []
 nm : mg x = some (.ref f)
theorem gM.cal {P : Program} {w : World} {K : PySem.W.Frag} {mg : Str → Option Value} {base : Heap} {x : Str} {st : Stmt} {ps : List Str} {f : Addr} {fd : FuncData} {k : Nat} {sp : Sp} (D : gM K mg x st ps f fd) (F : dg P w K mg base CX0 k f fd ps sp) : Cal P w K mg base x k ps sp :=
 ⟨f, fd, F, D.bd, D.fn.kp, D.nm⟩
theorem dW {k : Nat} (h : k ≤ 40) : (2 : Int) ^ k ≤ 1099511627776 := by
 have h1 : (2 : Nat) ^ k ≤ 2 ^ 40 := Nat.pow_le_pow_right (by decide) h
 have h2 : ((2 ^ k : Nat) : Int) = (2 : Int) ^ k := by simp
 have h3 : (2 : Nat) ^ 40 = 1099511627776 := by decide
 omega
theorem Ci (i j : Int) : mZ (.int i) (.int j) = true := rfl
theorem Hi (i j : Bool) : mZ (.bl i) (.bl j) = true := rfl
theorem Ce (i j : Str) : mZ (.str i) (.str j) = true := rfl
theorem Cg : mZ .non .non = true := rfl
theorem Hf (i : Int) : mZ (.int i) .non = true := rfl
theorem G8 (i : Int) : mZ .non (.int i) = true := rfl
theorem G9 (i : Int) (x : Str) : mZ (.int i) (.str x) = true := rfl
theorem G6 (i : Int) (x : Str) : mZ (.str x) (.int i) = true := rfl
theorem K7 {α : Type} (a : α) (r : List α) : atI (a :: r) 0 = some a := eV (j := 0) rfl
theorem Ql {α : Type} (a b : α) (r : List α) : atI (a :: b :: r) 1 = some b := eV (j := 1) rfl
theorem Qk {α : Type} (a b c : α) (r : List α) : atI (a :: b :: c :: r) 2 = some c := eV (j := 2) rfl
theorem Ey : ixN 3 0 = some 0 ∧ ixN 3 1 = some 1 ∧ ixN 3 2 = some 2 := ⟨by decide, by decide, by decide⟩
theorem aZ {n : Nat} (h : n ≤ 9000) : n ≤ sizeLine := Nat.le_trans h (by decide)
def ixq (o : Option HO) (i : Int) (H : Hp) (Q : VK) : Prop := match o with
 | some (.lst xs) => ∃ v, atI xs i = some v ∧ Q v H
 | some (.tup xs) => ∃ v, atI xs i = some v ∧ Q v H
 | _ => False
def stq (o : Option HO) (p : Addr) (k : Int) (v : V) (H : Hp) (Q : Hp → Prop) : Prop := match o with
 | some (.lst xs) => ∃ j, ixN xs.length k = some j ∧ Q (upd H p (.lst (xs.set j v)))
 | _ => False
def lnq (o : Option HO) (H : Hp) (Q : VK) : Prop := match o with
 | some (.lst ys) => Q (.int ys.length) H
 | some (.tup ys) => Q (.int ys.length) H
 | _ => False
def vQ : R2 := fun x y H Q => match x, y with
 | .ref p, .int i => ixq (H p) i H Q
 | _, _ => False
def Cu : V → V → V → Hp → (Hp → Prop) → Prop := fun o i v H Q => match o, i with
 | .ref p, .int k => stq (H p) p k v H Q
 | _, _ => False
def CJ : List V → Hp → VK → Prop := fun xs H Q => match xs with
 | [.ref p] => lnq (H p) H Q
 | _ => False
theorem CK (p : Addr) (i : Int) (H : Hp) (Q : VK) : vQ (.ref p) (.int i) H Q = ixq (H p) i H Q := rfl
theorem zf (p : Addr) (k : Int) (v : V) (H : Hp) (Q : Hp → Prop) : Cu (.ref p) (.int k) v H Q = stq (H p) p k v H Q := rfl
theorem zj (p : Addr) (H : Hp) (Q : VK) : CJ [.ref p] H Q = lnq (H p) H Q := rfl
theorem JR (xs : List V) (i : Int) (H : Hp) (Q : VK) : ixq (some (.lst xs)) i H Q = ∃ v, atI xs i = some v ∧ Q v H := rfl
theorem JQ (xs : List V) (i : Int) (H : Hp) (Q : VK) : ixq (some (.tup xs)) i H Q = ∃ v, atI xs i = some v ∧ Q v H := rfl
theorem wY (xs : List V) (p : Addr) (k : Int) (v : V) (H : Hp) (Q : Hp → Prop) : stq (some (.lst xs)) p k v H Q = ∃ j, ixN xs.length k = some j ∧ Q (upd H p (.lst (xs.set j v))) := rfl
theorem JL (xs : List V) (H : Hp) (Q : VK) : lnq (some (.lst xs)) H Q = Q (.int xs.length) H := rfl
theorem JK (xs : List V) (H : Hp) (Q : VK) : lnq (some (.tup xs)) H Q = Q (.int xs.length) H := rfl
section
variable {X : Cx}
theorem bW : IxR X vQ := by
 intro value slice pins s σ H x y v u Q I rx ry h hs
 unfold vQ at h
 split at h
 ·rename_i p i
  unfold ixq at h
  split at h
  ·rename_i xs e
   obtain ⟨z, hz, q⟩ := h
   exact yh value slice pins s σ H _ _ v u Q I rx ry ⟨p, xs, i, z, rfl, rfl, SqL.of e, hz, q⟩ hs
  ·rename_i xs e
   obtain ⟨z, hz, q⟩ := h
   exact Oa value slice pins s σ H _ _ v u Q I rx ry ⟨p, xs, i, z, rfl, rfl, SqT.of e, hz, q⟩ hs
  ·exact h.elim
 ·exact h.elim
theorem xG : Gr X Cu := by
 intro pins s σ H o i v ov iv u Q I ro ri rv h
 unfold Cu at h
 split at h
 ·rename_i p k
  unfold stq at h
  split at h
  ·rename_i xs e
   obtain ⟨j, hj, q⟩ := h
   exact set_list pins s σ H _ _ v ov iv u Q I ro ri rv ⟨p, xs, k, j, rfl, rfl, e, hj, q⟩
  ·exact h.elim
 ·exact h.elim
theorem jj : cO X (.builtin "len") CJ := by
 intro pins s σ H xs us Q I r h
 unfold CJ at h
 split at h
 ·rename_i p
  unfold lnq at h
  split at h
  ·rename_i ys e
   exact gj pins s σ H _ us Q I r ⟨p, ys, rfl, .inl (SqL.of e), h⟩
  ·rename_i ys e
   exact gj pins s σ H _ us Q I r ⟨p, ys, rfl, .inr (SqT.of e), h⟩
  ·exact h.elim
 ·exact h.elim
end
def xO : List V → Hp → VK → Prop := fun xs H Q => match xs with
 | [.int i] => Q (.int i) H
 | [.bl k] => Q (.int (if k then 1 else 0)) H
 | _ => False
theorem Hu (i : Int) (H : Hp) (Q : VK) : xO [.int i] H Q = Q (.int i) H := rfl
theorem Hv (k : Bool) (H : Hp) (Q : VK) : xO [.bl k] H Q = Q (.int (if k then 1 else 0)) H := rfl
theorem j4 {X : Cx} : cO X (.type "int") xO := by
 intro pins s σ H xs us Q I r h
 unfold xO at h
 split at h
 ·exact qJ pins s σ H _ us Q I r (.inl ⟨_, rfl, h⟩)
 ·exact qJ pins s σ H _ us Q I r (.inr ⟨_, rfl, h⟩)
 ·exact h.elim
theorem aY {t u : TS} {D : Ends} {σ : St} {H : Hp} (h : ∀ k, k = u D → t { D with nx := k } σ H) : Bj t u D σ H := h _ rfl
theorem iW {wi : TI} {g : TG} {tb : TS} {D : Ends} {σ : St} {H : Hp} (h : ∀ R : It → Hp → Prop, R = (fun J H1 => ∃ W : Nat → Nat → St → Hp → Prop, (∃ m, W 0 m σ H1) ∧ ∀ i m σ H, W i m σ H →
  (J.stop i H ∧ D.nx σ H) ∨ (J.go i H ∧ ∃ N : St → Hp → Prop, (∀ σ' H', N σ' H' → ∃ m', m' < m ∧ W (i + 1) m' σ' H') ∧ ∀ x H', J.yld i H x H' → g x σ H' fun σ2 H2 => tb { D with nx := N, ct := N, bk := D.nx } σ2 H2)) → wi σ H R) : GQ wi g tb D σ H := h _ rfl
theorem qF {lo : Int} {n : Nat} {g : TG} {tb : TS} {D : Ends} {σ : St} {H : Hp} {R : It → Hp → Prop} (hR : R = (fun J H1 => ∃ W : Nat → Nat → St → Hp → Prop, (∃ m, W 0 m σ H1) ∧ ∀ i m σ H, W i m σ H →
  (J.stop i H ∧ D.nx σ H) ∨ (J.go i H ∧ ∃ N : St → Hp → Prop, (∀ σ' H', N σ' H' → ∃ m', m' < m ∧ W (i + 1) m' σ' H') ∧ ∀ x H', J.yld i H x H' → g x σ H' fun σ2 H2 => tb { D with nx := N, ct := N, bk := D.nx } σ2 H2)))
  (Pv : Nat → St → Hp → Prop) (h0 : Pv 0 σ H) (hs : ∀ i σ H, i < n → Pv i σ H → g (.int (lo + i)) σ H fun σ2 H2 => tb { D with nx := Pv (i + 1), ct := Pv (i + 1), bk := D.nx } σ2 H2) (hd : ∀ σ H, Pv n σ H → D.nx σ H) : R (Itr lo n) H := by
 subst hR
 exact zW Pv h0 hs hd
theorem qG {K : PySem.W.Frag} {a : Addr} {xs : List V} {g : TG} {tb : TS} {D : Ends} {σ : St} {H : Hp} {R : It → Hp → Prop} (hR : R = (fun J H1 => ∃ W : Nat → Nat → St → Hp → Prop, (∃ m, W 0 m σ H1) ∧ ∀ i m σ H, W i m σ H →
  (J.stop i H ∧ D.nx σ H) ∨ (J.go i H ∧ ∃ N : St → Hp → Prop, (∀ σ' H', N σ' H' → ∃ m', m' < m ∧ W (i + 1) m' σ' H') ∧ ∀ x H', J.yld i H x H' → g x σ H' fun σ2 H2 => tb { D with nx := N, ct := N, bk := D.nx } σ2 H2)))
  (Pv : Nat → St → Hp → Prop) (h0 : Pv 0 σ H) (hl : ∀ i σ H, i ≤ xs.length → Pv i σ H → SqL K H a xs) (hs : ∀ i x σ H, xs[i]? = some x → Pv i σ H → g x σ H fun σ2 H2 => tb { D with nx := Pv (i + 1), ct := Pv (i + 1), bk := D.nx } σ2 H2) (hd : ∀ σ H, Pv xs.length σ H → D.nx σ H) : R (Itl K a) H := by
 subst hR
 exact Fw Pv h0 hl hs hd
def vm (mp : List (Option Nat)) (g : TG) (tc : TT) (te : TE) (σ : St) (Q : VK) (J : It) (H1 : Hp) : Prop := ∃ W : Nat → Nat → List V → St → Hp → Prop, (∃ m, W 0 m [] (fZ mp σ) H1) ∧ ∀ i m acc τ H2, W i m acc τ H2 →
  (J.stop i H2 ∧ ∀ d, H2 d = none → Q (.ref d) (upd H2 d (.lst acc))) ∨
  (J.go i H2 ∧ acc.length < sizeLine ∧ ∃ N : List V → St → Hp → Prop, (∀ acc' τ' H', N acc' τ' H' → ∃ m', m' < m ∧ W (i + 1) m' acc' τ' H') ∧ ∀ x H3, J.yld i H2 x H3 → g x τ H3 fun τ1 H4 => tc τ1 H4 fun b H5 =>
   if b = true then te τ1 H5 fun v H6 => N (acc ++ [v]) τ1 H6 else N acc τ1 H5)
theorem jE {mp : List (Option Nat)} {wi : TI} {g : TG} {tc : TT} {te : TE} {σ : St} {H : Hp} {Q : VK} (h : ∀ R : It → Hp → Prop, R = vm mp g tc te σ Q → wi σ H R) : pU mp wi g tc te σ H Q := h _ rfl
theorem lU {J : It} {mp : List (Option Nat)} {g : TG} {tc : TT} {te : TE} {σ : St} {H : Hp} {Q : VK} {R : It → Hp → Prop} (hR : R = vm mp g tc te σ Q) (n : Nat) (hz : n ≤ sizeLine) (Pv : Nat → List V → St → Hp → Prop) (h0 : Pv 0 [] (fZ mp σ) H)
  (hl : ∀ i acc τ H, Pv i acc τ H → acc.length ≤ i) (hgo : ∀ i acc τ H, i < n → Pv i acc τ H → J.go i H) (hst : ∀ acc τ H, Pv n acc τ H → J.stop n H)
  (hs : ∀ i acc τ H x H3, i < n → Pv i acc τ H → J.yld i H x H3 → g x τ H3 fun τ1 H4 => tc τ1 H4 fun b H5 => if b = true then te τ1 H5 fun v H6 => Pv (i + 1) (acc ++ [v]) τ1 H6 else Pv (i + 1) acc τ1 H5)
  (hd : ∀ acc τ H d, Pv n acc τ H → H d = none → Q (.ref d) (upd H d (.lst acc))) : R J H := by
 subst hR
 refine ⟨fun i m acc τ H2 => m = n - i ∧ i ≤ n ∧ Pv i acc τ H2, ⟨_, rfl, Nat.zero_le _, h0⟩, ?_⟩
 rintro i m acc τ H2 ⟨rfl, hi, p⟩
 have q3 := hl i acc τ H2 p
 by_cases hlt : i < n
 ·exact .inr ⟨hgo i acc τ H2 hlt p, by omega, Pv (i + 1), fun acc' τ' H' q => ⟨_, by omega, rfl, hlt, q⟩, fun x H3 y => hs i acc τ H2 x H3 hlt p y⟩
 ·have e : i = n := by omega
  subst e
  exact .inl ⟨hst acc τ H2 p, fun d hd' => hd acc τ H2 d p hd'⟩
structure Nm (N : List Str) (sc : Scope) (i : Nat) (x : Str) : Prop where
 hN : N[i]? = some x
 hv : Loc sc x
 hd : (x == ("__debug__" : Str)) = false
 hcd : (x == ("__classdict__" : Str)) = false
def Qa (N : List Str) (sc : Scope) (i : Nat) (x : Str) : Bool := decide (N[i]? = some x) && (decide (sc.names.lookup x = some .local) || decide (sc.names.lookup x = some .cell)) && !(x == ("__debug__" : Str)) && !(x == ("__classdict__" : Str))
theorem Nm.of {N : List Str} {sc : Scope} {i : Nat} {x : Str} (h : Qa N sc i x = true) : Nm N sc i x := by
 unfold Qa at h
 rw [Bool.and_eq_true, Bool.and_eq_true, Bool.and_eq_true, Bool.or_eq_true] at h
 obtain ⟨⟨⟨h1, h2⟩, h3⟩, h4⟩ := h
 exact ⟨of_decide_eq_true h1, h2.elim (fun z => .inl (of_decide_eq_true z)) (fun z => .inr (of_decide_eq_true z)), by simpa using h3, by simpa using h4⟩
structure Bn (x : Str) : Prop where
 hn : x ≠ "__name__"
 hd : (x == ("__debug__" : Str)) = false
section
variable {X : Cx} {i : Nat} {x : Str} {pos pos' p : Pos} {e : Expr} {es : List Expr} {te : TE} {t : TA} {k : Nat} {ps : List Str} {sp : Sp} {id T : String} {r : List V → Hp → VK → Prop}
theorem pn (n : Nm X.N X.env.scope i x) : PE X (.Name x pos) (jc i) := Dl n.hN (n.hv.elim .inl fun z => .inr (.inl z)) n.hd n.hcd
theorem Pa (n : Nm X.N X.env.scope i x) (hN : X.N.Nodup) (he : PE X e te) (hs : swapsWith e (some (.Name x pos')) pos.line X.env = pure false := by rfl) (hf : X.fn x = true ∨ X.env.scope.names.lookup x = some .local := by exact .inl rfl) :
  PS X (.Assign [.Name x pos'] e pos) (oZ te (iV i)) := Mr hN n.hN n.hv he hs hf
theorem Pg (n : Nm X.N X.env.scope i x) (hN : X.N.Nodup) (hf : X.fn x = true ∨ X.env.scope.names.lookup x = some .local := by exact .inl rfl) : PG X (.Name x pos) (iV i) := xT hN n.hN n.hv hf
theorem Pr (C : Cal X.prog X.w X.K X.mg X.base x k ps sp) (hr : gJ k X.A) (hg : Gl X x) (hdb : Bn x) (ha : PA X (e :: es) t)
  (he : starEach (e :: es) X.env = (false, eval e X.env) :: starEach es X.env := by rfl) (hpl : (backTo pos (starEach es X.env)).any (·.1) = false := by rfl) : PE X (.Call (.Name x p) (e :: es) [] pos) (kh sp [] E0 t) :=
 M5 C hr hg ha hdb.hd he hpl
theorem Pu (hc : cO X (.builtin id) r) (hg : Gl X x) (hm : X.mg x = none) (hv : bootBuiltins x = some (.builtin id)) (b : Bn x) (ha : PA X (e :: es) t)
  (he : starEach (e :: es) X.env = (false, eval e X.env) :: starEach es X.env := by rfl) (hpl : (backTo pos (starEach es X.env)).any (·.1) = false := by rfl) : PE X (.Call (.Name x p) (e :: es) [] pos) (tCB r t) := Dr hc hg hm hv ha b.hn b.hd he hpl
theorem Pn (hc : cO X (.type T) r) (hg : Gl X x) (hm : X.mg x = none) (hv : bootBuiltins x = some (.type T)) (b : Bn x) (ha : PA X (e :: es) t)
  (he : starEach (e :: es) X.env = (false, eval e X.env) :: starEach es X.env := by rfl) (hpl : (backTo pos (starEach es X.env)).any (·.1) = false := by rfl) : PE X (.Call (.Name x p) (e :: es) [] pos) (tCB r t) := zu hc hg hm hv ha b.hn b.hd he hpl
theorem PB (n : String) (hg : Gl X x) (hm : X.mg x = none) (hv : bootBuiltins x = some (.type n)) (b : Bn x) : PE X (.Name x pos) (tC (.ty n)) := Jh hg hm hv rfl b.hn b.hd
end
theorem mO : Bn "len" := ⟨by decide +kernel, by decide +kernel⟩
theorem Ga : Bn "abs" := ⟨by decide +kernel, by decide +kernel⟩
theorem wK : Bn "min" := ⟨by decide +kernel, by decide +kernel⟩
theorem Oq : Bn "max" := ⟨by decide +kernel, by decide +kernel⟩
theorem Ou : Bn "all" := ⟨by decide +kernel, by decide +kernel⟩
theorem Ot : Bn "any" := ⟨by decide +kernel, by decide +kernel⟩
theorem bF : Bn "isinstance" := ⟨by decide +kernel, by decide +kernel⟩
theorem tu : Bn "int" := ⟨by decide +kernel, by decide +kernel⟩
theorem Oo : Bn "sum" := ⟨by decide +kernel, by decide +kernel⟩
theorem sZ : Bn "list" := ⟨by decide +kernel, by decide +kernel⟩
theorem oR : Bn "tuple" := ⟨by decide +kernel, by decide +kernel⟩
theorem wJ : Bn "str" := ⟨by decide +kernel, by decide +kernel⟩
theorem tD : Bn "bool" := ⟨by decide +kernel, by decide +kernel⟩
theorem yG : Bn "repr" := ⟨by decide +kernel, by decide +kernel⟩
def tyO : Option HO → Option String
 | some (.lst _) => some "list"
 | some (.tup _) => some "tuple"
 | _ => none
def tyN (x : V) (H : Hp) : Option String := match x with
 | .non => some "NoneType"
 | .bl _ => some "bool"
 | .int _ => some "int"
 | .str _ => some "str"
 | .ref a => tyO (H a)
 | _ => none
theorem Tn.of {x : V} {H : Hp} {t : String} (h : tyN x H = some t) : Tn H x t := by
 cases x with
 | non => cases h; exact .non
 | bl b => cases h; exact .bl b
 | int i => cases h; exact .int i
 | str s => cases h; exact .str s
 | ref a =>
  have h' : tyO (H a) = some t := h
  cases e : H a with
  | none => rw [e] at h'; cases h'
  | some o =>
   rw [e] at h'
   cases o with
   | lst xs => cases h'; exact .lst e
   | tup xs => cases h'; exact .tup e
   | _ => cases h'
 | _ => cases h
def CT : List V → Hp → VK → Prop := fun xs H Q => match xs with
 | [x, .ty T] => ∃ t, tyN x H = some t ∧ cR.contains T = true ∧ Q (.bl (cL t T)) H
 | _ => False
def i2q (o : Option HO) (x : V) (H : Hp) (Q : VK) : Prop := match o with
 | some (.tup [.ty T, .ty U]) => ∃ t, tyN x H = some t ∧ cR.contains T = true ∧ cR.contains U = true ∧ Q (.bl (cL t T || cL t U)) H
 | _ => False
def CP : List V → Hp → VK → Prop := fun xs H Q => match xs with
 | [x, .ref p] => i2q (H p) x H Q
 | _ => False
theorem cN {X : Cx} : cO X (.builtin "isinstance") CT := by
 intro pins s σ H xs us Q I r h
 unfold CT at h
 split at h
 ·obtain ⟨t, e, k, q⟩ := h
  exact Aj pins s σ H _ us Q I r ⟨_, _, t, rfl, Tn.of e, by simpa using k, q⟩
 ·exact h.elim
theorem Ah {X : Cx} : cO X (.builtin "isinstance") CP := by
 intro pins s σ H xs us Q I r h
 unfold CP at h
 split at h
 ·rename_i x p
  unfold i2q at h
  split at h
  ·rename_i T U e
   obtain ⟨t, e1, k1, k2, q⟩ := h
   refine Ai pins s σ H _ us Q I r ⟨x, p, [T, U], t, rfl, e, Tn.of e1, fun z hz => ?_, by simpa using q⟩
   rcases List.mem_cons.mp hz with rfl | hz
   ·simpa using k1
   ·obtain rfl := List.mem_singleton.mp hz
    simpa using k2
  ·exact h.elim
 ·exact h.elim
theorem CQ (x : V) (T : String) (H : Hp) (Q : VK) : CT [x, .ty T] H Q = ∃ t, tyN x H = some t ∧ cR.contains T = true ∧ Q (.bl (cL t T)) H := rfl
theorem CN (x : V) (p : Addr) (H : Hp) (Q : VK) : CP [x, .ref p] H Q = i2q (H p) x H Q := rfl
theorem Og (x : V) (T U : String) (H : Hp) (Q : VK) : i2q (some (.tup [.ty T, .ty U])) x H Q = ∃ t, tyN x H = some t ∧ cR.contains T = true ∧ cR.contains U = true ∧ Q (.bl (cL t T || cL t U)) H := rfl
theorem JN : cR.contains "list" = true := by decide
theorem Eu : cR.contains "tuple" = true := by decide
theorem N8 : cR.contains "int" = true := by decide
theorem N7 : cR.contains "str" = true := by decide
theorem kc_bool : cR.contains "bool" = true := by decide
theorem ty_int (i : Int) (H : Hp) : tyN (.int i) H = some "int" := rfl
theorem O2 (i : Bool) (H : Hp) : tyN (.bl i) H = some "bool" := rfl
theorem ty_str (i : Str) (H : Hp) : tyN (.str i) H = some "str" := rfl
theorem Lg (H : Hp) : tyN .non H = some "NoneType" := rfl
theorem Le (p : Addr) (H : Hp) : tyN (.ref p) H = tyO (H p) := rfl
theorem Gx (xs : List V) : tyO (some (.lst xs)) = some "list" := rfl
theorem Gw (xs : List V) : tyO (some (.tup xs)) = some "tuple" := rfl
theorem mq : cL "NoneType" "bool" = false := by decide
theorem m8 : cL "NoneType" "int" = false := by decide
theorem m7 : cL "NoneType" "str" = false := by decide
theorem mj : cL "NoneType" "list" = false := by decide
theorem kW : cL "NoneType" "tuple" = false := by decide
theorem rF : cL "bool" "bool" = true := by decide
theorem uc : cL "bool" "int" = true := by decide
theorem t8 : cL "bool" "str" = false := by decide
theorem rE : cL "bool" "list" = false := by decide
theorem pF : cL "bool" "tuple" = false := by decide
theorem tZ : cL "int" "bool" = false := by decide
theorem vN : cL "int" "int" = true := by decide
theorem vM : cL "int" "str" = false := by decide
theorem tY : cL "int" "list" = false := by decide
theorem rD : cL "int" "tuple" = false := by decide
theorem tV : cL "str" "bool" = false := by decide
theorem vL : cL "str" "int" = false := by decide
theorem vK : cL "str" "str" = true := by decide
theorem tU : cL "str" "list" = false := by decide
theorem rA : cL "str" "tuple" = false := by decide
theorem rC : cL "list" "bool" = false := by decide
theorem tX : cL "list" "int" = false := by decide
theorem tW : cL "list" "str" = false := by decide
theorem rB : cL "list" "list" = true := by decide
theorem pD : cL "list" "tuple" = false := by decide
theorem pC : cL "tuple" "bool" = false := by decide
theorem rz : cL "tuple" "int" = false := by decide
theorem rm : cL "tuple" "str" = false := by decide
theorem pA : cL "tuple" "list" = false := by decide
theorem nW : cL "tuple" "tuple" = true := by decide
def gtq (o : Option HO) (n : Nat) (t : TGs) (σ : St) (H : Hp) (Q : St → Hp → Prop) : Prop := match o with
 | some (.tup xs) => xs.length = n ∧ t xs σ H Q
 | _ => False
def yt (n : Nat) (t : TGs) : TG := fun v σ H Q => match v with
 | .ref a => gtq (H a) n t σ H Q
 | _ => False
theorem zR (n : Nat) (t : TGs) (a : Addr) (σ : St) (H : Hp) (Q : St → Hp → Prop) : yt n t (.ref a) σ H Q = gtq (H a) n t σ H Q := rfl
theorem J6 (xs : List V) (n : Nat) (t : TGs) (σ : St) (H : Hp) (Q : St → Hp → Prop) : gtq (some (.tup xs)) n t σ H Q = (xs.length = n ∧ t xs σ H Q) := rfl
def qtq (o : Option HO) (f : List Bool → Bool) (H : Hp) (Q : VK) : Prop := match o with
 | some (.lst xs) => ∃ bs, xs = List.map V.bl bs ∧ Q (.bl (f bs)) H
 | _ => False
def kY (f : List Bool → Bool) : List V → Hp → VK → Prop := fun xs H Q => match xs with
 | [.ref p] => qtq (H p) f H Q
 | _ => False
theorem uh (f : List Bool → Bool) (p : Addr) (H : Hp) (Q : VK) : kY f [.ref p] H Q = qtq (H p) f H Q := rfl
theorem HX (f : List Bool → Bool) (xs : List V) (H : Hp) (Q : VK) : qtq (some (.lst xs)) f H Q = ∃ bs, xs = List.map V.bl bs ∧ Q (.bl (f bs)) H := rfl
section
variable {X : Cx} {es : List Expr} {k : Nat} {t : TGs} {n : Nat} {pos : Pos}
theorem Jb (hc : X.calm = true) (h : PGs X es t) (hn : (assignEach es X.env).length = n := by rfl) (hst : (assignEach es X.env).findIdx? (·.1) = none := by rfl) : PG X (.Tuple es k pos) (yt n t) := by
 intro pins s σ H v u Q I r hw
 unfold yt at hw
 split at hw
 ·rename_i a
  unfold gtq at hw
  split at hw
  ·rename_i xs e
   exact Mx hc h hn hst pins s σ H _ u Q I r ⟨a, xs, rfl, SqT.of e, hw.1, hw.2⟩
  ·exact hw.elim
 ·exact hw.elim
theorem Al (hc : X.calm = true) : cO X (.builtin "all") (kY fun bs => bs.all id) := by
 intro pins s σ H xs us Q I r h
 unfold kY at h
 split at h
 ·rename_i p
  unfold qtq at h
  split at h
  ·rename_i ys e
   obtain ⟨bs, rfl, q⟩ := h
   exact FZ hc pins s σ H _ us Q I r ⟨p, bs, rfl, SqL.of e, q⟩
  ·exact h.elim
 ·exact h.elim
theorem Ak (hc : X.calm = true) : cO X (.builtin "any") (kY fun bs => bs.any id) := by
 intro pins s σ H xs us Q I r h
 unfold kY at h
 split at h
 ·rename_i p
  unfold qtq at h
  split at h
  ·rename_i ys e
   obtain ⟨bs, rfl, q⟩ := h
   exact FW hc pins s σ H _ us Q I r ⟨p, bs, rfl, SqL.of e, q⟩
  ·exact h.elim
 ·exact h.elim
end
def Cy : List V → Hp → VK → Prop := fun xs H Q => match xs with
 | [.int i, .int j] => Q (.int (if j < i then j else i)) H
 | _ => False
def CG : List V → Hp → VK → Prop := fun xs H Q => match xs with
 | [.int i, .int j] => Q (.int (if j > i then j else i)) H
 | _ => False
theorem Cw (i j : Int) (H : Hp) (Q : VK) : Cy [.int i, .int j] H Q = Q (.int (if j < i then j else i)) H := rfl
theorem Cz (i j : Int) (H : Hp) (Q : VK) : CG [.int i, .int j] H Q = Q (.int (if j > i then j else i)) H := rfl
theorem mL {X : Cx} (hc : X.calm = true) : cO X (.builtin "min") Cy := by
 intro pins s σ H xs us Q I r h
 unfold Cy at h
 split at h
 ·exact Ad hc pins s σ H _ us Q I r ⟨_, _, rfl, h⟩
 ·exact h.elim
theorem Ae {X : Cx} (hc : X.calm = true) : cO X (.builtin "max") CG := by
 intro pins s σ H xs us Q I r h
 unfold CG at h
 split at h
 ·exact Af hc pins s σ H _ us Q I r ⟨_, _, rfl, h⟩
 ·exact h.elim
structure QE (X : Cx) (e : Expr) (t : TE) : Prop where
 h : PE X e t
structure QT (X : Cx) (e : Expr) (t : TT) : Prop where
 h : PT X e t
structure QW (X : Cx) (e : Expr) (t : TT) : Prop where
 h : PW X e t
structure QA (X : Cx) (es : List Expr) (t : TA) : Prop where
 h : PA X es t
structure QS (X : Cx) (st : Stmt) (t : TS) : Prop where
 h : PS X st t
structure QB (X : Cx) (st : List Stmt) (t : TS) : Prop where
 h : PSs X st t
structure QG (X : Cx) (e : Expr) (t : TG) : Prop where
 h : PG X e t
structure QGs (X : Cx) (es : List Expr) (t : TGs) : Prop where
 h : PGs X es t
structure QI (X : Cx) (tg e : Expr) (t : TI) : Prop where
 h : PI X tg e t
structure QC (X : Cx) (cs : List Expr) (t : TT) : Prop where
 h : PTs X cs t
section
variable {X : Cx} {i : Nat} {x : Str} {pos pos' p tpos : Pos} {e a b c o : Expr} {es rest : List Expr} {te ta tb tc to ti : TE} {tA tB' : TT} {t : TA} {k n kk : Nat} {ps : List Str} {sp : Sp} {id T : String} {r : List V → Hp → VK → Prop} {st : Stmt} {sts : List Stmt} {ts us : TS} {tg iter : Expr} {wi : TI} {g : TG} {gs : TGs}
theorem aH (h : Nm X.N X.env.scope i x) : QE X (.Name x pos) (jc i) := ⟨pn h⟩
theorem aG (i : Nat) {x : Str} {pos : Pos} (hN : X.N[i]? = some x := by rfl) (hv : Vis X.env.scope x := by first | exact Or.inl rfl | exact Or.inr (Or.inl rfl) | exact Or.inr (Or.inr rfl)) (hd : (x == ("__debug__" : Str)) = false := by decide)
  (hcd : (x == ("__classdict__" : Str)) = false := by decide) : QE X (.Name x pos) (jc i) := ⟨Dl hN hv hd hcd⟩
theorem ao {i j pos} : QE X (.Constant (.int i) j pos) (tC (.int i)) := ⟨M4⟩
theorem ux {b j pos} : QE X (.Constant (.bool b) j pos) (tC (.bl b)) := ⟨PJ⟩
theorem Mh {j pos} : QE X (.Constant .none j pos) (tC .non) := ⟨MN⟩
theorem b8 {x j pos} : QE X (.Constant (.str x) j pos) (tC (.str x)) := ⟨MF⟩
theorem aF {op : Operator} {r : R2} (ho : OpR X (binaryOp op) r) (ha : QE X a ta) (hb : QE X b tb) : QE X (.BinOp a op b pos) (tOp r ta tb) := ⟨Pj ho ha.h hb.h⟩
theorem uw {op : UnaryOp} {r : V → Hp → VK → Prop} (ho : UnR X (unaryOp op) r) (ha : QE X a ta) : QE X (.UnaryOp op a pos) (tUn r ta) := ⟨Ph ho ha.h⟩
theorem Mg (ha : QE X a ta) : QE X (.UnaryOp .Not a pos) (Bm ta) := ⟨MK ha.h⟩
theorem fQ {op : CmpOp} {r : R2} (ho : OpR X (compareOp op) r) (ha : QE X a ta) (hb : QE X b tb) (hm : behindInMarks op b = false) : QE X (.Compare a [op] [b] pos) (tOp r ta tb) := ⟨Jf ho ha.h hb.h hm⟩
theorem aW {op : CmpOp} {r : R2} (ho : OpR X (compareOp op) r) (ha : QE X a ta) (hb : QE X b tb) (hm : behindInMarks op b = false) : QT X (.Compare a [op] [b] pos) (pQ (tOp r ta tb)) := ⟨Ik ho ha.h hb.h hm⟩
theorem Dc {op op' : CmpOp} {r r' : R2} (ho : OpR X (compareOp op) r) (ho' : OpR X (compareOp op') r') (ha : QE X a ta) (hb : QE X b tb) (hc : QE X c tc)
  (hm : lastMarks [op, op'] [b, c] = false := by with_unfolding_all rfl) : QE X (.Compare a [op, op'] [b, c] pos) (nQ r r' ta tb tc) := ⟨Dq ho ho' ha.h hb.h hc.h hm⟩
theorem uq {op op' : CmpOp} {r r' : R2} (ho : OpR X (compareOp op) r) (ho' : OpR X (compareOp op') r') (ha : QE X a ta) (hb : QE X b tb) (hc : QE X c tc)
  (hm : lastMarks [op, op'] [b, c] = false := by with_unfolding_all rfl) : QT X (.Compare a [op, op'] [b, c] pos) (pQ (nQ r r' ta tb tc)) := ⟨Dd ho ho' ha.h hb.h hc.h hm⟩
theorem rM {op} (h : QE X a ta) : QE X (.BoolOp op [a] pos) ta := ⟨MJ h.h⟩
theorem nZ (ha : QE X a ta) (hb : QE X (.BoolOp .And (b :: rest) pos) tb) : QE X (.BoolOp .And (a :: b :: rest) pos) (Bt ta tb) := ⟨M6 ha.h hb.h⟩
theorem lg (hc : QT X c tA) (ha : QE X a ta) (hb : QE X b tb) : QE X (.IfExp c a b pos) (tIf tA ta tb) := ⟨Dm hc.h ha.h hb.h⟩
theorem bA {r : R2} (hr : IxR X r) (ha : QE X a ta) (hb : QE X b tb) (hs : yM b) : QE X (.Subscript a b pos) (tOp r ta tb) := ⟨Pk hr ha.h hb.h hs⟩
theorem cH (h : QA X es t) : QE X (.List es pos) (Lk t) := ⟨MT h.h⟩
theorem cQ {x1} (h : QA X es t) : QE X (.Tuple es x1 pos) (GJ t) := ⟨Mz h.h⟩
theorem aq : QA X [] qR := ⟨M7⟩
theorem aj (ha : QE X e te) (hr : QA X es t) (hs : starEach (e :: es) X.env = (false, eval e X.env) :: starEach es X.env := by rfl) : QA X (e :: es) (gR te t) := ⟨Jj ha.h hr.h hs⟩
theorem bC (C : Cal X.prog X.w X.K X.mg X.base x k ps sp) (hr : gJ k X.A) (hg : Gl X x) (hdb : Bn x) (ha : QA X (e :: es) t)
  (he : starEach (e :: es) X.env = (false, eval e X.env) :: starEach es X.env := by rfl) (hpl : (backTo pos (starEach es X.env)).any (·.1) = false := by rfl) : QE X (.Call (.Name x p) (e :: es) [] pos) (kh sp [] E0 t) := ⟨Pr C hr hg hdb ha.h he hpl⟩
theorem cB (hc : cO X (.builtin id) r) (hg : Gl X x) (hm : X.mg x = none) (hv : bootBuiltins x = some (.builtin id)) (b : Bn x) (ha : QA X (e :: es) t)
  (he : starEach (e :: es) X.env = (false, eval e X.env) :: starEach es X.env := by rfl) (hpl : (backTo pos (starEach es X.env)).any (·.1) = false := by rfl) : QE X (.Call (.Name x p) (e :: es) [] pos) (tCB r t) := ⟨Pu hc hg hm hv b ha.h he hpl⟩
theorem CW (hc : cO X (.type T) r) (hg : Gl X x) (hm : X.mg x = none) (hv : bootBuiltins x = some (.type T)) (b : Bn x) (ha : QA X (e :: es) t)
  (he : starEach (e :: es) X.env = (false, eval e X.env) :: starEach es X.env := by rfl) (hpl : (backTo pos (starEach es X.env)).any (·.1) = false := by rfl) : QE X (.Call (.Name x p) (e :: es) [] pos) (tCB r t) := ⟨Pn hc hg hm hv b ha.h he hpl⟩
theorem iJ (n : String) (hg : Gl X x) (hm : X.mg x = none) (hv : bootBuiltins x = some (.type n)) (b : Bn x) : QE X (.Name x pos) (tC (.ty n)) := ⟨PB n hg hm hv b⟩
theorem Mf (ha : QT X a tA) : QT X (.UnaryOp .Not a pos) (Lj tA) := ⟨Mq ha.h⟩
theorem jw (h : QE X e te) (he : ∀ whole, isTrue e X.env whole = (do let v ← whole; standAt e.pos; holding [v] (truthy v)) := by intro _; rfl) : QT X e (tB te) := ⟨Mp h.h he⟩
theorem rH (ha : QT X a tA) : QW X (.BoolOp .And [a] pos) tA := ⟨Ih ha.h⟩
theorem nY (ha : QT X a tA) : QW X (.BoolOp .Or [a] pos) tA := ⟨Mi ha.h⟩
theorem rJ (ha : QT X a tA) (hb : QW X (.BoolOp .And (b :: rest) pos) tB') : QW X (.BoolOp .And (a :: b :: rest) pos) (Lr tA tB') := ⟨Ml ha.h hb.h⟩
theorem qb (ha : QT X a tA) (hb : QW X (.BoolOp .Or (b :: rest) pos) tB') : QW X (.BoolOp .Or (a :: b :: rest) pos) (tOr tA tB') := ⟨O9 ha.h hb.h⟩
theorem uo (h : QW X e tA) : QT X e tA := ⟨h.h.pt⟩
theorem bO : QB X [] Bo := ⟨Im⟩
theorem aN (h : QS X st ts) : QB X [st] ts := ⟨Il h.h⟩
theorem aA (h : QS X st ts) (h2 : QB X sts us) : QB X (st :: sts) (Bj ts us) := ⟨Df h.h h2.h⟩
theorem aQ (he : QE X e te) : QS X (.Return (some e) pos) (yV te) := ⟨Ms he.h⟩
theorem cI {c : Expr} {a b : List Stmt} {tc : TT} (hc : QT X c tc) (ha : QB X a ts) (hb : QB X b us) : QS X (.If c a b pos) (Lp tc ts us) := ⟨Pb hc.h ha.h hb.h⟩
theorem kZ (he : QE X e te) (hs : swapsWith e none pos.line X.env = pure false := by rfl) : QS X (.Expr e pos) (Bq te) := ⟨Ir he.h hs⟩
theorem bQ (h : Nm X.N X.env.scope i x) (hN : X.N.Nodup) (he : QE X e te) (hs : swapsWith e (some (.Name x pos')) pos.line X.env = pure false := by rfl) (hf : X.fn x = true ∨ X.env.scope.names.lookup x = some .local := by exact .inl rfl) :
  QS X (.Assign [.Name x pos'] e pos) (oZ te (iV i)) := ⟨Pa h hN he.h hs hf⟩
theorem iz (he : QE X e te) (hg : QG X tg g) (hs : swapsWithSole [tg] e pos.line X.env = pure false := by rfl) (hw : swappedStores [tg] e X.env = pure none := by rfl)
  (h1 : (assignEach [tg] X.env).map (·.2) = [assign tg X.env] := by rfl) : QS X (.Assign [tg] e pos) (oZ te g) := ⟨Mv he.h hg.h hs hw h1⟩
theorem vR {i j : Nat} {x y : Str} {a b : Expr} {ta : TA} {px py pt : Pos} {kt k2 pt2} (hc : X.calm = true) (hN : X.N.Nodup) (hi : X.N[i]? = some x) (hj : X.N[j]? = some y) (hij : i ≠ j)
  (hx : X.env.scope.names.lookup x = some .local) (hy : X.env.scope.names.lookup y = some .local) (ha : QA X [a, b] ta)
  (hw : swappedStores [.Tuple [.Name x px, .Name y py] kt pt] (.Tuple [a, b] k2 pt2) X.env = pure (some [x, y]))
  (hs : swapsWithSole [.Tuple [.Name x px, .Name y py] kt pt] (.Tuple [a, b] k2 pt2) pos.line X.env = pure false := by rfl) :
  QS X (.Assign [.Tuple [.Name x px, .Name y py] kt pt] (.Tuple [a, b] k2 pt2) pos) (Li i j ta) := ⟨Mt hc hN hi hj hij hx hy ha.h hw hs⟩
theorem CV {c : Expr} {body : List Stmt} {tc : TT} (hp : PassesOwn (model X.prog X.w) X.A X.env X.xe) (hc : QT X c tc) (hb : QB X body ts) : QS X (.While c body [] pos) (vA tc ts) := ⟨Dg hp hc.h hb.h⟩
theorem fu {body : List Stmt} (hp : PassesOwn (model X.prog X.w) X.A X.env X.xe) (hc : X.calm = true) (hi : QI X tg iter wi) (hg : QG X tg g) (hb : QB X body ts)
  (hs : ∀ x, foldedSetIterable iter X.env x = pure x := by intro _; rfl) : QS X (.For tg iter body [] pos) (GQ wi g ts) := ⟨Mu hp hc hi.h hg.h hb.h hs⟩
theorem cj (h : Nm X.N X.env.scope i x) (hN : X.N.Nodup) (hf : X.fn x = true ∨ X.env.scope.names.lookup x = some .local := by exact .inl rfl) : QG X (.Name x pos) (iV i) := ⟨Pg h hN hf⟩
theorem eE (i : Nat) (hN : X.N.Nodup) (hi : X.N[i]? = some x) (hx : Loc X.env.scope x) (hf : X.fn x = true ∨ X.env.scope.names.lookup x = some .local := by first | exact .inl rfl | exact .inr rfl) : QG X (.Name x pos) (iV i) := ⟨xT hN hi hx hf⟩
theorem gb : QGs X [] Oi := ⟨Ja⟩
theorem bG (h1 : QG X e g) (h2 : QGs X es gs) (hs : (assignEach (e :: es) X.env).map (·.2) = assign e X.env :: (assignEach es X.env).map (·.2) := by rfl) : QGs X (e :: es) (Fq g gs) := ⟨Dj h1.h h2.h hs⟩
theorem jg {n : Nat} (hc : X.calm = true) (h : QGs X es gs) (hn : (assignEach es X.env).length = n := by rfl) (hst : (assignEach es X.env).findIdx? (·.1) = none := by rfl) : QG X (.Tuple es k pos) (yt n gs) := ⟨Jb hc h.h hn hst⟩
theorem Gj (o : Expr) (c j) (p pos : Pos) (env : Env) (v : Value) : assign (.Subscript o (.Constant c j p) pos) env v = (do
   let ov ← holding [v] (eval o env)
   let iv ← holding [v, ov] (eval (.Constant c j p) env)
   standAt pos
   holding [v, ov, iv] (setItem ov iv v)
   release [v, ov, iv] []) := rfl
theorem rK {c j} {t : Gp} (ho : QE X o to) (hi : QE X (.Constant c j p) ti) (hs : Gr X t) : QG X (.Subscript o (.Constant c j p) pos) (J9 to ti t) := ⟨Dk ho.h hi.h hs (fun v => Gj o c j p pos X.env v)⟩
theorem dU (hg : Gl X "range") (hm : X.mg "range" = none) (ha : QA X [a] t) (hs : starEach [a] X.env = [(false, eval a X.env)] := by rfl) : QI X tg (.Call (.Name "range" p) [a] [] pos) (jA t) := ⟨zq hg hm ha.h hs⟩
theorem vU : QC X [] GF := ⟨Ij⟩
theorem rN (h : QT X c tA) : QC X [c] tA := ⟨Ii h.h⟩
theorem jL {NX : List Str} {kX : List (Str × NameKind)} {scope : Scope} {elt : Expr} {ifs : List Expr} {tc : TT} (N : List Str) (mp : List (Option Nat)) (hNX : X.N = NX) (hkX : X.env.scope.names = kX) (S : mY NX kX N mp scope) (hc : X.calm = true)
  (hi : QI X tg iter wi) (hg : ∀ cl C s H fp, QG (aU X N scope cl C s H fp) tg g) (ht : ∀ cl C s H fp, QC (aU X N scope cl C s H fp) ifs tc) (he : ∀ cl C s H fp, QE (aU X N scope cl C s H fp) elt te)
  (hs : ∀ x, foldedSetIterable iter X.env x = pure x := by intro _; rfl) : QE X (.ListComp elt [⟨tg, iter, ifs, 0⟩] scope pos) (pU mp wi g tc te) :=
 ⟨Je N mp hNX hkX S hc hi.h (fun cl C s H fp => (hg cl C s H fp).h) (fun cl C s H fp => (ht cl C s H fp).h) (fun cl C s H fp => (he cl C s H fp).h) hs⟩
end
section
variable {P : Program} {w : World} {K : PySem.W.Frag} {mg : Str → Option Value} {base : Heap}
theorem Fun.okq {x qual : Str} {st : Stmt} {f : Addr} {fd : FuncData} {N ps : List Str} {k : Nat} {sp : Sp} (F : Fun K x qual st f fd) (S : bJ N ps (ak st)) (len : ∀ vs H Q E, sp vs H Q E → vs.length = ps.length)
  (hbody : ∀ (cdv : Value) (A : Around) (outer : List Env) (s : Shared) (H : Hp) (vs : List V) (Q : VK) (E : XK), gJ k (A.deeper (envOfC qual (ak st) s.heap.objs.size f cdv)) → sp vs H Q E →
   ∃ t, QB (wG CX0 P w K mg base N qual (ak st) f cdv A outer s H E).nox (bB st) t ∧ t { nx := fun _ H' => Q .non H', rt := Q } (L2.start N vs) H) : dg P w K mg base CX0 (k + 1) f fd ps sp :=
 F.ok S len fun cdv A outer s H vs Q E hr hsp => by
  obtain ⟨t, h, q⟩ := hbody cdv A outer s H vs Q E hr hsp
  exact ⟨t, h.h, q⟩
end
theorem vW : ∀ (ns : List Int), preSum (fun i => (ns[i]?).getD 0) ns.length = ns.sum := by
 have key : ∀ (f : Nat → Int) (n : Nat), preSum f (n + 1) = preSum f n + f n := fun f n => rfl
 have key2 : ∀ (n : Nat) (f g : Nat → Int), (∀ i, i < n → f i = g i) → preSum f n = preSum g n := by
  intro n
  induction n with
  | zero => intros; rfl
  | succ n ih => intro f g h; rw [key, key, ih f g fun i hi => h i (Nat.lt_succ_of_lt hi), h n (Nat.lt_succ_self n)]
 have key3 : ∀ (n : Nat) (f : Nat → Int), preSum f (n + 1) = f 0 + preSum (fun i => f (i + 1)) n := by
  intro n
  induction n with
  | zero => intro f; show (0 : Int) + f 0 = f 0 + 0; omega
  | succ n ih => intro f; rw [key, ih, key]; omega
 intro ns
 induction ns with
 | nil => rfl
 | cons a r ih =>
  rw [List.length_cons, key3, List.sum_cons, ← ih]
  rfl
def smq (o : Option HO) (H : Hp) (Q : VK) : Prop := match o with
 | some (.lst xs) => ∃ ns : List Int, xs = ns.map V.int ∧ Q (.int ns.sum) H
 | _ => False
def Cq : List V → Hp → VK → Prop := fun xs H Q => match xs with
 | [.ref p] => smq (H p) H Q
 | _ => False
theorem zc (p : Addr) (H : Hp) (Q : VK) : Cq [.ref p] H Q = smq (H p) H Q := rfl
theorem G3 (xs : List V) (H : Hp) (Q : VK) : smq (some (.lst xs)) H Q = ∃ ns : List Int, xs = ns.map V.int ∧ Q (.int ns.sum) H := rfl
section
variable {X : Cx}
theorem Ab (hc : X.calm = true) : cO X (.builtin "sum") Cq := by
 intro pins s σ H xs us Q I r h
 unfold Cq at h
 split at h
 ·rename_i p
  unfold smq at h
  split at h
  ·rename_i ys e
   obtain ⟨ns, rfl, q⟩ := h
   cases r with
   | cons r rr =>
    cases rr
    cases r
    obtain ⟨its, rv, pl, hz⟩ := I.list (SqL.of e)
    have hl := rv.length
    have lt : p < s.heap.objs.size := by obtain ⟨_, e, _⟩ := pl.isList; exact Heap.lt_size e
    refine call_sum_walkG (wpAny_pyIter_list pl.isList ?_)
    refine ⟨s.heap.objs.size, [s.heap.objs.size, p], [s.heap.objs.size], its.toArray.size, _, _, fun i => (ns[i]?).getD 0, rfl, Walks.list (A := X.A.in1) (I.ok.hd hc) _ p (Nat.ne_of_lt lt) _,
     ⟨⟨_, Heap.get?_push_size _ rfl, rfl, rfl⟩, pl.isList.push _⟩, ?_, fun i v hP => ?_, fun h' tk t' hk => ?_⟩
    ·intro b hb
     rw [Heap.size_push]
     simp only [List.mem_cons, List.not_mem_nil, or_false] at hb
     rcases hb with rfl | rfl
     ·exact Nat.lt_succ_self _
     ·exact Nat.lt_succ_of_lt lt
    ·have e1 : its[i]? = some v := by simpa using hP
     have hi : i < its.length := by
      rcases Nat.lt_or_ge i its.length with z | z
      ·exact z
      ·rw [List.getElem?_eq_none z] at e1; cases e1
     have hi2 : i < ns.length := by rw [← hl, List.length_map] at hi; exact hi
     obtain ⟨u, hu, ru⟩ := rv.get (i := i) (x := .int ns[i]) (by rw [List.getElem?_map, List.getElem?_eq_getElem hi2]; rfl)
     rw [e1] at hu
     cases hu
     obtain ⟨t, rfl⟩ := ru
     exact ⟨t, by show _ = Value.int ((ns[i]?).getD 0) t; rw [List.getElem?_eq_getElem hi2]; rfl⟩
    ·have e2 : its.toArray.size = ns.length := by rw [List.size_toArray, ← hl, List.length_map]
     rw [e2, vW]
     refine ⟨.int _, H, I.kept fun b o e => hk b o (fun hm => ?_) (Heap.get?_push_of_some _ e), ⟨t', rfl⟩, q⟩
     rw [List.mem_singleton.mp hm] at e
     exact Nat.lt_irrefl _ (Heap.lt_size e)
  ·exact h.elim
 ·exact h.elim
def za (i : Int) (n : Nat) : List V := (List.range n).map fun k => V.int (i + (k : Nat))
def Bp (ta : TA) : TE := fun σ H Q => ta σ H fun vs H1 => ∃ i j : Int, vs = [.int i, .int j] ∧ (-(2 ^ 62) ≤ i ∧ i < 2 ^ 62 ∧ -(2 ^ 62) ≤ j ∧ j < 2 ^ 62) ∧ (j - i).toNat ≤ sizeLine ∧ ∀ p, H1 p = none → Q (.ref p) (upd H1 p (.lst (za i (j - i).toNat)))
theorem wU : ∀ {xs : List V} {us : List Value}, xs.length = us.length → (∀ (i : Nat) x u, xs[i]? = some x → us[i]? = some u → RelV x u) → Vals xs us
 | [], [], _, _ => .nil
 | [], _ :: _, h, _ => by cases h
 | _ :: _, [], h, _ => by cases h
 | x :: xs, u :: us, h, f => .cons (f 0 x u rfl rfl) (wU (by simpa using h) fun i y v h1 h2 => f (i + 1) y v h1 h2)
theorem NQ : sizeLine ≤ 2 ^ 24 := by decide
theorem Jd {a b : Expr} {ta : TA} {p p2 pos pos2 : Pos} (hc : X.calm = true) (hgl : Gl X "list") (hml : X.mg "list" = none) (hg : Gl X "range") (hm : X.mg "range" = none) (ha : PA X [a, b] ta)
  (hs : starEach [a, b] X.env = [(false, eval a X.env), (false, eval b X.env)] := by rfl) (hs2 : starEach [b] X.env = [(false, eval b X.env)] := by rfl)
  (he : starEach [.Call (.Name "range" p2) [a, b] [] pos2] X.env = [(false, eval (.Call (.Name "range" p2) [a, b] [] pos2) X.env)] := by rfl) :
  PE X (.Call (.Name "list" p) [.Call (.Name "range" p2) [a, b] [] pos2] [] pos) (Bp ta) := by
 intro pins s σ H Q I h
 refine wpAny_Call_Name_kw (iC I hgl hml boot_list ?_ (by decide) (by decide))
 refine PyProof.Rows.callWith_type1 ?_ he rfl
 rw [he]
 show wpAny _ _ (spliced ((false, eval (.Call (.Name "range" p2) [a, b] [] pos2) X.env) :: [])) _ _ s
 refine Calls.spliced_cons ?_
 refine Call_ (iC I hg hm boot_range (PyProof.Rows.callWith_type1 (thA (ha pos2 pins s σ H _ I h) fun us s1 vs H1 I1 r1 q1 => ?_) (by rw [hs, hs2]) (by rw [hs2]; rfl)))
 obtain ⟨i, j, e, ⟨q1, q2, q3, q4⟩, hz, q⟩ := q1
 subst e
 cases r1 with
 | cons r rr =>
  cases rr with
  | cons r' rr =>
   cases rr
   obtain ⟨t, rfl⟩ := r
   obtain ⟨t', rfl⟩ := r'
   refine call_range_2 (Calls.spliced_nil ?_)
   refine call_list_range (n := (j - i).toNat) (I1.ok.hd hc) (IsRange.new ..) (small_one q1 q2 q3 q4) (by rw [rangeSize_one]; split <;> omega) (Nat.le_trans hz NQ) fun h' tk acc' c' kp e it => ?_
   have I2 : Inv X pins σ H1 { s1 with heap := s1.heap.push { cls := .type "range", data := .fields #[.int i t, .int j t', .int 1 s1.toks] }, toks := s1.toks + 1 } := I1.kept fun b o e => Heap.get?_push_of_some _ e
   have hf : H1 (s1.heap.push { cls := .type "range", data := .fields #[.int i t, .int j t', .int 1 s1.toks] }).objs.size = none := I2.hok.fresh (Nat.le_refl _)
   refine ⟨.ref _, _, I2.laid (t' := tk) kp (Nat.le_refl _) (show cu X.prog X.w _ h' _ (.lst (za i (j - i).toNat)) from ⟨?_, acc'.toList, c', ?_, by simpa using e⟩), rfl, q _ hf⟩
   ·simpa [za] using hz
   ·obtain ⟨it1, it2⟩ := it
    refine wU (by simp [za, it1]) fun k x u h1 h2 => ?_
    have h2' : acc'[k]? = some u := by simpa using h2
    obtain ⟨t9, rfl⟩ := it2 k u h2'
    unfold za at h1
    rw [List.getElem?_map] at h1
    have hk : k < (j - i).toNat := by
     rcases Nat.lt_or_ge k (j - i).toNat with z | z
     ·exact z
     ·rw [List.getElem?_eq_none (by simpa using z)] at h1; cases h1
    rw [List.getElem?_range hk] at h1
    cases h1
    exact ⟨t9, by rw [Int.mul_one]⟩
theorem Ig {a b : Expr} {ta : TA} {p p2 pos pos2 : Pos} (hc : X.calm = true) (hgl : Gl X "list") (hml : X.mg "list" = none) (hg : Gl X "range") (hm : X.mg "range" = none) (ha : QA X [a, b] ta)
  (hs : starEach [a, b] X.env = [(false, eval a X.env), (false, eval b X.env)] := by rfl) (hs2 : starEach [b] X.env = [(false, eval b X.env)] := by rfl)
  (he : starEach [.Call (.Name "range" p2) [a, b] [] pos2] X.env = [(false, eval (.Call (.Name "range" p2) [a, b] [] pos2) X.env)] := by rfl) :
  QE X (.Call (.Name "list" p) [.Call (.Name "range" p2) [a, b] [] pos2] [] pos) (Bp ta) := ⟨Jd hc hgl hml hg hm ha.h hs hs2 he⟩
def adq (a b : Option HO) (H : Hp) (Q : VK) : Prop := match a, b with
 | some (.lst xs), some (.lst zs) => xs.length + zs.length ≤ sizeLine ∧ ∀ p, H p = none → Q (.ref p) (upd H p (.lst (xs ++ zs)))
 | _, _ => False
def um : R2 := fun x y H Q => match x, y with
 | .int i, .int j => Q (.int (i + j)) H
 | .ref p, .ref q => adq (H p) (H q) H Q
 | _, _ => False
theorem HW (i j : Int) (H : Hp) (Q : VK) : um (.int i) (.int j) H Q = Q (.int (i + j)) H := rfl
theorem HS (p q : Addr) (H : Hp) (Q : VK) : um (.ref p) (.ref q) H Q = adq (H p) (H q) H Q := rfl
theorem wQ (xs zs : List V) (H : Hp) (Q : VK) : adq (some (.lst xs)) (some (.lst zs)) H Q = (xs.length + zs.length ≤ sizeLine ∧ ∀ p, H p = none → Q (.ref p) (upd H p (.lst (xs ++ zs)))) := rfl
theorem bh : OpR X (binaryOp .Add) um := by
 intro pins s σ H x y v u Q I rx ry h
 unfold um at h
 split at h
 ·exact Ng pins s σ H _ _ v u Q I rx ry ⟨_, _, rfl, rfl, h⟩
 ·rename_i p q
  unfold adq at h
  split at h
  ·rename_i xs zs e1 e2
   exact Nf pins s σ H _ _ v u Q I rx ry ⟨p, q, xs, zs, rfl, rfl, e1, e2, h.1, h.2⟩
  ·exact h.elim
 ·exact h.elim
def eqL : List V → List V → Bool
 | [], [] => true
 | x :: xs, y :: ys => eqV x y && eqL xs ys
 | _, _ => false
def Jx (a b : Option HO) (H : Hp) (Q : VK) : Prop := match a, b with
 | some (.lst xs), some (.lst zs) => xs.all dF = true ∧ zs.all dF = true ∧ Q (.bl (!eqL xs zs)) H
 | _, _ => False
def vP : R2 := fun x y H Q => match x, y with
 | .ref p, .ref q => Jx (H p) (H q) H Q
 | x, y => rNe x y H Q
theorem LC (p q : Addr) (H : Hp) (Q : VK) : vP (.ref p) (.ref q) H Q = Jx (H p) (H q) H Q := rfl
theorem LK (i j : Int) (H : Hp) (Q : VK) : vP (.int i) (.int j) H Q = rNe (.int i) (.int j) H Q := rfl
theorem LQ (i j : Bool) (H : Hp) (Q : VK) : vP (.bl i) (.bl j) H Q = rNe (.bl i) (.bl j) H Q := rfl
theorem Lz (i j : Str) (H : Hp) (Q : VK) : vP (.str i) (.str j) H Q = rNe (.str i) (.str j) H Q := rfl
theorem Jw (xs zs : List V) (H : Hp) (Q : VK) : Jx (some (.lst xs)) (some (.lst zs)) H Q = (xs.all dF = true ∧ zs.all dF = true ∧ Q (.bl (!eqL xs zs)) H) := rfl
theorem yx : ∀ (xs zs : List V), xs.length = zs.length → ((List.range xs.length).all fun j => match xs[j]?, zs[j]? with | some a, some b => eqV a b | _, _ => true) = eqL xs zs
 | [], [], _ => rfl
 | [], _ :: _, h => by cases h
 | _ :: _, [], h => by cases h
 | x :: xs, z :: zs, h => by
  have ih := yx xs zs (by simpa using h)
  rw [List.length_cons, List.range_succ_eq_map, List.all_cons, List.all_map]
  show (eqV x z && _) = (eqV x z && eqL xs zs)
  rw [← ih]
  rfl
theorem yw : ∀ (xs zs : List V), xs.length ≠ zs.length → eqL xs zs = false
 | [], [], h => absurd rfl h
 | [], _ :: _, _ => rfl
 | _ :: _, [], _ => rfl
 | x :: xs, z :: zs, h => by
  show (eqV x z && eqL xs zs) = false
  rw [yw xs zs (by simpa using h), Bool.and_false]
theorem jh (hu : X.A.units < cLine) : OpR X (compareOp .NotEq) vP := by
 intro pins s σ H x y v u Q I rx ry h
 unfold vP at h
 split at h
 ·rename_i p q
  unfold Jx at h
  split at h
  ·rename_i xs zs e1 e2
   obtain ⟨f1, f2, q⟩ := h
   cases rx
   cases ry
   obtain ⟨its1, r1, pl1, hz1⟩ := I.list (SqL.of e1)
   obtain ⟨its2, r2, pl2, hz2⟩ := I.list (SqL.of e2)
   have l1 := r1.length
   have l2 := r2.length
   by_cases hl : xs.length = zs.length
   ·refine SeqAt.RcNeAt.lists (e := fun j => match xs[j]?, zs[j]? with | some a, some b => eqV a b | _, _ => true) pl1.isList pl2.isList (by simp only [List.size_toArray]; omega) hu (fun j h1 h2 => ?_) X.prog X.w X.xe (EP X pins σ Q) ?_
    ·have j1 : j < xs.length := by simp only [List.size_toArray] at h1; omega
     have j2 : j < zs.length := by omega
     have g1 : xs[j]? = some xs[j] := List.getElem?_eq_getElem j1
     have g2 : zs[j]? = some zs[j] := List.getElem?_eq_getElem j2
     obtain ⟨u1, hu1, ru1⟩ := r1.get g1
     obtain ⟨u2, hu2, ru2⟩ := r2.get g2
     have k1 : its1.toArray[j] = u1 := by
      have := List.getElem?_eq_some_iff.mp hu1
      obtain ⟨_, z⟩ := this
      simpa using z
     have k2 : its2.toArray[j] = u2 := by
      have := List.getElem?_eq_some_iff.mp hu2
      obtain ⟨_, z⟩ := this
      simpa using z
     rw [k1, k2, g1, g2]
     exact FJ ru1 ru2 (List.all_eq_true.mp f1 _ (List.getElem_mem j1)) (List.all_eq_true.mp f2 _ (List.getElem_mem j2))
    ·rw [show its1.toArray.size = xs.length by simp only [List.size_toArray]; omega, yx xs zs hl]
     exact ⟨.bl _, H, I, rfl, q⟩
   ·rw [yw xs zs hl] at q
    refine SeqAt.RcNeAt.lists_lengths pl1.isList pl2.isList (by simp only [List.size_toArray, bne_iff_ne, ne_eq]; omega) hu X.prog X.w X.xe (EP X pins σ Q) ⟨.bl _, H, I, rfl, q⟩
  ·exact h.elim
 ·exact PL pins s σ H _ _ v u Q I rx ry h
def inq (neg : Bool) (o : Option HO) (x : V) (H : Hp) (Q : VK) : Prop := match o with
 | some (.lst xs) => dF x = true ∧ xs.all dF = true ∧ Q (.bl (if neg then !inV x xs else inV x xs)) H
 | some (.tup xs) => dF x = true ∧ xs.all dF = true ∧ Q (.bl (if neg then !inV x xs else inV x xs)) H
 | _ => False
def Ma (neg : Bool) : R2 := fun x y H Q => match y with
 | .ref p => inq neg (H p) x H Q
 | _ => False
theorem LR (neg : Bool) (x : V) (p : Addr) (H : Hp) (Q : VK) : Ma neg x (.ref p) H Q = inq neg (H p) x H Q := rfl
theorem Qf (neg : Bool) (x : V) (xs : List V) (H : Hp) (Q : VK) : inq neg (some (.lst xs)) x H Q = (dF x = true ∧ xs.all dF = true ∧ Q (.bl (if neg then !inV x xs else inV x xs)) H) := rfl
theorem Qe (neg : Bool) (x : V) (xs : List V) (H : Hp) (Q : VK) : inq neg (some (.tup xs)) x H Q = (dF x = true ∧ xs.all dF = true ∧ Q (.bl (if neg then !inV x xs else inV x xs)) H) := rfl
theorem Oe {neg : Bool} {o : Option HO} {x : V} {H : Hp} {Q : VK} {p : Addr} {K : PySem.W.Frag} (e : H p = o) (h : inq neg o x H Q) : rIn K neg x (.ref p) H Q := by
 unfold inq at h
 split at h
 ·rename_i xs
  exact ⟨p, xs, rfl, .inl (SqL.of e), h.1, h.2.1, h.2.2⟩
 ·rename_i xs
  exact ⟨p, xs, rfl, .inr (SqT.of e), h.1, h.2.1, h.2.2⟩
 ·exact h.elim
theorem zx : OpR X (compareOp .NotIn) (Ma true) := by
 intro pins s σ H x y v u Q I rx ry h
 unfold Ma at h
 split at h
 ·exact rR pins s σ H _ _ v u Q I rx ry (Oe rfl h)
 ·exact h.elim
end
theorem Gh {α : Type} (a b : α) : atI [a, b] (-1) = some b := rfl
theorem Gg {α : Type} (a b c : α) : atI [a, b, c] (-1) = some c := rfl
theorem Gu {c : TT} {tb : TS} {D : Ends} {σ : St} {H : Hp} (W : Nat → St → Hp → Prop) (m : Nat) (h0 : W m σ H)
  (h : ∀ m σ H, W m σ H → c σ H fun b H1 => if b = true then ∃ N : St → Hp → Prop, (∀ σ' H', N σ' H' → ∃ m', m' < m ∧ W m' σ' H') ∧ tb { D with nx := N, ct := N, bk := D.nx } σ H1 else D.nx σ H1) : vA c tb D σ H := ⟨W, ⟨m, h0⟩, h⟩
structure bx (H : Hp) (p : Addr) (B : Int) : Prop where
 ex : ∃ a b c : Int, H p = some (.lst [.int a, .int b, .int c]) ∧ 0 ≤ a ∧ 0 ≤ b ∧ b < 2147483629 ∧ 0 ≤ c ∧ c ≤ B
theorem bx.same {H H' : Hp} {p : Addr} {B : Int} (h : bx H p B) (s : Same H H') : bx H' p B := by
 obtain ⟨a, b, c, e, r⟩ := h
 exact ⟨a, b, c, s _ _ e, r⟩
theorem bx.le {H : Hp} {p : Addr} {B B' : Int} (h : bx H p B) (l : B ≤ B') : bx H p B' := by
 obtain ⟨a, b, c, e, r1, r2, r3, r4, r5⟩ := h
 exact ⟨a, b, c, e, r1, r2, r3, r4, by omega⟩
theorem bx.ne {H : Hp} {p q : Addr} {B : Int} (h : bx H p B) (n : H q = none) : q ≠ p := by
 obtain ⟨a, b, c, e, _⟩ := h
 exact (aB e n).symm
theorem bx.net {H : Hp} {p q : Addr} {B : Int} {xs : List V} (h : bx H p B) (n : H q = some (.tup xs)) : q ≠ p := by
 obtain ⟨a, b, c, e, _⟩ := h
 intro z
 rw [z, e] at n
 cases n
theorem two_pow_pos (k : Nat) : (0 : Int) < 2 ^ k := Int.pow_pos (by decide)
def BV (K : PySem.W.Frag) : Sp := fun vs H Q _ => ∃ (a : Addr) (ns : List Int) (k : Int), vs = [.ref a, .int k] ∧ SqL K H a (ns.map V.int) ∧ 0 ≤ k ∧ ∀ v : Int, Q (.int v) H
def BJ (K : PySem.W.Frag) : Sp := fun vs H Q _ => ∃ (a : Addr) (ns : List Int) (k : Int), vs = [.ref a, .int k] ∧ SqL K H a (ns.map V.int) ∧ 0 ≤ k ∧ k ≤ 100 ∧ ∀ p H', H p = none → Same H H' → bx H' p 0 → Q (.ref p) H'
def dN (n : Nat) : Sp := fun vs H Q _ => ∃ (p : Addr) (m B : Int), vs = [.ref p, .int m] ∧ bx H p B ∧ B + (n : Int) ≤ 1000100 ∧ 0 < m ∧ m < 2 ^ 70 ∧ 1 ≤ n ∧ (1000000 ≤ m → 2 ≤ n) ∧
 ∀ r H', 0 ≤ r → r < m → bN p H H' → bx H' p (B + n) → Q (.int r) H'
theorem Mw (c : Int) : ∃ v : Int, atI [V.int 2147483587, V.int 2147483579, V.int 2147483563, V.int 2147483549, V.int 2147483543, V.int 2147483497, V.int 2147483489] (c % 7) = some (.int v) ∧ 0 < v := by
 have h1 : 0 ≤ c % 7 := Int.emod_nonneg _ (by decide)
 have h2 : c % 7 < 7 := Int.emod_lt_of_pos _ (by decide)
 generalize c % 7 = d at h1 h2
 have h3 : d = 0 ∨ d = 1 ∨ d = 2 ∨ d = 3 ∨ d = 4 ∨ d = 5 ∨ d = 6 := by omega
 rcases h3 with rfl | rfl | rfl | rfl | rfl | rfl | rfl
 ·exact ⟨_, eV (j := 0) rfl, by decide⟩
 ·exact ⟨_, eV (j := 1) rfl, by decide⟩
 ·exact ⟨_, eV (j := 2) rfl, by decide⟩
 ·exact ⟨_, eV (j := 3) rfl, by decide⟩
 ·exact ⟨_, eV (j := 4) rfl, by decide⟩
 ·exact ⟨_, eV (j := 5) rfl, by decide⟩
 ·exact ⟨_, eV (j := 6) rfl, by decide⟩
def pX : Sp := fun vs H Q _ => ∃ n w, vs = [.int n, .int w] ∧ 1 ≤ w ∧ w ≤ 40 ∧ Q (.int (n % 2 ^ w.toNat)) H
def wl (w s : Int) : Int := 0 - 2 ^ (w - 1).toNat * s
theorem iT {w : Int} (h : 1 ≤ w) : (2 : Int) ^ w.toNat = 2 * 2 ^ (w - 1).toNat := by
 have e : w.toNat = (w - 1).toNat + 1 := by omega
 rw [e, Int.pow_succ]
 omega
theorem iG {w s : Int} (h1 : 1 ≤ w) (h2 : w ≤ 40) (hs : s = 0 ∨ s = 1) : -1099511627776 ≤ wl w s ∧ wl w s ≤ 0 ∧ 0 < wl w s + 2 ^ w.toNat ∧ wl w s + 2 ^ w.toNat ≤ 1099511627776 := by
 have e := iT h1
 have p := two_pow_pos (w - 1).toNat
 have q := dW (k := w.toNat) (by omega)
 unfold wl
 rcases hs with rfl | rfl
 ·simp only [Int.mul_zero, Int.sub_zero, Int.zero_add]
  omega
 ·simp only [Int.mul_one]
  omega
def kE : Sp := fun vs H Q _ => ∃ w s, vs = [.int w, .int s] ∧ 1 ≤ w ∧ w ≤ 40 ∧ (s = 0 ∨ s = 1) ∧ Q (.int (wl w s)) H
def BL : Sp := fun vs H Q _ => ∃ (p : Addr) (B : Int), vs = [.ref p] ∧ bx H p B ∧ 0 ≤ B ∧ B ≤ 1000050 ∧
 ∀ (w s : Int) (t : Addr) H', 1 ≤ w → w ≤ 40 → (s = 0 ∨ s = 1) → bN p H H' → bx H' p (B + 10) → H' t = some (.tup [.int w, .int s]) → Q (.ref t) H'
def KZ : Sp := fun vs H Q _ => ∃ (p : Addr) (w s o B : Int), vs = [.ref p, .int w, .int s, .int o] ∧ bx H p B ∧ 0 ≤ B ∧ B ≤ 1000050 ∧ 1 ≤ w ∧ w ≤ 40 ∧ (s = 0 ∨ s = 1) ∧
 ∀ (r : Int) H', wl w s ≤ r → r < wl w s + 2 ^ w.toNat → bN p H H' → bx H' p (B + 10) → Q (.int r) H'
theorem Ke {a b : V} {P : V → V → Prop} : (∃ v w, (a = v ∧ b = w) ∧ P v w) = P a b := propext ⟨fun ⟨_, _, ⟨h1, h2⟩, h⟩ => h1 ▸ h2 ▸ h, fun h => ⟨a, b, ⟨rfl, rfl⟩, h⟩⟩
theorem Ov (X k : Nat) : ((X : Int) / 2 ^ k) % 2 = if X.testBit k then 1 else 0 := by
 have e : (X : Int) / 2 ^ k % 2 = ((X / 2 ^ k % 2 : Nat) : Int) := by
  rw [Int.natCast_emod, Int.natCast_ediv, Int.natCast_pow]
  rfl
 rw [e, Nat.testBit_eq_decide_div_mod_eq]
 have := Nat.mod_lt (X / 2 ^ k) (show 0 < 2 by decide)
 by_cases h : X / 2 ^ k % 2 = 1
 ·simp [h]
 ·have h0 : X / 2 ^ k % 2 = 0 := by omega
  simp [h0]
theorem KH (y : Int) : Builtin.bitAnd y 1 = y % 2 := by
 have := PySem.W.kbt_mask y 1
 simpa using this
theorem xu (X k : Nat) : Builtin.bitAnd ((X : Int) / 2 ^ k) 1 = if X.testBit k then 1 else 0 := by
 rw [KH, Ov]
theorem j6 (a b : Nat) : Builtin.bitAnd (a : Int) (b : Int) = ((a &&& b : Nat) : Int) := by
 unfold Builtin.bitAnd
 simp
def isFree (m k : Nat) : Bool := !m.testBit k && (List.range k).any fun j => m.testBit j
def frees (n m : Nat) : List Nat := (List.range n).filter (isFree m)
def unset (n b m : Nat) : Nat := ((List.range n).filter fun k => decide (b ≤ k) && !m.testBit k).length
theorem iD {α : Type} (p q : α → Bool) : ∀ l : List α, (∀ x ∈ l, p x = true → q x = true) → (l.filter p).length ≤ (l.filter q).length
 | [], _ => Nat.le_refl _
 | x :: l, h => by
  have ih := iD p q l fun y hy => h y (List.mem_cons_of_mem _ hy)
  have hx := h x List.mem_cons_self
  rw [List.filter_cons, List.filter_cons]
  cases hp : p x with
  | true =>
   rw [hx hp]
   simp only [if_true, List.length_cons]
   omega
  | false =>
   simp only [Bool.false_eq_true, if_false]
   split
   ·rw [List.length_cons]; omega
   ·exact ih
theorem Fv {n b m : Nat} (h : ∀ k, k < b → m.testBit k = false) : (frees n m).length ≤ unset n b m := by
 refine iD _ _ _ fun k hk hf => ?_
 unfold isFree at hf
 rw [Bool.and_eq_true, List.any_eq_true] at hf
 obtain ⟨h1, j, hj, hb⟩ := hf
 have hj' := List.mem_range.mp hj
 have : b ≤ j := by
  rcases Nat.lt_or_ge j b with z | z
  ·rw [h j z] at hb; cases hb
  ·exact z
 rw [h1, Bool.and_true]
 exact decide_eq_true (by omega)
theorem Ba (n b m : Nat) : unset n b m ≤ n - b := by
 have key : ∀ n, ((List.range n).filter fun k => decide (b ≤ k)).length ≤ n - b := by
  intro n
  induction n with
  | zero => exact Nat.zero_le _
  | succ n ih =>
   rw [List.range_succ, List.filter_append, List.length_append]
   by_cases h : b ≤ n
   ·simp only [List.filter_cons, h, decide_true, if_true, List.filter_nil, List.length_singleton]
    omega
   ·simp only [List.filter_cons, h, decide_false, Bool.false_eq_true, if_false, List.filter_nil, List.length_nil]
    omega
 refine Nat.le_trans (iD _ _ _ fun k hk hf => ?_) (key n)
 rw [Bool.and_eq_true] at hf
 exact hf.1
theorem nO {n b m : Nat} (h : ∀ k, b ≤ k → k < n → m.testBit k = true) : unset n b m = 0 := by
 unfold unset
 rw [List.length_eq_zero_iff, List.filter_eq_nil_iff]
 intro k hk
 have hk' := List.mem_range.mp hk
 by_cases hb : b ≤ k
 ·simp [h k hb hk']
 ·simp [hb]
theorem vo {n b m m' j : Nat} (h : ∀ k, m'.testBit k = (m.testBit k && !decide (k = j))) : unset n b m' ≤ unset n b m + 1 := by
 unfold unset
 induction n with
 | zero => exact Nat.zero_le _
 | succ n ih =>
  have one : ∀ (p : Nat → Bool), ((List.range (n + 1)).filter p).length = ((List.range n).filter p).length + if p n then 1 else 0 := by
   intro p
   rw [List.range_succ, List.filter_append, List.length_append]
   cases hp : p n <;> simp [hp]
  rw [one, one]
  by_cases hj : n = j
  ·subst hj
   have same : ((List.range n).filter fun k => decide (b ≤ k) && !m'.testBit k).length = ((List.range n).filter fun k => decide (b ≤ k) && !m.testBit k).length := by
    have : (List.range n).filter (fun k => decide (b ≤ k) && !m'.testBit k) = (List.range n).filter fun k => decide (b ≤ k) && !m.testBit k := by
     refine List.filter_congr fun k hk => ?_
     have hk' := List.mem_range.mp hk
     rw [h k]
     have : decide (k = n) = false := decide_eq_false (by omega)
     rw [this, Bool.not_false, Bool.and_true]
    rw [this]
   rw [same]
   split <;> split <;> omega
  ·rw [h n]
   have : decide (n = j) = false := decide_eq_false hj
   rw [this, Bool.not_false, Bool.and_true]
   omega
theorem GX {m j : Nat} (h : m.testBit j = true) : ∀ k, (m - 2 ^ j).testBit k = (m.testBit k && !decide (k = j)) := by
 intro k
 have p : 0 < 2 ^ j := Nat.pow_pos (by decide)
 have hd : m / 2 ^ j % 2 = 1 := by
  rw [Nat.testBit_eq_decide_div_mod_eq] at h
  exact of_decide_eq_true h
 -- m = 2^j * (2 * a + 1) + lo
 have e0 := Nat.div_add_mod m (2 ^ j)
 have e1 : m / 2 ^ j = 2 * (m / 2 ^ j / 2) + 1 := by omega
 generalize m / 2 ^ j / 2 = a at e1
 have lo := Nat.mod_lt m p
 generalize m % 2 ^ j = l at e0 lo
 rw [e1] at e0
 have e2 : m - 2 ^ j = 2 ^ j * (2 * a) + l := by
  rw [← e0, Nat.mul_add, Nat.mul_one]
  omega
 rw [e2, ← e0, Nat.testBit_two_pow_mul_add _ lo, Nat.testBit_two_pow_mul_add _ lo]
 by_cases hk : k < j
 ·have : decide (k = j) = false := decide_eq_false (by omega)
  rw [if_pos hk, if_pos hk, this, Bool.not_false, Bool.and_true]
 ·rw [if_neg hk, if_neg hk]
  by_cases hkj : k = j
  ·subst hkj
   simp
  ·have : decide (k = j) = false := decide_eq_false hkj
   rw [this, Bool.not_false, Bool.and_true]
   obtain ⟨d, hd⟩ : ∃ d, k - j = d + 1 := ⟨k - j - 1, by omega⟩
   rw [hd, Nat.testBit_succ, Nat.testBit_succ]
   congr 1
   omega
theorem KD (m j : Nat) : m &&& 2 ^ j = if m.testBit j then 2 ^ j else 0 := by
 refine Nat.eq_of_testBit_eq fun k => ?_
 rw [Nat.testBit_and, Nat.testBit_two_pow]
 by_cases hk : j = k
 ·subst hk
  cases h : m.testBit j
  ·simp
  ·simp [Nat.testBit_two_pow]
 ·have : decide (j = k) = false := decide_eq_false hk
  rw [this, Bool.and_false]
  split
  ·rw [Nat.testBit_two_pow, this]
  ·rw [Nat.zero_testBit]
theorem El (m j : Nat) : ∃ m' : Nat, (m : Int) - Builtin.bitAnd (m : Int) ((2 : Int) ^ j) = (m' : Int) ∧ m' ≤ m ∧ ∀ k, m'.testBit k = (m.testBit k && !decide (k = j)) := by
 have e : ((2 : Int) ^ j) = ((2 ^ j : Nat) : Int) := by simp
 rw [e, j6, KD]
 cases h : m.testBit j with
 | true =>
  have hle : 2 ^ j ≤ m := Nat.ge_two_pow_of_testBit h
  refine ⟨m - 2 ^ j, ?_, Nat.sub_le _ _, GX h⟩
  simp only [if_true]
  omega
 | false =>
  refine ⟨m, by simp, Nat.le_refl _, fun k => ?_⟩
  by_cases hk : k = j
  ·subst hk
   simp [h]
  ·simp [hk]
def nA (W b m i : Nat) : Prop := m < 2 ^ W ∧ (∀ k, k < b → m.testBit k = false) ∧ unset W b m ≤ i
theorem nA.frees {W b m i : Nat} (h : nA W b m i) : (frees W m).length ≤ i := Nat.le_trans (Fv h.2.1) h.2.2
theorem iZ (k : Nat) : (2 : Int) ^ k = ((2 ^ k : Nat) : Int) := by simp
theorem En {n k : Nat} (h : (n : Int) < 2 ^ k) : n < 2 ^ k := by
 rw [iZ] at h
 omega
theorem Np {W T : Nat} (h : T ≤ W) : ∃ m : Nat, ((2 : Int) ^ T - 1) * 2 ^ (W - T) = (m : Int) ∧ nA W (W - T) m 0 := by
 have p := Nat.pow_pos (n := T) (show 0 < 2 by decide)
 have tb : ∀ k, ((2 ^ T - 1) * 2 ^ (W - T)).testBit k = (decide (W - T ≤ k) && decide (k - (W - T) < T)) := fun k => by
  rw [Nat.testBit_mul_two_pow, Nat.testBit_two_pow_sub_one]
 refine ⟨(2 ^ T - 1) * 2 ^ (W - T), ?_, ?_, fun k hk => ?_, ?_⟩
 ·rw [iZ, iZ, Int.natCast_mul, Int.natCast_sub p]
  rfl
 ·have e : 2 ^ W = 2 ^ T * 2 ^ (W - T) := by rw [← Nat.pow_add, Nat.add_sub_cancel' h]
  rw [e]
  exact Nat.mul_lt_mul_of_pos_right (by omega) (Nat.pow_pos (by decide))
 ·rw [tb, decide_eq_false (by omega), Bool.false_and]
 ·rw [nO fun k h1 h2 => by rw [tb, decide_eq_true h1, decide_eq_true (show k - (W - T) < T by omega)]; rfl]
  exact Nat.le_refl _
theorem Nr (W : Nat) : ∃ m : Nat, (2 : Int) ^ W - 1 = (m : Int) ∧ nA W 0 m 0 := by
 have p := Nat.pow_pos (n := W) (show 0 < 2 by decide)
 refine ⟨2 ^ W - 1, ?_, by omega, fun k hk => by omega, ?_⟩
 ·rw [iZ]
  omega
 ·rw [nO fun k h1 h2 => by rw [Nat.testBit_two_pow_sub_one, decide_eq_true h2]]
  exact Nat.le_refl _
theorem Jz {W r : Nat} (h : 4 ≤ W) (hr : r < 16) : ∃ m : Nat, (r : Int) * 2 ^ (W - 4) = (m : Int) ∧ nA W (W - 4) m 4 := by
 refine ⟨r * 2 ^ (W - 4), ?_, ?_, fun k hk => ?_, ?_⟩
 ·rw [iZ, Int.natCast_mul]
 ·have e : 2 ^ W = 16 * 2 ^ (W - 4) := by rw [show 16 = 2 ^ 4 from rfl, ← Nat.pow_add, Nat.add_sub_cancel' h]
  rw [e]
  exact Nat.mul_lt_mul_of_pos_right hr (Nat.pow_pos (by decide))
 ·rw [Nat.testBit_mul_two_pow, decide_eq_false (by omega), Bool.false_and]
 ·have := Ba W (W - 4) (r * 2 ^ (W - 4))
  omega
theorem Nq {W b m i : Nat} (h : nA W b m i) (j : Nat) : ∃ m' : Nat, (m : Int) - Builtin.bitAnd (m : Int) ((2 : Int) ^ j) = (m' : Int) ∧ nA W b m' (i + 1) := by
 obtain ⟨m', e, l, tb⟩ := El m j
 refine ⟨m', e, Nat.lt_of_le_of_lt l h.1, fun k hk => ?_, ?_⟩
 ·rw [tb, h.2.1 k hk, Bool.false_and]
 ·exact Nat.le_trans (vo tb) (Nat.succ_le_succ h.2.2)
theorem nA.le {W b m i j : Nat} (h : nA W b m i) (l : i ≤ j) : nA W b m j := ⟨h.1, h.2.1, Nat.le_trans h.2.2 l⟩
inductive It1 where
 | one (a : Int)
 | rng (a b : Int)
 | bits (m v : Nat)
def itV : It1 → List V
 | .one a => [.str "is", .int a]
 | .rng a b => [.str "from", .int a, .int b]
 | .bits m v => [.str "bits", .int m, .int v]
theorem JW (a : Int) : itV (.one a) = [.str "is", .int a] := rfl
theorem JV (a b : Int) : itV (.rng a b) = [.str "from", .int a, .int b] := rfl
theorem EY (m v : Nat) : itV (.bits m v) = [.str "bits", .int m, .int v] := rfl
structure gK (H : Hp) (t : Addr) (it : It1) : Prop where
 h : H t = some (.tup (itV it))
def dm (w s a : Int) : Prop := wl w s ≤ a ∧ a < wl w s + 2 ^ w.toNat
def It1.Ok (w s : Int) : It1 → Prop
 | .one a => dm w s a
 | .rng a b => dm w s a ∧ dm w s b ∧ a ≤ b
 | .bits m v => m < 2 ^ w.toNat ∧ v < 2 ^ w.toNat ∧ (9 ≤ w → (frees w.toNat m).length ≤ 4)
def bR (w : Int) (n : Int) : It1 → Bool
 | .one a => decide (n = a)
 | .rng a b => decide (a ≤ n) && decide (n ≤ b)
 | .bits m v => decide ((n % 2 ^ w.toNat).toNat &&& m = v)
def xg : Sp := fun vs H Q _ => ∃ (w n : Int) (t : Addr) (it : It1), vs = [.int w, .ref t, .int n] ∧ 1 ≤ w ∧ w ≤ 40 ∧ gK H t it ∧ Q (.bl (bR w n it)) H
def BK : Sp := fun vs H Q _ => ∃ (p : Addr) (w B : Int), vs = [.ref p, .int w] ∧ bx H p B ∧ 0 ≤ B ∧ B ≤ 1000050 ∧ 1 ≤ w ∧ w ≤ 40 ∧
 ∀ (m : Nat) H', m < 2 ^ w.toNat → (9 ≤ w → (frees w.toNat m).length ≤ 4) → bN p H H' → bx H' p (B + 20) → Q (.int m) H'
def BP : Sp := fun vs H Q _ => ∃ (p : Addr) (w s o B : Int), vs = [.ref p, .int w, .int s, .int o] ∧ bx H p B ∧ 0 ≤ B ∧ B ≤ 1000000 ∧ 1 ≤ w ∧ w ≤ 40 ∧ (s = 0 ∨ s = 1) ∧
 ∀ (it : It1) (t : Addr) H', It1.Ok w s it → bN p H H' → bx H' p (B + 60) → gK H' t it → Q (.ref t) H'
def BR : Sp := fun vs H Q _ => ∃ (w : Int) (m : Nat), vs = [.int w, .int m] ∧ 1 ≤ w ∧ w ≤ 40 ∧ m < 2 ^ w.toNat ∧
 ∀ (p : Addr) H', H' p = some (.lst ((frees w.toNat m).map fun k => V.int (k : Nat))) → Same H H' → Q (.ref p) H'
theorem Mj (n w : Int) : (((n % 2 ^ w.toNat).toNat : Nat) : Int) = n % 2 ^ w.toNat := by
 have := Int.emod_nonneg n (Int.ne_of_gt (two_pow_pos w.toNat))
 omega
theorem vX (w n : Int) (m v : Nat) : decide (Builtin.bitAnd (n % 2 ^ w.toNat) (m : Int) = (v : Int)) = bR w n (.bits m v) := by
 unfold bR
 rw [← Mj n w, j6]
 simp only [decide_eq_decide, Int.ofNat_inj, Int.toNat_natCast]
section
variable {mp : List (Option Nat)} {g : TG} {tc : TT} {te : TE} {σ : St} {H : Hp} {Q : VK} {R : It → Hp → Prop} {K : PySem.W.Frag}
theorem FQ {lo : Int} {n : Nat} (hR : R = vm mp g tc te σ Q) (hz : n ≤ sizeLine) (Pv : Nat → List V → St → Hp → Prop) (h0 : Pv 0 [] (fZ mp σ) H) (hl : ∀ i acc τ H, Pv i acc τ H → acc.length ≤ i)
  (hs : ∀ i acc τ H, i < n → Pv i acc τ H → g (.int (lo + i)) τ H fun τ1 H4 => tc τ1 H4 fun b H5 => if b = true then te τ1 H5 fun v H6 => Pv (i + 1) (acc ++ [v]) τ1 H6 else Pv (i + 1) acc τ1 H5)
  (hd : ∀ acc τ H d, Pv n acc τ H → H d = none → Q (.ref d) (upd H d (.lst acc))) : R (Itr lo n) H := by
 refine lU hR n hz Pv h0 hl (fun i acc τ H hi _ => hi) (fun acc τ H _ => Nat.le_refl n) (fun i acc τ H x H3 hi p y => ?_) hd
 obtain ⟨rfl, rfl⟩ := y
 exact hs i acc τ _ hi p
theorem wH {a : Addr} {xs : List V} (hR : R = vm mp g tc te σ Q) (hz : xs.length ≤ sizeLine) (Pv : Nat → List V → St → Hp → Prop) (h0 : Pv 0 [] (fZ mp σ) H) (hl : ∀ i acc τ H, Pv i acc τ H → acc.length ≤ i)
  (hq : ∀ i acc τ H, Pv i acc τ H → SqL K H a xs)
  (hs : ∀ i x acc τ H, xs[i]? = some x → Pv i acc τ H → g x τ H fun τ1 H4 => tc τ1 H4 fun b H5 => if b = true then te τ1 H5 fun v H6 => Pv (i + 1) (acc ++ [v]) τ1 H6 else Pv (i + 1) acc τ1 H5)
  (hd : ∀ acc τ H d, Pv xs.length acc τ H → H d = none → Q (.ref d) (upd H d (.lst acc))) : R (Itl K a) H := by
 refine lU hR xs.length hz Pv h0 hl (fun i acc τ H hi p => ⟨xs, xs[i], hq i acc τ H p, List.getElem?_eq_getElem hi⟩) (fun acc τ H p => ⟨xs, hq _ acc τ H p, Nat.le_refl _⟩) (fun i acc τ H x H3 hi p y => ?_) hd
 obtain ⟨rfl, hx⟩ := y
 exact hs i x acc τ _ (hx xs (hq i acc τ _ p)) p
theorem Om {a : Addr} {xs : List V} (hR : R = vm mp g tc te σ Q) (hz : xs.length ≤ sizeLine) (Pv : Nat → List V → St → Hp → Prop) (h0 : Pv 0 [] (fZ mp σ) H) (hl : ∀ i acc τ H, Pv i acc τ H → acc.length ≤ i)
  (hq : ∀ i acc τ H, Pv i acc τ H → SqL K H a xs)
  (hs : ∀ (i : Nat) x acc τ H p, xs[i]? = some x → Pv i acc τ H → H p = none → g (.ref p) τ (upd H p (.tup [.int (i : Nat), x])) fun τ1 H4 => tc τ1 H4 fun b H5 => if b = true then te τ1 H5 fun v H6 => Pv (i + 1) (acc ++ [v]) τ1 H6 else Pv (i + 1) acc τ1 H5)
  (hd : ∀ acc τ H d, Pv xs.length acc τ H → H d = none → Q (.ref d) (upd H d (.lst acc))) : R (Ite K a) H := by
 refine lU hR xs.length hz Pv h0 hl (fun i acc τ H hi p => ⟨xs, xs[i], hq i acc τ H p, List.getElem?_eq_getElem hi⟩) (fun acc τ H p => ⟨xs, hq _ acc τ H p, List.getElem?_eq_none (Nat.le_refl _)⟩) (fun i acc τ H x H3 hi p y => ?_) hd
 obtain ⟨q, x1, rfl, hq1, rfl, hx⟩ := y
 exact hs i x1 acc τ _ q (hx xs (hq i acc τ _ p)) p hq1
end
def gO (l : List Nat) : List V := l.map fun k => V.int (k : Nat)
def places (n m : Nat) : List Nat := (List.range n).filter m.testBit
theorem qg (l : List Nat) (k : Nat) : gO (l ++ [k]) = gO l ++ [.int (k : Nat)] := by simp [gO]
theorem n8 (l : List Nat) : (gO l).length = l.length := by simp [gO]
theorem qi (l : List Nat) : (gO l).all dF = true := by
 rw [List.all_eq_true]
 intro x hx
 obtain ⟨k, _, rfl⟩ := List.mem_map.mp hx
 rfl
theorem gZ (p : Nat → Bool) (i : Nat) : (List.range (i + 1)).filter p = (List.range i).filter p ++ if p i then [i] else [] := by
 rw [List.range_succ, List.filter_append]
 congr 1
 cases h : p i <;> simp [h]
theorem iY (p : Nat → Bool) (i : Nat) : ((List.range i).filter p).length ≤ i := by
 have := List.length_filter_le p (List.range i)
 simpa using this
theorem J4 (k : Nat) (l : List Nat) : inV (.int (k : Nat)) (gO l) = l.contains k := by
 unfold inV gO
 rw [List.any_map]
 induction l with
 | nil => rfl
 | cons a r ih =>
  rw [List.any_cons, List.contains_cons, ih]
  congr 1
  show ((a : Int) == (k : Int)) = (k == a)
  rw [Bool.eq_iff_iff, beq_iff_eq, beq_iff_eq]
  omega
theorem Ol (x : V) (xs : List V) : eqL (x :: xs) [] = false := rfl
theorem zU {n m k : Nat} (h : places n m = []) (hk : k < n) : isFree m k = false := by
 unfold isFree
 rw [Bool.and_eq_false_iff]
 refine .inr ?_
 rw [List.any_eq_false]
 intro j hj
 have hj' := List.mem_range.mp hj
 unfold places at h
 rw [List.filter_eq_nil_iff] at h
 exact h j (List.mem_range.mpr (by omega))
theorem zT {n m k a : Nat} {r : List Nat} (h : places n m = a :: r) (hk : k < n) : isFree m k = (decide (a < k) && !(a :: r).contains k) := by
 have ha : a ∈ places n m := by rw [h]; exact List.mem_cons_self
 have ha2 := (List.mem_filter.mp ha).2
 have mn : ∀ j, j < n → m.testBit j = true → a ≤ j := by
  intro j hj hb
  have hm : j ∈ places n m := List.mem_filter.mpr ⟨List.mem_range.mpr hj, hb⟩
  have pw : (places n m).Pairwise (· < ·) := List.Pairwise.filter _ List.pairwise_lt_range
  rw [h] at pw hm
  rcases List.mem_cons.mp hm with rfl | hm
  ·exact Nat.le_refl _
  ·exact Nat.le_of_lt ((List.pairwise_cons.mp pw).1 j hm)
 have e1 : ((List.range k).any fun j => m.testBit j) = decide (a < k) := by
  rw [Bool.eq_iff_iff, List.any_eq_true, decide_eq_true_eq]
  constructor
  ·intro ⟨j, hj, hb⟩
   have hj' := List.mem_range.mp hj
   have := mn j (by omega) hb
   omega
  ·intro h1
   exact ⟨a, List.mem_range.mpr h1, ha2⟩
 have e2 : (a :: r).contains k = m.testBit k := by
  rw [← h, Bool.eq_iff_iff, List.contains_iff_mem]
  unfold places
  rw [List.mem_filter]
  exact ⟨fun z => z.2, fun z => ⟨List.mem_range.mpr hk, z⟩⟩
 unfold isFree
 rw [e1, e2, Bool.and_comm]
theorem Ft {n m k : Nat} (h : k ∈ frees n m) : k < n := List.mem_range.mp (List.mem_filter.mp h).1
section
variable {X : Cx} {pos : Pos}
def Bl (i j k : Nat) (ta : TA) : TS := fun D σ H => ta σ H fun vs H1 => ∃ u v w, vs = [u, v, w] ∧ D.nx (((σ.set i (some u)).set j (some v)).set k (some w)) H1
theorem Ip {i j k : Nat} {x y z : Str} {a b c : Expr} {ta : TA} {px py pz pt : Pos} {kt k2 pt2} (hc : X.calm = true) (hN : X.N.Nodup) (hi : X.N[i]? = some x) (hj : X.N[j]? = some y) (hk : X.N[k]? = some z) (hij : i ≠ j) (hik : i ≠ k) (hjk : j ≠ k)
  (hx : X.env.scope.names.lookup x = some .local) (hy : X.env.scope.names.lookup y = some .local) (hz : X.env.scope.names.lookup z = some .local) (ha : PA X [a, b, c] ta)
  (hw : swappedStores [.Tuple [.Name x px, .Name y py, .Name z pz] kt pt] (.Tuple [a, b, c] k2 pt2) X.env = pure (some [x, y, z]))
  (hs : swapsWithSole [.Tuple [.Name x px, .Name y py, .Name z pz] kt pt] (.Tuple [a, b, c] k2 pt2) pos.line X.env = pure false := by rfl) :
  PS X (.Assign [.Tuple [.Name x px, .Name y py, .Name z pz] kt pt] (.Tuple [a, b, c] k2 pt2) pos) (Bl i j k ta) := by
 intro pins s σ H D I h
 rw [exec_Assign_arm]
 refine wpAny_bind (wpAny_standAt ?_)
 rw [hs]
 refine wpAny_bind (wpAny_pure ?_)
 rw [if_neg (by decide)]
 refine wpAny_bind (Tuple_ (thA (ha _ pins s σ H _ I h) fun us s1 vs H1 I1 r1 q1 => ?_))
 obtain ⟨u, v, w, e1, q1⟩ := q1
 subst e1
 obtain ⟨u1, u2, u3, rfl, ru, rv, rw'⟩ : ∃ u1 u2 u3, us = [u1, u2, u3] ∧ RelV u u1 ∧ RelV v u2 ∧ RelV w u3 := by
  cases r1 with
  | cons p q =>
   cases q with
   | cons p' q' =>
    cases q' with
    | cons p'' q'' =>
     cases q''
     exact ⟨_, _, _, rfl, p, p', p''⟩
 refine wpAny_newObj_type ?_ (by show 3 ≤ sizeLine; decide)
 have I2 : Inv X pins σ H1 { s1 with heap := s1.heap.push { cls := .type "tuple", data := .seq [u1, u2, u3].toArray } } := I1.kept (t' := s1.toks) fun b o e => Heap.get?_push_of_some _ e
 rw [hw]
 refine wpAny_bind (wpAny_pure ?_)
 show wpAny (model X.prog X.w) X.A (do rule "assign.swapped-stores"; let items ← unpackItems (.ref s1.heap.objs.size) 3 none; assignInOrder [fun v => bindName X.env z v, fun v => bindName X.env y v, fun v => bindName X.env x v] items.reverse; pure Flow.next) _ _ _
 refine wpAny_bind (wpAny_rule (wpAny_bind (unpackItems_tuple (items := #[u1, u2, u3]) (I.ok.hd hc) (IsTup.new s1.heap _) fun h' hx' => ?_)))
 have I3 := I2.kept (h' := h') (t' := s1.toks) fun b o e => hx' b o (Nat.ne_of_lt (Heap.lt_size e)) e
 show wpAny _ _ (assignInOrder [fun v => bindName X.env z v, fun v => bindName X.env y v, fun v => bindName X.env x v] [u3, u2, u1] >>= fun _ => pure Flow.next) _ _ _
 refine wpAny_bind (assignInOrder_cons (wpAny_bindName (gq I3 hN hk (.inl hz) rw' (fun s2 I4 => ?_) (.inr hz))))
 refine assignInOrder_cons (wpAny_bindName (gq I4 hN hj (.inl hy) rv (fun s3 I5 => ?_) (.inr hy)))
 refine assignInOrder_cons (wpAny_bindName (gq I5 hN hi (.inl hx) ru (fun s4 I6 => ?_) (.inr hx)))
 refine assignInOrder_nil (wpAny_pure ⟨_, H1, ?_, q1⟩)
 have e : ((σ.set k (some w)).set j (some v)).set i (some u) = ((σ.set i (some u)).set j (some v)).set k (some w) := by
  rw [List.set_comm (some v) (some u) (Ne.symm hij), List.set_comm (some w) (some u) (Ne.symm hik), List.set_comm (some w) (some v) (Ne.symm hjk)]
 rw [← e]
 exact I6
theorem xP {i j k : Nat} {x y z : Str} {a b c : Expr} {ta : TA} {px py pz pt : Pos} {kt k2 pt2} (hc : X.calm = true) (hN : X.N.Nodup) (hi : X.N[i]? = some x) (hj : X.N[j]? = some y) (hk : X.N[k]? = some z) (hij : i ≠ j) (hik : i ≠ k) (hjk : j ≠ k)
  (hx : X.env.scope.names.lookup x = some .local) (hy : X.env.scope.names.lookup y = some .local) (hz : X.env.scope.names.lookup z = some .local) (ha : QA X [a, b, c] ta)
  (hw : swappedStores [.Tuple [.Name x px, .Name y py, .Name z pz] kt pt] (.Tuple [a, b, c] k2 pt2) X.env = pure (some [x, y, z]))
  (hs : swapsWithSole [.Tuple [.Name x px, .Name y py, .Name z pz] kt pt] (.Tuple [a, b, c] k2 pt2) pos.line X.env = pure false := by rfl) :
  QS X (.Assign [.Tuple [.Name x px, .Name y py, .Name z pz] kt pt] (.Tuple [a, b, c] k2 pt2) pos) (Bl i j k ta) := ⟨Ip hc hN hi hj hk hij hik hjk hx hy hz ha.h hw hs⟩
end
theorem Ka (g : TG) (gs : TGs) (x : V) (xs : List V) (σ : St) (H : Hp) (Q : St → Hp → Prop) : Fq g gs (x :: xs) σ H Q = g x σ H fun σ1 H1 => gs xs σ1 H1 Q :=
 propext ⟨fun ⟨_, _, e, h⟩ => by cases e; exact h, fun h => ⟨x, xs, rfl, h⟩⟩
theorem Oh (σ : St) (H : Hp) (Q : St → Hp → Prop) : Oi [] σ H Q = Q σ H := propext ⟨fun h => h.2, fun h => ⟨rfl, h⟩⟩
theorem Fy {a b : Int} {P : Int → Int → Prop} : (∃ v w, (a = v ∧ b = w) ∧ P v w) = P a b := propext ⟨fun ⟨_, _, ⟨h1, h2⟩, h⟩ => h1 ▸ h2 ▸ h, fun h => ⟨a, b, ⟨rfl, rfl⟩, h⟩⟩
theorem Kd {a b c : V} {P : V → V → V → Prop} : (∃ u v w, (a = u ∧ b = v ∧ c = w) ∧ P u v w) = P a b c := propext ⟨fun ⟨_, _, _, ⟨h1, h2, h3⟩, h⟩ => h1 ▸ h2 ▸ h3 ▸ h, fun h => ⟨a, b, c, ⟨rfl, rfl, rfl⟩, h⟩⟩
theorem vG : ((("from" : Str) : Str) = ("is" : Str)) = False := eq_false (by decide +kernel)
theorem vH : (("bits" : Str) = ("is" : Str)) = False := eq_false (by decide +kernel)
theorem qU : (("bits" : Str) = ("from" : Str)) = False := eq_false (by decide +kernel)
theorem vC : (("is" : Str) = ("from" : Str)) = False := eq_false (by decide +kernel)
theorem vD : (("is" : Str) = ("bits" : Str)) = False := eq_false (by decide +kernel)
theorem qT : (("from" : Str) = ("bits" : Str)) = False := eq_false (by decide +kernel)
theorem nF {p : Addr} {H H' : Hp} (h : bN p H H') (e : H p = none) : Same H H' := fun b o hb => h b o (aB hb e) hb
section
variable {X : Cx} {e o : Expr} {te to : TE} {pos : Pos}
def apq (ob : Option HO) (l : Addr) (y : V) (H : Hp) (Q : VK) : Prop := match ob with
 | some (.lst xs) => xs.length < sizeLine ∧ Q .non (upd H l (.lst (xs ++ [y])))
 | _ => False
def isq (ob : Option HO) : Prop := match ob with
 | some (.lst _) => True
 | _ => False
theorem J0 (xs : List V) : isq (some (.lst xs)) = True := rfl
theorem jN (xs : List V) (l : Addr) (y : V) (H : Hp) (Q : VK) : apq (some (.lst xs)) l y H Q = (xs.length < sizeLine ∧ Q .non (upd H l (.lst (xs ++ [y])))) := rfl
def Oz (x : V) (te : TE) (σ : St) (H1 : Hp) (Q : VK) : Prop := match x with
 | .ref l => isq (H1 l) ∧ te σ H1 fun y H2 => apq (H2 l) l y H2 Q
 | _ => False
def Bs (to te : TE) : TE := fun σ H Q => to σ H fun x H1 => Oz x te σ H1 Q
theorem Br (to te : TE) (σ : St) (H : Hp) (Q : VK) : Bs to te σ H Q = to σ H fun x H1 => Oz x te σ H1 Q := rfl
theorem Gk (l : Addr) (te : TE) (σ : St) (H1 : Hp) (Q : VK) : Oz (.ref l) te σ H1 Q = (isq (H1 l) ∧ te σ H1 fun y H2 => apq (H2 l) l y H2 Q) := rfl
theorem Ji {apos cpos : Pos} (ho : PE X o to) (he : PE X e te)
  (hbase : attributeBase o "append" X.env (eval o X.env) = eval o X.env := by rfl)
  (hfew : ((backTo cpos (starEach [e] X.env)).all (fun x => !x.1) && (backToKw cpos (keywordEach [] X.env)).all (fun x => x.1.isSome)
   && decide ([e].length + ([] : List Keyword).length + (if ([] : List Keyword).isEmpty then 0 else 1) < 30)) = true := by rfl)
  (hline : (apos.endLine == cpos.line) = true := by rfl) (hs : starEach [e] X.env = (false, eval e X.env) :: starEach [] X.env := by rfl) (hplain : (backTo cpos (starEach [] X.env)).any (·.1) = false := by rfl) :
  PE X (.Call (.Attribute o "append" apos) [e] [] cpos) (Bs to te) := by
 intro pins s σ H Q I h
 refine wpAny_Call_method_late hbase hfew hline rfl (thE (ho pins s σ H _ I h) fun v s1 x H1 I1 r1 q => ?_)
 cases x with
 | ref l =>
  obtain ⟨q1, q2⟩ := q
  cases el : H1 l with
  | none => rw [el] at q1; exact q1.elim
  | some ob =>
   cases ob with
   | lst xs =>
    obtain ⟨h1, h2⟩ := Lh (T := "list") I1 r1 (.inl ⟨rfl, xs, SqL.of el⟩)
    refine ⟨"list", "list.append", PySem.F.plainAttrs_list, PySem.F.slot_list_append, PySem.F.type_list_append, h1, h2, ?_⟩
    rw [hs]
    refine Calls.callWith_builtin (by show (false || (backTo cpos (starEach [] X.env)).any (·.1)) = false; rw [hplain] <;> rfl) (Calls.evalArgs_plain ?_)
    refine Calls.spliced_cons (thE (he pins s1 σ H1 _ I1 q2) fun u s2 y H2 I2 r2 q3 => Calls.spliced_nil ?_)
    replace q3 : apq (H2 l) l y H2 Q := q3
    cases el2 : H2 l with
    | none => rw [el2] at q3; exact q3.elim
    | some ob2 =>
     cases ob2 with
     | lst ys =>
      rw [el2] at q3
      exact zL pins s2 σ H2 (.ref l) [y] v [u] Q I2 r1 (.cons r2 .nil) ⟨l, ys, y, rfl, rfl, el2, q3.1, q3.2⟩
     | _ => rw [el2] at q3; exact q3.elim
   | _ => rw [el] at q1; exact q1.elim
 | _ => exact q.elim
theorem lq {apos cpos : Pos} (ho : QE X o to) (he : QE X e te)
  (hbase : attributeBase o "append" X.env (eval o X.env) = eval o X.env := by rfl)
  (hfew : ((backTo cpos (starEach [e] X.env)).all (fun x => !x.1) && (backToKw cpos (keywordEach [] X.env)).all (fun x => x.1.isSome)
   && decide ([e].length + ([] : List Keyword).length + (if ([] : List Keyword).isEmpty then 0 else 1) < 30)) = true := by rfl)
  (hline : (apos.endLine == cpos.line) = true := by rfl) (hs : starEach [e] X.env = (false, eval e X.env) :: starEach [] X.env := by rfl) (hplain : (backTo cpos (starEach [] X.env)).any (·.1) = false := by rfl) :
  QE X (.Call (.Attribute o "append" apos) [e] [] cpos) (Bs to te) := ⟨Ji ho.h he.h hbase hfew hline hs hplain⟩
def slq (ob : Option HO) (lo hi : Option Int) (H : Hp) (Q : VK) : Prop := match ob with
 | some (.lst xs) => ∀ p, H p = none → Q (.ref p) (upd H p (.lst (Km xs lo hi)))
 | some (.tup xs) => ¬ (HT.sIx xs.length 0 lo = 0 ∧ HT.sIx xs.length xs.length hi = xs.length) ∧ ∀ p, H p = none → Q (.ref p) (upd H p (.tup (Km xs lo hi)))
 | _ => False
def Qt : V → Option Int → Option Int → Hp → VK → Prop := fun x lo hi H Q => match x with
 | .ref p => slq (H p) lo hi H Q
 | _ => False
theorem Cr (p : Addr) (lo hi : Option Int) (H : Hp) (Q : VK) : Qt (.ref p) lo hi H Q = slq (H p) lo hi H Q := rfl
theorem G5 (xs : List V) (lo hi : Option Int) (H : Hp) (Q : VK) : slq (some (.lst xs)) lo hi H Q = ∀ p, H p = none → Q (.ref p) (upd H p (.lst (Km xs lo hi))) := rfl
theorem G4 (xs : List V) (lo hi : Option Int) (H : Hp) (Q : VK) : slq (some (.tup xs)) lo hi H Q = (¬ (HT.sIx xs.length 0 lo = 0 ∧ HT.sIx xs.length xs.length hi = xs.length) ∧ ∀ p, H p = none → Q (.ref p) (upd H p (.tup (Km xs lo hi)))) := rfl
def rpq (ob : Option HO) (k : Int) (H : Hp) (Q : VK) : Prop := match ob with
 | some (.lst xs) => -(2 ^ 63) ≤ k ∧ k < 2 ^ 63 ∧ xs.length * k.toNat ≤ sizeLine ∧ ∀ p, H p = none → Q (.ref p) (upd H p (.lst (List.replicate k.toNat xs).flatten))
 | _ => False
def xM : R2 := fun x y H Q => match x, y with
 | .ref p, .int k => rpq (H p) k H Q
 | x, y => rI Aw (fun i j => .int (i * j)) x y H Q
theorem Hr (p : Addr) (k : Int) (H : Hp) (Q : VK) : xM (.ref p) (.int k) H Q = rpq (H p) k H Q := rfl
theorem Hs (i j : Int) (H : Hp) (Q : VK) : xM (.int i) (.int j) H Q = rI Aw (fun i j => .int (i * j)) (.int i) (.int j) H Q := rfl
theorem Ho (xs : List V) (k : Int) (H : Hp) (Q : VK) : rpq (some (.lst xs)) k H Q = (-(2 ^ 63) ≤ k ∧ k < 2 ^ 63 ∧ xs.length * k.toNat ≤ sizeLine ∧ ∀ p, H p = none → Q (.ref p) (upd H p (.lst (List.replicate k.toNat xs).flatten))) := rfl
theorem eF : OpR X (binaryOp .Mult) xM := by
 intro pins s σ H x y v u Q I rx ry h
 unfold xM at h
 split at h
 ·rename_i p k
  unfold rpq at h
  split at h
  ·rename_i xs e
   exact M8 pins s σ H _ _ v u Q I rx ry ⟨p, k, xs, rfl, rfl, e, h.1, h.2.1, h.2.2.1, h.2.2.2⟩
  ·exact h.elim
 ·exact M9 pins s σ H _ _ v u Q I rx ry h
def eqo (ob : Option HO) (H : Hp) (Q : VK) : Prop := match ob with
 | some (.lst _) => Q (.bl false) H
 | some (.tup _) => Q (.bl false) H
 | _ => False
def pG : R2 := fun x y H Q => match x, y with
 | .ref p, .str _ => eqo (H p) H Q
 | x, y => rEq x y H Q
theorem Hx (p : Addr) (z : Str) (H : Hp) (Q : VK) : pG (.ref p) (.str z) H Q = eqo (H p) H Q := rfl
theorem HD (i j : Int) (H : Hp) (Q : VK) : pG (.int i) (.int j) H Q = rEq (.int i) (.int j) H Q := rfl
theorem HJ (i j : Bool) (H : Hp) (Q : VK) : pG (.bl i) (.bl j) H Q = rEq (.bl i) (.bl j) H Q := rfl
theorem Hw (i j : Str) (H : Hp) (Q : VK) : pG (.str i) (.str j) H Q = rEq (.str i) (.str j) H Q := rfl
theorem HB (i : Int) (j : Str) (H : Hp) (Q : VK) : pG (.int i) (.str j) H Q = rEq (.int i) (.str j) H Q := rfl
theorem HF (i : Bool) (j : Str) (H : Hp) (Q : VK) : pG (.bl i) (.str j) H Q = rEq (.bl i) (.str j) H Q := rfl
theorem Hy (j : Str) (H : Hp) (Q : VK) : pG .non (.str j) H Q = rEq .non (.str j) H Q := rfl
theorem Hz (H : Hp) (Q : VK) : pG .non .non H Q = rEq .non .non H Q := rfl
theorem Kg (xs : List V) (H : Hp) (Q : VK) : eqo (some (.lst xs)) H Q = Q (.bl false) H := rfl
theorem Kf (xs : List V) (H : Hp) (Q : VK) : eqo (some (.tup xs)) H Q = Q (.bl false) H := rfl
theorem G7 (j : Str) : mZ .non (.str j) = true := rfl
theorem Hg (i : Bool) (j : Str) : mZ (.bl i) (.str j) = true := rfl
theorem bM (hu : X.A.units < cLine) : OpR X (compareOp .Eq) pG := by
 intro pins s σ H x y v u Q I rx ry h
 unfold pG at h
 split at h
 ·rename_i p z
  cases rx
  obtain ⟨t, rfl⟩ := ry
  unfold eqo at h
  split at h
  ·rename_i xs e
   obtain ⟨its, r, pl, hz⟩ := I.list (SqL.of e)
   exact SeqAt.RcAt.list_str z t pl.isList hu X.prog X.w X.xe (EP X pins σ Q) ⟨.bl false, H, I, rfl, h⟩
  ·rename_i xs e
   obtain ⟨its, r, pl, hz⟩ := I.tuple (SqT.of e)
   exact SeqAt.RcAt.tuple_str z t pl hu X.prog X.w X.xe (EP X pins σ Q) ⟨.bl false, H, I, rfl, h⟩
  ·exact h.elim
 ·exact PN pins s σ H _ _ v u Q I rx ry h
end
section
variable {X : Cx} {a b c d : Expr} {ta tb tc td : TE} {pos : Pos}
def GR (r r' r'' : R2) (ta tb tc td : TE) : TE := fun σ H Q => ta σ H fun x H1 => tb σ H1 fun y H2 => r x y H2 fun z H3 => ∃ k, z = .bl k ∧
 (if k = true then tc σ H3 fun w H4 => r' y w H4 fun z' H5 => ∃ k', z' = .bl k' ∧ (if k' = true then td σ H5 fun w' H6 => r'' w w' H6 Q else Q (.bl false) H5) else Q (.bl false) H3)
end
mutual
inductive aR (ok : Addr → Prop) (H : Hp) : V → PyData → Prop
 | non : aR ok H .non .none
 | bl (b : Bool) : aR ok H (.bl b) (.bool b)
 | int (i : Int) : aR ok H (.int i) (.int i)
 | str (x : Str) : aR ok H (.str x) (.str x)
 | lst {p : Addr} {xs : List V} {ds : List PyData} : ok p → H p = some (.lst xs) → xs.length ≤ 9000 → aL ok H xs ds → aR ok H (.ref p) (.list ds)
 | tup {p : Addr} {xs : List V} {ds : List PyData} : ok p → H p = some (.tup xs) → xs.length ≤ 9000 → aL ok H xs ds → aR ok H (.ref p) (.tuple ds)
inductive aL (ok : Addr → Prop) (H : Hp) : List V → List PyData → Prop
 | nil : aL ok H [] []
 | cons {x : V} {d : PyData} {xs : List V} {ds : List PyData} : aR ok H x d → aL ok H xs ds → aL ok H (x :: xs) (d :: ds)
end
mutual
theorem aR.keep {ok ok' : Addr → Prop} {H H' : Hp} (k : ∀ a o, ok a → H a = some o → ok' a ∧ H' a = some o) : ∀ {v : V} {d : PyData}, aR ok H v d → aR ok' H' v d
 | _, _, .non => .non
 | _, _, .bl b => .bl b
 | _, _, .int i => .int i
 | _, _, .str x => .str x
 | _, _, .lst o e z t => .lst (k _ _ o e).1 (k _ _ o e).2 z (aL.keep k t)
 | _, _, .tup o e z t => .tup (k _ _ o e).1 (k _ _ o e).2 z (aL.keep k t)
theorem aL.keep {ok ok' : Addr → Prop} {H H' : Hp} (k : ∀ a o, ok a → H a = some o → ok' a ∧ H' a = some o) : ∀ {vs : List V} {ds : List PyData}, aL ok H vs ds → aL ok' H' vs ds
 | _, _, .nil => .nil
 | _, _, .cons t r => .cons (aR.keep k t) (aL.keep k r)
end
theorem aR.same {ok : Addr → Prop} {H H' : Hp} {v : V} {d : PyData} (t : aR ok H v d) (s : Same H H') : aR ok H' v d := t.keep fun a o h e => ⟨h, s a o e⟩
theorem aL.same {ok : Addr → Prop} {H H' : Hp} {v : List V} {d : List PyData} (t : aL ok H v d) (s : Same H H') : aL ok H' v d := t.keep fun a o h e => ⟨h, s a o e⟩
theorem aL.ud {p : Addr} {H H' : Hp} {v : List V} {d : List PyData} (t : aL (· ≠ p) H v d) (s : bN p H H') : aL (· ≠ p) H' v d := t.keep fun a o h e => ⟨h, s a o h e⟩
theorem aL.length {ok : Addr → Prop} {H : Hp} : ∀ {vs : List V} {ds : List PyData}, aL ok H vs ds → vs.length = ds.length
 | _, _, .nil => rfl
 | _, _, .cons _ r => by rw [List.length_cons, List.length_cons, r.length]
theorem aL.append {ok : Addr → Prop} {H : Hp} : ∀ {vs ws : List V} {ds es : List PyData}, aL ok H vs ds → aL ok H ws es → aL ok H (vs ++ ws) (ds ++ es)
 | _, _, _, _, .nil, t => t
 | _, _, _, _, .cons h r, t => .cons h (r.append t)
theorem aL.get {ok : Addr → Prop} {H : Hp} : ∀ {vs : List V} {ds : List PyData} {i : Nat} {v : V}, aL ok H vs ds → vs[i]? = some v → ∃ d, ds[i]? = some d ∧ aR ok H v d
 | _, _, 0, _, .cons h _, e => by cases e; exact ⟨_, rfl, h⟩
 | _, _, i + 1, _, .cons _ r, e => aL.get r (i := i) e
section
variable {X : Cx} {pins : List (Addr × Obj)} {σ : St} {H : Hp} {s : Shared} {ok : Addr → Prop}
mutual
theorem aR.reads (I : Inv X pins σ H s) : ∀ {v : V} {d : PyData} {u : Value}, aR ok H v d → RelV v u → ∃ as, Reads s.heap u d as
 | _, _, _, .non, r => by cases r; exact ⟨_, .none⟩
 | _, _, _, .bl b, r => by cases r; exact ⟨_, .bool b⟩
 | _, _, _, .int i, r => by obtain ⟨t, rfl⟩ := r; exact ⟨_, .int i t⟩
 | _, _, _, .str x, r => by obtain ⟨t, rfl⟩ := r; exact ⟨_, .str x t⟩
 | _, _, _, .lst o e z t, r => by
  cases r
  obtain ⟨its, rv, pl, hz⟩ := I.list (SqL.of e)
  obtain ⟨ob, h1, h2, n, h3⟩ := pl.isList
  obtain ⟨as, h4⟩ := aL.reads I t rv
  exact ⟨_, .list h1 h2 h3 (by simpa using h4)⟩
 | _, _, _, .tup o e z t, r => by
  cases r
  obtain ⟨its, rv, pl, hz⟩ := I.tuple (SqT.of e)
  obtain ⟨ob, h1, h2, n, h3⟩ := pl
  obtain ⟨as, h4⟩ := aL.reads I t rv
  exact ⟨_, .tuple h1 h2 h3 (by simpa using h4)⟩
theorem aL.reads (I : Inv X pins σ H s) : ∀ {vs : List V} {ds : List PyData} {us : List Value}, aL ok H vs ds → Vals vs us → ∃ as, ReadsAll s.heap us ds as
 | _, _, _, .nil, r => by cases r; exact ⟨_, .nil⟩
 | _, _, _, .cons h t, r => by
  cases r with
  | cons r1 r2 =>
   obtain ⟨as, h1⟩ := aR.reads I h r1
   obtain ⟨bs, h2⟩ := aL.reads I t r2
   exact ⟨_, .cons h1 h2⟩
end
end
mutual
def nodes : PyData → Nat
 | .list ds => 1 + dz ds
 | .tuple ds => 1 + dz ds
 | _ => 1
def dz : List PyData → Nat
 | [] => 0
 | d :: ds => nodes d + dz ds
end
mutual
def smD : PyData → Bool
 | .none => true
 | .bool _ => true
 | .int i => decide (i.natAbs < 2 ^ 50 ∨ i.natAbs = 10 ^ 20 ∨ i.natAbs < 2 ^ 55)
 | .str x => decide ((reprText x).length ≤ 50)
 | .list ds => kI ds
 | .tuple ds => kI ds
 | .dict _ => false
def kI : List PyData → Bool
 | [] => true
 | d :: ds => smD d && kI ds
end
theorem J1 {i : Int} (h : i.natAbs < 2 ^ 70) : (Str.ofString (toString i)).length ≤ 71 := by
 rw [PySem.ofString_length]
 have := int_text_length_le10 (a := i) (k := 30) (by decide) (by omega)
 omega
mutual
theorem pY : ∀ (d : PyData), smD d = true → d.shown.length + 2 ≤ 80 * nodes d
 | .none, _ => by decide
 | .bool b, _ => by cases b <;> decide
 | .int i, h => by
  have h1 : i.natAbs < 2 ^ 70 := by
   have : i.natAbs < 2 ^ 50 ∨ i.natAbs = 10 ^ 20 ∨ i.natAbs < 2 ^ 55 := of_decide_eq_true (by simpa [smD] using h)
   omega
  have := J1 h1
  show (Str.ofString (toString i)).length + 2 ≤ 80 * 1
  omega
 | .str x, h => by
  have h1 : (reprText x).length ≤ 50 := by simpa [smD] using h
  show (reprText x).length + 2 ≤ 80 * 1
  omega
 | .list ds, h => by
  have h1 := jd ds (by simpa [smD] using h)
  have h2 := listText_len_le (PyData.shownAll ds)
  rw [PyData.shown.eq_5, nodes]
  omega
 | .tuple ds, h => by
  have h1 := jd ds (by simpa [smD] using h)
  have h2 := tupleText_len_le (PyData.shownAll ds)
  rw [PyData.shown.eq_6, nodes]
  omega
 | .dict kvs, h => by simp [smD] at h
theorem jd : ∀ (ds : List PyData), kI ds = true → ((PyData.shownAll ds).map fun x => x.length).sum + 2 * (PyData.shownAll ds).length ≤ 80 * dz ds
 | [], _ => by simp [PyData.shownAll, dz]
 | d :: ds, h => by
  rw [kI, Bool.and_eq_true] at h
  have h1 := pY d h.1
  have h2 := jd ds h.2
  rw [PyData.shownAll.eq_2, dz, List.map_cons, List.sum_cons, List.length_cons]
  omega
end
mutual
theorem qY : ∀ (d : PyData), smD d = true → d.showable = true ∧ d.hasDict = false
 | .none, _ => ⟨rfl, rfl⟩
 | .bool b, _ => ⟨rfl, rfl⟩
 | .int i, h => by
  refine ⟨?_, rfl⟩
  have h1 : i.natAbs < 2 ^ 70 := by
   have : i.natAbs < 2 ^ 50 ∨ i.natAbs = 10 ^ 20 ∨ i.natAbs < 2 ^ 55 := of_decide_eq_true (by simpa [smD] using h)
   omega
  show decide (i.natAbs.log2 < 1920) = true
  refine decide_eq_true ?_
  by_cases z : i.natAbs = 0
  ·rw [z]; decide
  ·have := (Nat.log2_lt z).mpr h1
   omega
 | .str x, _ => ⟨rfl, rfl⟩
 | .list ds, h => by
  obtain ⟨h1, h2⟩ := jV ds (by simpa [smD] using h)
  exact ⟨h1, h2⟩
 | .tuple ds, h => by
  obtain ⟨h1, h2⟩ := jV ds (by simpa [smD] using h)
  exact ⟨h1, h2⟩
 | .dict kvs, h => by simp [smD] at h
theorem jV : ∀ (ds : List PyData), kI ds = true → PyData.showableAll ds = true ∧ PyData.hasDictAll ds = false
 | [], _ => ⟨rfl, rfl⟩
 | d :: ds, h => by
  rw [kI, Bool.and_eq_true] at h
  obtain ⟨h1, h2⟩ := qY d h.1
  obtain ⟨h3, h4⟩ := jV ds h.2
  refine ⟨?_, ?_⟩
  ·rw [PyData.showableAll.eq_2, h1, h3]; rfl
  ·rw [PyData.hasDictAll.eq_2, h2, h4]; rfl
end
structure Gn (d : PyData) : Prop where
 sm : smD d = true
 nd : nodes d ≤ 200000
 dp : d.depth ≤ 100
theorem Gn.len {d : PyData} (t : Gn d) : d.shown.length ≤ sizeLine := by
 have h1 := pY d t.sm
 have h2 := t.nd
 have h3 : 16000000 ≤ sizeLine := by decide
 omega
section
variable {X : Cx} {tg l : Expr} {tl : TE}
def itq (K : PySem.W.Frag) (ob : Option HO) (a : Addr) (H : Hp) (R : It → Hp → Prop) : Prop := match ob with
 | some (.lst _) => R (Itl K a) H
 | some (.tup _) => R (Itt K a) H
 | _ => False
def itK (K : PySem.W.Frag) (x : V) (H : Hp) (R : It → Hp → Prop) : Prop := match x with
 | .ref a => itq K (H a) a H R
 | _ => False
def yq (K : PySem.W.Frag) (tl : TE) : TI := fun σ H R => tl σ H fun x H1 => itK K x H1 R
theorem Fe (K : PySem.W.Frag) (tl : TE) (σ : St) (H : Hp) (R : It → Hp → Prop) : yq K tl σ H R = tl σ H fun x H1 => itK K x H1 R := rfl
theorem JX (K : PySem.W.Frag) (a : Addr) (H : Hp) (R : It → Hp → Prop) : itK K (.ref a) H R = itq K (H a) a H R := rfl
theorem JT (K : PySem.W.Frag) (xs : List V) (a : Addr) (H : Hp) (R : It → Hp → Prop) : itq K (some (.lst xs)) a H R = R (Itl K a) H := rfl
theorem JS (K : PySem.W.Frag) (xs : List V) (a : Addr) (H : Hp) (R : It → Hp → Prop) : itq K (some (.tup xs)) a H R = R (Itt K a) H := rfl
theorem IW (hl : PE X l tl) : PI X tg l (yq X.K tl) := by
 intro pins s σ H R I h
 refine thn (hl pins s σ H _ I h) fun v s1 ⟨x, H1, I1, r1, q1⟩ => ?_
 cases x with
 | ref a =>
  replace q1 : itq X.K (H1 a) a H1 R := q1
  cases r1
  unfold itq at q1
  split at q1
  ·rename_i xs e
   obtain ⟨its, rv, p, hz⟩ := I1.list (SqL.of e)
   refine wpAny_pyIter_list p.isList ?_
   refine ⟨s1.heap.objs.size, [s1.heap.objs.size], _, _, H1, rfl, I1.kept (t' := s1.toks) fun b o e => Heap.get?_push_of_some _ e, yO a _, ⟨_, Heap.get?_push_size _ rfl, rfl, rfl⟩, fun b hb => ?_, q1⟩
   have e : b = s1.heap.objs.size := by simpa using hb
   subst e
   exact I1.zV (Nat.le_refl _) (I1.hok.fresh (Nat.le_refl _))
  ·rename_i xs e
   obtain ⟨its, rv, p, hz⟩ := I1.tuple (SqT.of e)
   refine wpAny_pyIter_tuple (show s1.heap.IsTuple a its.toArray from p) ?_
   refine ⟨s1.heap.objs.size, [s1.heap.objs.size], _, _, H1, rfl, I1.kept (t' := s1.toks) fun b o e => Heap.get?_push_of_some _ e, vq a _, ⟨_, Heap.get?_push_size _ rfl, rfl, rfl⟩, fun b hb => ?_, q1⟩
   have e : b = s1.heap.objs.size := by simpa using hb
   subst e
   exact I1.zV (Nat.le_refl _) (I1.hok.fresh (Nat.le_refl _))
  ·exact q1.elim
 | _ => exact q1.elim
theorem fH (hl : QE X l tl) : QI X tg l (yq X.K tl) := ⟨IW hl.h⟩
end
section
variable {mp : List (Option Nat)} {g : TG} {tc : TT} {te : TE} {σ : St} {H : Hp} {Q : VK} {R : It → Hp → Prop} {K : PySem.W.Frag}
def BoolsTo (H0 : Hp) (f : V → Bool) (xs : List V) (i : Nat) (acc : List V) (H' : Hp) : Prop := Same H0 H' ∧ acc = ((xs.take i).map f).map V.bl
end
def lX (ok : Addr → Prop) (H0 : Hp) : Prop := ∀ H p, Same H0 H → H p = none → ok p
theorem Dz {H0 : Hp} {p : Addr} {o : HO} (h : H0 p = some o) : lX (· ≠ p) H0 := fun H q s hq => (aB (s _ _ h) hq).symm
theorem zB {H0 : Hp} : lX (fun _ => True) H0 := fun _ _ _ _ => trivial
theorem lX.same {ok : Addr → Prop} {H0 H1 : Hp} (n : lX ok H0) (s : Same H0 H1) : lX ok H1 := fun H p s2 h => n H p (s.trans s2) h
section
variable {ok : Addr → Prop} {σ : St} {H0 : Hp} {ta tb : TE} {tr : TA} {d e : PyData} {ds es : List PyData}
end
def rd0 := And.intro @Bj.eq_1 (And.intro @Lp.eq_1 (And.intro @pQ.eq_1 (And.intro @tOp.eq_1 (And.intro @rI.eq_1 (And.intro @rI0.eq_1 (And.intro @rU.eq_1 (And.intro @tUn.eq_1 (And.intro @jc.eq_1 (And.intro @tC.eq_1 (And.intro @yV.eq_1 (And.intro @O3.eq_1 (And.intro @Bo.eq_1 (And.intro @kh.eq_1 (And.intro @gR.eq_1 (And.intro @qR.eq_1 (And.intro @tCB.eq_1 (And.intro @tIf.eq_1 (And.intro @Lj.eq_1 (And.intro @tB.eq_1 (And.intro @Lr.eq_1 (And.intro @tOr.eq_1 (And.intro @Bt.eq_1 (And.intro @Qp.eq_1 (And.intro @Bm.eq_1 (And.intro @Lk.eq_1 (And.intro @GJ.eq_1 (And.intro @oZ.eq_1 (And.intro @iV.eq_1 (And.intro @J9.eq_1 (And.intro @zR (And.intro @J6 (And.intro @uh (And.intro @Cw (And.intro @Cz (And.intro @HX (And.intro @GF.eq_1 (And.intro @Ka (And.intro @Oh (@K3.eq_1)))))))))))))))))))))))))))))))))))))))
def rd1 := And.intro @CK (And.intro @zf (And.intro @zj (And.intro @Hu (And.intro @Hv (And.intro @JR (And.intro @JQ (And.intro @wY (And.intro @JL (And.intro @JK (And.intro Ey.1 (And.intro Ey.2.1 (And.intro Ey.2.2 (And.intro @K7 (And.intro @Ql (And.intro @Qk (And.intro @aD (And.intro @CQ (And.intro @CN (And.intro @Og (And.intro @JN (And.intro @Eu (And.intro @N8 (And.intro @N7 (And.intro @kc_bool (And.intro @ty_int (And.intro @O2 (And.intro @ty_str (And.intro @Lg (And.intro @Le (And.intro @Gx (And.intro @Gw (And.intro @mq (And.intro @m8 (And.intro @m7 (And.intro @mj (And.intro @kW (And.intro @rF (And.intro @uc (@t8)))))))))))))))))))))))))))))))))))))))
def rd2 := And.intro @rE (And.intro @pF (And.intro @tZ (And.intro @vN (And.intro @vM (And.intro @tY (And.intro @rD (And.intro @tV (And.intro @vL (And.intro @vK (And.intro @tU (And.intro @rA (And.intro @rC (And.intro @tX (And.intro @tW (And.intro @rB (And.intro @pD (And.intro @pC (And.intro @rz (And.intro @rm (And.intro @pA (And.intro @nW (And.intro @Bool.or_false (And.intro @Bool.false_or (And.intro @Bool.or_self (And.intro @Bool.true_or (And.intro @Bool.or_true (And.intro @Bool.not_true (And.intro @Bool.not_false (And.intro @Bool.false_eq_true (And.intro @if_true.{0} (And.intro @if_true.{1} (And.intro @if_false.{0} (And.intro @if_false.{1} (And.intro @decide_true (And.intro @decide_false (And.intro @Bq.eq_1 (And.intro @rEq.eq_1 (And.intro @rNe.eq_1 (@HW)))))))))))))))))))))))))))))))))))))))
def rd3 := And.intro @HS (And.intro @wQ (And.intro @LC (And.intro @LK (And.intro @LQ (And.intro @Lz (And.intro @Jw (And.intro @LR (And.intro @Qf (And.intro @Qe (And.intro @zc (And.intro @G3 (And.intro @Bp.eq_1 (And.intro @Gh (And.intro @Gg (And.intro @Li.eq_1 (And.intro @nQ.eq_1 (And.intro @Ci (And.intro @Hi (And.intro @Ce (And.intro @Cg (And.intro @Hf (And.intro @G8 (And.intro @G9 (And.intro @G6 (And.intro @Aw.eq_1 (And.intro @KQ.eq_1 (And.intro @K9.eq_1 (And.intro @L2.start.eq_1 (And.intro @List.map_cons.{0,0} (And.intro @List.map_nil.{0,0} (And.intro @List.length_cons.{0} (And.intro @List.length_nil.{0} (And.intro @List.cons_append.{0} (And.intro @List.nil_append.{0} (And.intro @List.replicate_succ.{0} (And.intro @List.replicate_zero.{0} (And.intro @List.append_nil.{0} (And.intro @List.getElem?_cons_zero.{0} (@List.getElem?_cons_succ.{0})))))))))))))))))))))))))))))))))))))))
def rd4 := And.intro @List.set_cons_zero.{0} (And.intro @List.set_cons_succ.{0} (And.intro @Nat.sub_self (And.intro @Option.some.injEq.{0} (And.intro @exists_eq_left'.{1} (And.intro @exists_eq_left.{1} (And.intro @Ke (And.intro @Fy (And.intro @Kd (And.intro @Bl.eq_1 (And.intro @V.int.injEq (And.intro @V.str.injEq (And.intro @vG (And.intro @vH (And.intro @qU (And.intro @vC (And.intro @vD (And.intro @qT (And.intro @JW (And.intro @JV (And.intro @EY (And.intro @V.bl.injEq (And.intro @V.ref.injEq (And.intro @List.cons.injEq.{0} (And.intro @and_true (And.intro @true_and (And.intro @exists_and_left.{1} (And.intro @exists_and_right.{1} (And.intro @decide_eq_true_eq (And.intro @Br (And.intro @Gk (And.intro @J0 (And.intro @jN (And.intro @Cr (And.intro @G5 (And.intro @G4 (And.intro @tSl.eq_1 (And.intro @GP.eq_1 (And.intro @O5.eq_1 (@Hr)))))))))))))))))))))))))))))))))))))))
def rd5 := And.intro @Hs (And.intro @Ho (And.intro @Hx (And.intro @HD (And.intro @HJ (And.intro @Hw (And.intro @HB (And.intro @HF (And.intro @Hy (And.intro @Hz (And.intro @Kg (And.intro @Kf (And.intro @G7 (And.intro @Hg (And.intro @GR.eq_1 (And.intro @Fe (And.intro @JX (And.intro @JT (@JS))))))))))))))))))
section
variable {X : Cx} {NX N : List Str} {kX : List (Str × NameKind)} {mp : List (Option Nat)} {scope : Scope}
set_option maxHeartbeats 8000000 in
theorem Io {tg iter elt : Expr} {ifs : List Expr} {pos pos' pos2 : Pos} {wi : TI} {g : TG} {tc : TT} {te : TE} {i : Nat} {x : Str} (N : List Str) (mp : List (Option Nat)) (hn : Nm X.N X.env.scope i x) (hNd : X.N.Nodup) (hNX : X.N = NX) (hkX : X.env.scope.names = kX) (S : mY NX kX N mp scope) (hc : X.calm = true)
  (hi : PI X tg iter wi) (hg : ∀ cl C s H fp, PG (aU X N scope cl C s H fp) tg g) (ht : ∀ cl C s H fp, PTs (aU X N scope cl C s H fp) ifs tc) (he : ∀ cl C s H fp, PE (aU X N scope cl C s H fp) elt te)
  (hf : X.fn x = true ∨ X.env.scope.names.lookup x = some .local := by exact .inl rfl)
  (hsw : swapsWithSole [.Name x pos'] (.ListComp elt [⟨tg, iter, ifs, 0⟩] scope pos) pos2.line X.env = pure true := by rfl)
  (h1 : (assignEach [.Name x pos'] X.env).map (·.2) = [assign (.Name x pos') X.env] := by rfl)
  (hs : ∀ x, foldedSetIterable iter X.env x = pure x := by intro _; rfl) : PS X (.Assign [.Name x pos'] (.ListComp elt [⟨tg, iter, ifs, 0⟩] scope pos) pos2) (oZ (pU mp wi g tc te) (iV i)) := by
 intro pins s σ H Dn I h
 rw [exec_Assign_arm]
 refine wpAny_bind (wpAny_standAt ?_)
 rw [hsw]
 refine wpAny_bind (wpAny_pure ?_)
 rw [if_pos rfl, h1]
 replace h : pU mp wi g tc te σ H (fun v H1 => Dn.nx (σ.set i (some v)) H1) := h
 obtain ⟨cl, hcl, hsub, hhas⟩ := sY (env := X.env) (scope := scope) fun y hy hf => I.ok.has y.1 (by
  rcases S.fre y hy hf with q | q
  ·exact .inl (show X.env.scope.names.lookup y.1 = _ by rw [hkX]; exact q)
  ·exact .inr (show X.env.scope.names.lookup y.1 = _ by rw [hkX]; exact q))
 generalize hQ : (fun (v : V) (H1 : Hp) => Dn.nx (σ.set i (some v)) H1) = Q at h
 let QQ : Value → Shared → Prop := fun _ s' => ∃ τ H', Inv X pins τ H' s' ∧ Dn.nx τ H'
 refine wpAny_bind (wpAny_bind (thn (Q := QQ) (wpAny_comprehension_free (e := .ListComp elt [⟨tg, iter, ifs, 0⟩] scope pos) (use := some fun v => assignAll v [assign (.Name x pos') X.env]) rfl hs hcl S.kind S.locs ?_) fun _ s' ⟨τ, H', I', q'⟩ => wpAny_pure (wpAny_pure ⟨τ, H', I', q'⟩)))
 refine thn (hi pins s σ H _ I h) fun v s1 h1 => thn h1 fun itv s2 h2 => ?_
 obtain ⟨it, fp, tn, J, H2, e, I2, T, st2, f2, W, ⟨m0, w0⟩, turn⟩ := h2
 subst e
 refine wpAny_newObj_type (wpAny_newFunctionEnv S.nocell (by intro y hy; simp at hy) (fun h3 hns hsb => ?_) S.kind)
 dsimp only at hns hsb ⊢
 have hold : ∀ b ∈ fp, b < s2.heap.objs.size := fun b hb => by
  obtain ⟨o, q, _⟩ := T.obj _ _ st2 b hb
  exact Heap.lt_size q
 generalize hD : s2.heap.objs.size = D at hns hsb
 generalize hH2 : s2.heap.push { cls := .type "list", dict := none, data := .seq ([] : List Value).toArray } = P2 at hns hsb ⊢
 have hC : P2.objs.size = D + 1 := by rw [← hH2, Heap.size_push, hD]
 generalize hC' : P2.objs.size = C at hns hsb ⊢
 rw [hC'] at hC
 have old : ∀ b o, s2.heap.get? b = some o → h3.get? b = some o := fun b o q => by
  have hb := Heap.lt_size q
  exact hsb.extBut b o (na1 hb hD hC) (Heap.get?_push_of_some _ (hH2 ▸ Heap.get?_push_of_some _ q))
 have accD : h3.get? D = some { cls := .type "list", data := .seq ([] : List Value).toArray } :=
  hsb.extBut _ _ (na2 hC) (Heap.get?_push_of_some _ (by rw [← hH2, ← hD]; exact Heap.get?_push_size _ rfl))
 have hfr : D ∉ frs X.stack := fun z => by
  rcases List.mem_cons.mp (I2.lY D z) with q | q
  ·exact na0 I2.lt hD q.symm
  ·exact I2.Ju (na4 hD) q
 have I0 : Inv (aU X N scope cl C s2 H2 fp) [(D, { cls := .type "list", data := .seq ([] : List Value).toArray })] (fZ mp σ) H2 { s2 with heap := h3, toks := s2.toks + ([] : List (Str × Value)).length } :=
  sX (s' := { s2 with heap := h3, toks := s2.toks + ([] : List (Str × Value)).length }) hNX hkX S I2 f2 hold (na3 hD hC) hsub hhas rfl rfl ⟨_, hns⟩ old fun p hp => by
   have ep := List.mem_singleton.mp hp
   subst ep
   exact ⟨accD, I2.hok.fresh (na4 hD), na2 hC, hfr, fun v z => by cases z⟩
 have T0 : tn 0 h3 := T.keep _ _ _ st2 fun b _ o q => old b o q
 have loop : ∀ z : Shared, z = { s2 with heap := h3, toks := s2.toks + ([] : List (Str × Value)).length } →
   codeAny (model X.prog X.w) X.A (.compLoop (.ListComp elt [⟨tg, iter, ifs, 0⟩] scope pos) 0 (.ref it) (.ref D) (compEnvC scope cl C X.env))
    (compPost (model X.prog X.w) X.A X.xe (some fun v => assignAll v [assign (.Name x pos') X.env]) QQ (.ref D) C) z := by
  rintro z rfl
  have stat : ∀ {H' : Hp} {pl : List (Addr × Obj)}, (∀ b ∈ fp, H' b = none) → (∀ p ∈ pl, p.1 = D) → ∀ b ∈ fp, j9 (aU X N scope cl C s2 H2 fp) pl H' b := fun hn hp b hb => by
   have hb2 := hold b hb
   refine ⟨hn b hb, na1 hb2 hD hC, (sW hkX S I2 f2 hold (na3 hD hC) hsub hhas).exfs b hb, .inl hb, fun x c q => (f2 b hb).2.2.2.2.1 x c (hsub x c q), fun p hpp => ?_⟩
   have hpD := hp p (by simpa [aU] using hpp)
   rw [hpD]
   exact (na0 hb2 hD).symm
  refine qI (env := compEnvC scope cl C X.env) (fun n z => ∃ i acc τ H' its k, Inv (aU X N scope cl C s2 H2 fp) [(D, { cls := .type "list", data := .seq (List.toArray its) k })] τ H' z ∧ tn i z.heap ∧ (∀ b ∈ fp, H' b = none) ∧ Vals acc its ∧ acc.length ≤ sizeLine ∧ W i n acc τ H')
   ?_ m0 ⟨0, [], _, H2, [], 0, I0, T0, fun b hb => (f2 b hb).1, .nil, Nat.zero_le _, w0⟩
  rintro n s5 ⟨i, acc, τ, H5, its, k, I5, st5, fr5, va, hz, w5⟩
  rcases turn i n acc τ H5 w5 with ⟨stop, qn⟩ | ⟨go, hz2, N9, hN9, step⟩
  ·refine thn (T.done (aU X N scope cl C s2 H2 fp) rfl rfl rfl hc i _ s5 τ H5 _ I5 (stat fr5 (by simp)) st5 stop) fun r s6 ⟨hr, I6⟩ => ?_
   subst hr
   obtain ⟨m6, hn6, _⟩ := I6.loc
   obtain ⟨dD, nD, _, _, _⟩ := I6.pin (D, _) (List.mem_append_right _ (List.mem_singleton.mpr rfl))
   have U := I6.base
   have nC : H5 C = none := I6.free
   have ne : ∀ b o, s2.heap.get? b = some o → b ≠ C ∧ b ≠ D := fun b o q => by
    exact ⟨na1 (Heap.lt_size q) hD hC, na0 (Heap.lt_size q) hD⟩
   have key : ∀ h', Heap.SameBut C s6.heap h' → Inv X pins σ (upd H5 D (.lst acc)) { s6 with heap := h' } := fun h' sb => by
    have keepC : ∀ b o, b ≠ C → s6.heap.get? b = some o → h'.get? b = some o := fun b o hb q => (sb.2 b hb).trans q
    have U' : Un (frs X.stack) fp H2 (upd H5 D (.lst acc)) s2.heap h' := by
     refine ⟨fun b o q n1 hb hx => keepC b o (ne b o q).1 (U.keep b o q n1 hb hx), fun b o q n1 hb hx => ?_, fun b o q n1 hx => ?_, fun b o q hx => ?_, fun b xs q => ?_, fun b o xs q => ?_, fun b ps q => ?_⟩
     ·obtain ⟨sl, z⟩ := U.slot b o q n1 hb hx
      exact ⟨sl, keepC b _ (ne b o q).1 z⟩
     ·rw [aJ (ne b o q).2]
      exact U.free b o q n1 hx
     ·obtain ⟨o', z⟩ := U.there b o q hx
      exact ⟨o', keepC b _ (ne b o q).1 z⟩
     ·have z := U.tups b xs q
      rw [aJ (aB z nD)]
      exact z
     ·have z := U.frzs b o xs q
      rw [aJ (aB z nD)]
      exact z
     ·obtain ⟨more, z⟩ := U.tbls b ps q
      exact ⟨more, by rw [aJ (aB z nD)]; exact z⟩
    have hok : HOk X.prog X.w (upd H5 D (.lst acc)) h' := fun b u q => by
     by_cases hb : b = D
     ·subst hb
      rw [aD] at q
      cases q
      exact ⟨hz, its, k, va, keepC _ _ (na2 hC) dD⟩
     ·rw [aJ hb] at q
      refine (I6.hok b u q).stay (fun c v hcc z => keepC c v ?_ z) (fun c z => by rw [aJ (aB z nD)]; exact z) fun c xs z => by rw [aJ (aB z nD)]; exact z
      rcases hcc with z1 | z1
      ·subst z1
       exact aB q nC
      ·exact aB z1 nC
    have I7 : Inv X pins σ (upd H5 D (.lst acc)) { s6 with heap := h' } := I2.call' (s' := { s6 with heap := h' }) (ch := fp) I6.os U' hok I6.bare fun b hb => by
     obtain ⟨_, a2, _, a4, a5, a6⟩ := f2 b hb
     exact ⟨a4, a2, a5, a6⟩
    exact I7
   have I7 : Inv X pins σ (upd H5 D (.lst acc)) s6 := key s6.heap (Heap.SameBut.refl _ _)
   have lC : X.env.locals ≠ C := na1 I2.lt hD hC
   have cC : ∀ y c, X.env.cells.lookup y = some c → c ≠ C := fun y c z => by
    obtain ⟨_, o, h1, _⟩ := I2.cell y c z
    exact na1 (Heap.lt_size h1) hD hC
   show wpAny _ _ (assign (.Name x pos') X.env (.ref D)) _ _ s6
   refine wpAny_assign_Name (pW (v := .ref D) I7 hNd hn.hN hn.hv rfl (fun s7 I8 ⟨a, sa, ha⟩ => ?_) hf)
   have aC : a ≠ C := by
    rcases ha with rfl | ha
    ·exact lC
    ·exact cC _ _ ha
   obtain ⟨o6, es6, ep6, g1, g2, g3, g4⟩ := hn6
   refine ⟨m6, ⟨o6, es6, ep6, (sa.2 C (Ne.symm aC)).trans g1, g2, g3, g4⟩, fun h' sb => ?_⟩
   have q9 := qn D nD
   rw [← hQ] at q9
   refine ⟨_, _, I8.turned (it := C) (t' := s7.toks) (fun b o hb q => (sb.2 b hb).trans q) ?_ (Ne.symm lC) (.inr (Nat.le_trans I2.sz (na3 hD hC))) cC (fun p hp => ?_), q9⟩
   ·rw [aJ (Ne.symm (na2 hC))]
    exact nC
   ·obtain ⟨h1, _⟩ := I2.pin p hp
    exact na1 (Heap.lt_size h1) hD hC
  ·refine thn (T.item (aU X N scope cl C s2 H2 fp) rfl rfl rfl hc i _ s5 τ H5 _ I5 (stat fr5 (by simp)) st5 go) fun r s6 ⟨u, hr, h6⟩ => ?_
   subst hr
   refine thn h6 fun _ s7 ⟨x, H7, I7, r7, y7, st7, fr7⟩ => ?_
   have I7' := I7.pinned (stat fr7 (by simp)) (T.obj _ _ st7)
   have no : ∀ {α : Type} {t : Sem α} {Q1 Q2 : α → Shared → Prop} {E : Value → Shared → Prop} {z : Shared}, wpAny (model X.prog X.w) X.A t Q1 (fun _ _ => False) z → (∀ a z, Q1 a z → Q2 a z) → wpAny (model X.prog X.w) X.A t Q2 E z :=
    fun q f => wpAny_mono q f fun _ _ z => z.elim
   refine no (hg cl C s2 H2 fp _ s7 τ H7 x u _ I7' r7 (step x H7 y7)) fun _ s8 ⟨τ1, H8, I8, q8⟩ => ?_
   refine no (ht cl C s2 H2 fp _ s8 τ1 H8 _ I8 q8) fun ok s9 ⟨H9, I9, q9⟩ => ?_
   have again : ∀ {H' : Hp} {z : Shared} {its' : List Value} {k' : Nat}, Inv (aU X N scope cl C s2 H2 fp) ([(D, { cls := .type "list", data := .seq (List.toArray its') k' })] ++ dO fp s7.heap) τ1 H' z →
     tn (i + 1) z.heap ∧ (∀ b ∈ fp, H' b = none) ∧ Inv (aU X N scope cl C s2 H2 fp) [(D, { cls := .type "list", data := .seq (List.toArray its') k' })] τ1 H' z := fun {H' z its' k'} Iz => by
    have get : ∀ b ∈ fp, ∀ o, s7.heap.get? b = some o → z.heap.get? b = some o ∧ H' b = none := fun b hb o q => by
     obtain ⟨a1, a2, _⟩ := Iz.pin (b, o) (List.mem_append_right _ (List.mem_append_right _ (fD hb q)))
     exact ⟨a1, a2⟩
    refine ⟨T.keep _ _ _ st7 fun b hb o q => (get b hb o q).1, fun b hb => ?_, Iz.gn⟩
    obtain ⟨o, q, _⟩ := T.obj _ _ st7 b hb
    exact (get b hb o q).2
   cases ok with
   | false =>
    rw [if_neg Bool.false_ne_true] at q9 ⊢
    obtain ⟨m', hm, w9⟩ := hN9 _ _ _ q9
    obtain ⟨a1, a2, a3⟩ := again I9
    exact ⟨m', hm, i + 1, acc, τ1, H9, its, k, a3, a1, a2, va, hz, w9⟩
   | true =>
    rw [if_pos rfl] at q9 ⊢
    refine no (he cl C s2 H2 fp _ s9 τ1 H9 _ I9 q9) fun y s10 ⟨v, H10, I10, rv, q10⟩ => ?_
    obtain ⟨m', hm, w10⟩ := hN9 _ _ _ q10
    obtain ⟨a1, a2, a3⟩ := again I10
    obtain ⟨dD, nD, _, _, _⟩ := a3.pin (D, _) (List.mem_append_right _ (List.mem_singleton.mpr rfl))
    have hlen := va.length
    refine call_meets F.slot_list_append ⟨_, dD, rfl⟩ F.entry_list_append (F.args_list_append_2 _ _) (PySem.list_append D its.toArray k y (by rw [List.size_toArray]; omega)) ⟨dD, ?_⟩
    obtain ⟨k', q⟩ : ∃ k', (s10.heap.update D (Obj.mapSeq fun a => a.push y)).get? D = some { cls := .type "list", data := .seq (its ++ [y]).toArray k' } := by
     have q := PySem.IsL.update dD (fun a => a.push y)
     rw [show its.toArray.push y = (its ++ [y]).toArray by simp] at q
     exact ⟨_, q⟩
    have a4 : Inv (aU X N scope cl C s2 H2 fp) (dO fp s7.heap) τ1 H10 s10 := I10.gW fun p hp => I10.pin p (List.mem_append_right _ (List.mem_append_right _ hp))
    have a5 : Inv (aU X N scope cl C s2 H2 fp) (dO fp s7.heap) τ1 H10 { s10 with heap := s10.heap.update D (Obj.mapSeq fun a => a.push y), toks := s10.toks } :=
     a4.turned (it := D) (fun b o hb z => (Heap.get?_update_other _ _ (Ne.symm hb)).trans z) nD (na2 hC) (.inr (na4 hD))
      (fun x c z => by
       obtain ⟨_, o, h1, _⟩ := I2.cell x c (hsub x c z)
       exact na0 (Heap.lt_size h1) hD) fun p hp => by
       have hb := (jM (by simpa [aU] using hp)).1
       exact na0 (hold _ hb) hD
    obtain ⟨b1, b2, b3⟩ := (show tn (i + 1) (s10.heap.update D (Obj.mapSeq fun a => a.push y)) ∧ (∀ b ∈ fp, H10 b = none) ∧ True from
     ⟨T.keep _ _ _ a1 fun b hb o z => (Heap.get?_update_other _ _ (na0 (hold b hb) hD).symm).trans z, a2, trivial⟩)
    refine ⟨m', hm, i + 1, acc ++ [v], τ1, H10, its ++ [y], k', a5.gW fun p hp => ?_, b1, b2, va.append (.cons rv .nil), by rw [List.length_append, List.length_singleton]; omega, w10⟩
    have ep := List.mem_singleton.mp hp
    subst ep
    exact ⟨q, nD, na2 hC, hfr, fun v z => by cases z⟩
 have e1 : { newEnv scope C X.env.globals cl X.env.qual none .none (some X.env) X.env.builtins with scope := relabel scope X.env } = compEnvC scope cl C X.env := rfl
 exact codeAny_compStart_list (loop _ rfl) (T.self _ 0 _ _ _ T0 (loop _ rfl))
theorem HY {tg iter elt : Expr} {ifs : List Expr} {pos pos' pos2 : Pos} {wi : TI} {g : TG} {tc : TT} {te : TE} {i : Nat} {x : Str} (N : List Str) (mp : List (Option Nat)) (hn : Nm X.N X.env.scope i x) (hNd : X.N.Nodup) (hNX : X.N = NX) (hkX : X.env.scope.names = kX) (S : mY NX kX N mp scope) (hc : X.calm = true)
  (hi : QI X tg iter wi) (hg : ∀ cl C s H fp, QG (aU X N scope cl C s H fp) tg g) (ht : ∀ cl C s H fp, QC (aU X N scope cl C s H fp) ifs tc) (he : ∀ cl C s H fp, QE (aU X N scope cl C s H fp) elt te)
  (hf : X.fn x = true ∨ X.env.scope.names.lookup x = some .local := by exact .inl rfl)
  (hsw : swapsWithSole [.Name x pos'] (.ListComp elt [⟨tg, iter, ifs, 0⟩] scope pos) pos2.line X.env = pure true := by rfl)
  (h1 : (assignEach [.Name x pos'] X.env).map (·.2) = [assign (.Name x pos') X.env] := by rfl)
  (hs : ∀ x, foldedSetIterable iter X.env x = pure x := by intro _; rfl) : QS X (.Assign [.Name x pos'] (.ListComp elt [⟨tg, iter, ifs, 0⟩] scope pos) pos2) (oZ (pU mp wi g tc te) (iV i)) :=
 ⟨Io N mp hn hNd hNX hkX S hc hi.h (fun cl C s H fp => (hg cl C s H fp).h) (fun cl C s H fp => (ht cl C s H fp).h) (fun cl C s H fp => (he cl C s H fp).h) hf hsw h1 hs⟩
end
def tH (H0 : Hp) (f : PyData → Bool) (ds : List PyData) (ok : St → Prop) (i : Nat) (acc : List V) (τ : St) (H' : Hp) : Prop := Same H0 H' ∧ ok τ ∧ acc = ((ds.take i).map f).map V.bl
section
variable {mp : List (Option Nat)} {g : TG} {te : TE} {σ : St} {H : Hp} {Q : VK} {R : It → Hp → Prop} {K : PySem.W.Frag} {a : Addr} {xs : List V} {ds : List PyData} {ok : Addr → Prop}
theorem take_snoc {α : Type} {l : List α} {i : Nat} {x : α} (h : l[i]? = some x) : l.take (i + 1) = l.take i ++ [x] := by
 rw [List.take_add_one, h]
 rfl
theorem wI {f : PyData → Bool} {d : PyData} {i : Nat} (h : ds[i]? = some d) : ((ds.take (i + 1)).map f).map V.bl = ((ds.take i).map f).map V.bl ++ [V.bl (f d)] := by
 rw [take_snoc h, List.map_append, List.map_append]
 rfl
theorem Am (f : PyData → Bool) (ds : List PyData) (i : Nat) : (((ds.take i).map f).map V.bl).length ≤ i := by
 simp only [List.length_map, List.length_take]
 omega
theorem sV (f : PyData → Bool) (okT : St → Prop) (hR : R = vm mp g GF te σ Q) (tr : aL ok H xs ds) (e : H a = some (.lst xs)) (hz : xs.length ≤ 9000) (h0 : okT (fZ mp σ))
  (hs : ∀ x d τ H1 (Qn : V → St → Hp → Prop), d ∈ ds → Same H H1 → aR ok H1 x d → okT τ → (∀ τ1 H6, okT τ1 → Same H1 H6 → Qn (.bl (f d)) τ1 H6) → g x τ H1 fun τ1 H4 => te τ1 H4 fun v H6 => Qn v τ1 H6)
  (hd : ∀ H2 d, Same H H2 → H2 d = none → Q (.ref d) (upd H2 d (.lst ((ds.map f).map V.bl)))) : R (Itl K a) H := by
 have hl := tr.length
 refine wH hR (aZ hz) (tH H f ds okT) ⟨Same.refl _, h0, rfl⟩ (fun i acc τ H1 ⟨_, _, e⟩ => by rw [e]; exact Am f ds i) (fun i acc τ H1 ⟨s, _, _⟩ => SqL.of (s _ _ e)) (fun i x acc τ H1 hx ⟨s, k, ea⟩ => ?_) (fun acc τ H1 d ⟨s, k, ea⟩ hn => ?_)
 ·obtain ⟨d, hd2, td⟩ := tr.get hx
  have z := hs x d τ H1 (fun v τ1 H6 => tH H f ds okT (i + 1) (acc ++ [v]) τ1 H6) (List.mem_of_getElem? hd2) s (td.same s) k fun τ1 H6 k1 s6 => ⟨s.trans s6, k1, by rw [ea, wI hd2]⟩
  show g x τ H1 fun τ1 H4 => if true = true then te τ1 H4 fun v H6 => tH H f ds okT (i + 1) (acc ++ [v]) τ1 H6 else tH H f ds okT (i + 1) acc τ1 H4
  simp only [if_true]
  exact z
 ·rw [ea, hl, List.take_length]
  exact hd H1 d s hn
end
def itD : It1 → PyData
 | .one a => .tuple [.str "is", .int a]
 | .rng a b => .tuple [.str "from", .int a, .int b]
 | .bits m v => .tuple [.str "bits", .int m, .int v]
def fP (its : List It1) : PyData := .list (its.map itD)
def cJ (w s : Int) (css : List (List It1)) : PyData := .tuple [.int w, .int s, .list (css.map fP)]
theorem gK.tree {H : Hp} {t : Addr} {it : It1} {ok : Addr → Prop} (h : gK H t it) (o : ok t) : aR ok H (.ref t) (itD it) := by
 cases it with
 | one a => exact .tup o h.h (by show 2 ≤ 9000; decide) (.cons (.str _) (.cons (.int _) .nil))
 | rng a b => exact .tup o h.h (by show 3 ≤ 9000; decide) (.cons (.str _) (.cons (.int _) (.cons (.int _) .nil)))
 | bits m v => exact .tup o h.h (by show 3 ≤ 9000; decide) (.cons (.str _) (.cons (.int _) (.cons (.int _) .nil)))
theorem oK {p c : Addr} {H Hk : Hp} {B : Int} (s : bN p H Hk) (t : bx Hk p B) (h : Hk c = none) : c ≠ p ∧ H c = none := by
 have n := t.ne h
 refine ⟨n, ?_⟩
 cases e : H c with
 | none => rfl
 | some o => rw [s _ _ n e] at h; cases h
theorem jK {p c : Addr} {H H' : Hp} {o : HO} (s : bN p H H') (h : H c = none) : bN p H (upd H' c o) := fun b u n e => by
 rw [aJ (aB e h)]
 exact s b u n e
theorem bx.upd {H : Hp} {p c : Addr} {B : Int} {o : HO} (t : bx H p B) (n : c ≠ p) : bx (upd H c o) p B := by
 obtain ⟨a, b, c', e, r⟩ := t
 exact ⟨a, b, c', by rw [aJ (Ne.symm n)]; exact e, r⟩
theorem lW {α : Type} (l : List α) (x : α) : atI (l ++ [x]) (-1) = some x := by
 unfold atI ixN
 rw [if_neg (by decide), if_pos (by rw [List.length_append, List.length_singleton]; omega)]
 show (l ++ [x])[_]? = some x
 rw [List.getElem?_append_right (by rw [List.length_append, List.length_singleton]; omega)]
 rw [show (-1 + ((l ++ [x]).length : Int)).toNat - l.length = 0 by rw [List.length_append, List.length_singleton]; omega]
 rfl
def Bx : Sp := fun vs H Q _ => ∃ (p : Addr) (B : Int), vs = [.ref p] ∧ bx H p B ∧ 0 ≤ B ∧ B ≤ 900000 ∧
 ∀ (w s : Int) (t : Addr) (css : List (List It1)) H', 1 ≤ w → w ≤ 40 → (s = 0 ∨ s = 1) → bN p H H' → bx H' p (B + 6000) → aR (· ≠ p) H' (.ref t) (cJ w s css) →
  (∀ its ∈ css, its.length ≤ 6 ∧ ∀ it ∈ its, it.Ok w s) → css.length ≤ 12 → Q (.ref t) H'
theorem sJ {w s : Int} : dm w s (wl w s) := ⟨Int.le_refl _, by have := two_pow_pos w.toNat; omega⟩
section
variable {ok : Addr → Prop} {σ : St} {H0 H : Hp} {ta tb te : TE} {tr : TA} {d e : PyData} {ds es : List PyData} {D : Ends} {i : Nat}
end
structure Bd (n k : Nat) (d : PyData) : Prop where
 sm : smD d = true
 nd : nodes d ≤ n
 dp : d.depth ≤ k
theorem Bd.mono {n k n' k' : Nat} {d : PyData} (b : Bd n k d) (h1 : n ≤ n') (h2 : k ≤ k') : Bd n' k' d := ⟨b.sm, Nat.le_trans b.nd h1, Nat.le_trans b.dp h2⟩
theorem Bd.tell {n k : Nat} {d : PyData} (b : Bd n k d) (h1 : n ≤ 200000) (h2 : k ≤ 100) : Gn d := ⟨b.sm, Nat.le_trans b.nd h1, Nat.le_trans b.dp h2⟩
theorem wO {n k : Nat} : ∀ {ds : List PyData}, (∀ d ∈ ds, Bd n k d) → kI ds = true ∧ dz ds ≤ ds.length * n ∧ PyData.depthAll ds ≤ k
 | [], _ => ⟨rfl, Nat.zero_le _, Nat.zero_le _⟩
 | d :: ds, h => by
  have h1 := h d List.mem_cons_self
  obtain ⟨a, b, c⟩ := wO fun x hx => h x (List.mem_cons_of_mem _ hx)
  have := h1.nd
  have := h1.dp
  refine ⟨by rw [kI, h1.sm, a]; rfl, ?_, ?_⟩
  ·rw [dz, List.length_cons, Nat.succ_mul]; omega
  ·rw [PyData.depthAll.eq_2]; omega
theorem yI {n k m : Nat} {ds : List PyData} (h : ∀ d ∈ ds, Bd n k d) (hl : ds.length ≤ m) : Bd (1 + m * n) (k + 1) (.list ds) := by
 obtain ⟨a, b, c⟩ := wO h
 have := Nat.mul_le_mul_right n hl
 refine ⟨a, ?_, ?_⟩
 ·show 1 + dz ds ≤ _; omega
 ·rw [PyData.depth.eq_1]; omega
theorem lV {n k m : Nat} {ds : List PyData} (h : ∀ d ∈ ds, Bd n k d) (hl : ds.length ≤ m) : Bd (1 + m * n) (k + 1) (.tuple ds) := by
 obtain ⟨a, b, c⟩ := wO h
 have := Nat.mul_le_mul_right n hl
 refine ⟨a, ?_, ?_⟩
 ·show 1 + dz ds ≤ _; omega
 ·rw [PyData.depth.eq_2]; omega
theorem j8 {i : Int} (h : i.natAbs < 2 ^ 55) : Bd 1 0 (.int i) := ⟨by show decide _ = true; exact decide_eq_true (.inr (.inr h)), Nat.le_refl _, Nat.le_refl _⟩
theorem Ox {x : Str} (h : (reprText x).length ≤ 50) : Bd 1 0 (.str x) := ⟨by show decide _ = true; exact decide_eq_true h, Nat.le_refl _, Nat.le_refl _⟩
theorem tE {x : Str} (h : x = "is" ∨ x = "from" ∨ x = "bits") : Bd 1 0 (.str x) := by
 rcases h with rfl | rfl | rfl <;> exact Ox (by decide +kernel)
theorem Kz {w s : Int} {it : It1} (hw1 : 1 ≤ w) (hw2 : w ≤ 40) (hs : s = 0 ∨ s = 1) (h : it.Ok w s) : Bd 4 1 (itD it) := by
 have b := iG hw1 hw2 hs
 have ik : ∀ {a : Int}, dm w s a → a.natAbs < 2 ^ 55 := fun {a} h => by have := h.1; have := h.2; omega
 have nk : ∀ {a : Nat}, a < 2 ^ w.toNat → ((a : Int)).natAbs < 2 ^ 55 := fun {a} h => by
  have : 2 ^ w.toNat ≤ 2 ^ 40 := Nat.pow_le_pow_right (by decide) (by omega)
  omega
 cases it with
 | one a =>
  refine (lV (n := 1) (k := 0) (m := 3) ?_ (by show 2 ≤ 3; decide))
  intro d hd
  simp only [List.mem_cons, List.not_mem_nil, or_false] at hd
  rcases hd with rfl | rfl
  ·exact tE (.inl rfl)
  ·exact j8 (ik h)
 | rng a c =>
  refine (lV (n := 1) (k := 0) (m := 3) ?_ (by show 3 ≤ 3; decide))
  intro d hd
  simp only [List.mem_cons, List.not_mem_nil, or_false] at hd
  rcases hd with rfl | rfl | rfl
  ·exact tE (.inr (.inl rfl))
  ·exact j8 (ik h.1)
  ·exact j8 (ik h.2.1)
 | bits m v =>
  refine (lV (n := 1) (k := 0) (m := 3) ?_ (by show 3 ≤ 3; decide))
  intro d hd
  simp only [List.mem_cons, List.not_mem_nil, or_false] at hd
  rcases hd with rfl | rfl | rfl
  ·exact tE (.inr (.inr rfl))
  ·exact j8 (nk h.1)
  ·exact j8 (nk h.2.1)
theorem KC {w s : Int} {its : List It1} {m : Nat} (hw1 : 1 ≤ w) (hw2 : w ≤ 40) (hs : s = 0 ∨ s = 1) (h : ∀ it ∈ its, it.Ok w s) (hl : its.length ≤ m) : Bd (1 + m * 4) 2 (fP its) :=
 yI (fun d hd => by
  obtain ⟨it, hi, rfl⟩ := List.mem_map.mp hd
  exact Kz hw1 hw2 hs (h it hi)) (by rw [List.length_map]; exact hl)
theorem Gf {n k : Nat} {w s : Int} {d : PyData} (hw1 : 1 ≤ w) (hw2 : w ≤ 40) (hs : s = 0 ∨ s = 1) (h : Bd n k d) (hn : 1 ≤ n) : Bd (1 + 3 * n) (k + 1) (.tuple [.int w, .int s, d]) := by
 refine lV ?_ (by show 3 ≤ 3; decide)
 intro x hx
 simp only [List.mem_cons, List.not_mem_nil, or_false] at hx
 rcases hx with rfl | rfl | rfl
 ·exact (j8 (by omega)).mono hn (Nat.zero_le _)
 ·exact (j8 (by omega)).mono hn (Nat.zero_le _)
 ·exact h
theorem gJ.KR {k : Nat} {A : Around} (r : gJ k A) : A.units + 200 < cLine := by have := r.un; omega
theorem aL.one {ok : Addr → Prop} {H : Hp} {vs : List V} {d : PyData} (t : aL ok H vs [d]) : ∃ v, vs = [v] ∧ aR ok H v d := by
 cases t with
 | cons t r =>
  cases r
  exact ⟨_, rfl, t⟩
theorem zX (t : Addr) (items : Array Value) : Meets (Builtin.«enumerate.__new__» { pos := [Value.type "enumerate", Value.ref t] }) fun _ R s =>
  s.heap.IsTuple t items ∧ R (.ok (.ret (.ref (s.heap.objs.size + 1)))) { s with heap := (s.heap.push { cls := .type "tuple_iterator", data := .fields #[.ref t, .int 0 0] }).push { cls := .type "enumerate", data := .fields #[.none, .bool false, .ref s.heap.objs.size, rawInt 0, .none, .none] } } := by
 refine Meets.of_wp fun prog w A R s h => ?_
 obtain ⟨ht, hR⟩ := h
 unfold Builtin.«enumerate.__new__» Builtin.SmallTypes.newClass
 refine wpAny_bind (wpAny_bind (wpAny_pure (wpAny_ite_false rfl (wpAny_bind (wpAny_of_eq sub_enumerate (wpAny_ite_false rfl (wpAny_pure (wpAny_ite_true rfl (wpAny_bind ?_)))))))))
 unfold Builtin.SmallTypes.calledThroughType
 refine wpAny_bind (wpAny_stack_any fun st => wpAny_pure ?_)
 have fin : wpAny (model prog w) A.in1 (do
   let it ← pyIter (Value.ref t)
   let r ← Builtin.SmallTypes.newRecord (Value.type "enumerate") (Builtin.SmallTypes.ownedTupleFields ++ [it, rawInt 0, Value.none, Value.none])
   ret r) (fun fin s' => ∃ v, fin = Fin.done (Flow.ret v) ∧ R (Except.ok (Flow.ret v)) s') (fun e s' => R (Except.error e) s') s := by
  refine wpAny_bind (wpAny_pyIter_tuple ht ?_)
  show wpAny _ _ (newObj (.type "enumerate") (.fields #[.none, .bool false, .ref s.heap.objs.size, rawInt 0, .none, .none]) >>= fun r => ret r) _ _ _
  refine wpAny_bind (wpAny_newObj_type ?_)
  refine wpAny_pure ⟨_, rfl, ?_⟩
  have e : (s.heap.push { cls := Value.type "tuple_iterator", data := Data.fields #[Value.ref t, Value.int 0 0] }).objs.size = s.heap.objs.size + 1 := Heap.size_push ..
  rw [e]
  exact hR
 dsimp only
 split
 ·split
  ·exact wpAny_bind (wpAny_pure fin)
  ·exact wpAny_bind (wpAny_pure fin)
 ·split
  ·exact wpAny_bind (wpAny_pure fin)
  ·exact wpAny_bind (wpAny_pure fin)
theorem cV {prog : Program} {w : World} {A : Around} {E : Value → Shared → Prop} {s : Shared} {it t : Addr} {i : Nat} {items : Array Value} {x : Value} {Q : Value → Shared → Prop} (hit : s.heap.IsTupleIter it t i) (ht : s.heap.IsTuple t items) (hx : items[i]? = some x)
  (hQ : ∀ h', h'.IsTupleIter it t (i + 1) → Heap.SameBut it s.heap h' → Q x { s with heap := h' }) : wpAny (model prog w) A (Builtin.SmallTypes.nextOf (Value.ref it)) Q E s := by
 obtain ⟨o, ho, hc, hd⟩ := id hit
 obtain ⟨ol, hol, hcl, nl, hdl⟩ := ht
 unfold Builtin.SmallTypes.nextOf
 refine wpAny_bind (wpAny_callSpecial?_slot hit.typeIs F.slot_tuple_iterator_next (wpAny_call_entry F.slot_tuple_iterator_next hit.typeIs F.entry_tuple_iterator_next ?_ (F.args_tuple_iterator_next_1 _)))
 refine wpAny_bind (wpAny_pure (wpAny_bind (wpAny_field ho hd (i := 0) rfl ?_)))
 refine wpAny_ite_false rfl (wpAny_bind (wpAny_field ho hd (i := 1) rfl ?_))
 refine wpAny_bind (wpAny_seqItems hol hdl ?_)
 show wpAny _ _ (match items[(i : Int).toNat]? with
  | some x => (do setField (.ref it) 1 (rawInt ((i : Int) + 1)); ret x)
  | none => _) _ _ _
 rw [Int.toNat_natCast, hx]
 refine wpAny_bind (wpAny_setField ho hd (Nat.lt_succ_self 1) (wpAny_pure ⟨x, rfl, wpAny_pure (hQ _ ?_ ?_)⟩))
 ·refine ⟨_, Heap.get?_update_self _ ho (Obj.isFreed_of_fields (Obj.data_mapFields hd _)), (Obj.cls_mapFields o _).trans hc, ?_⟩
  rw [Obj.data_mapFields hd]
  rfl
 ·exact Heap.SameBut.update s.heap it _
theorem fB {prog : Program} {w : World} {A : Around} {E : Value → Shared → Prop} {s : Shared} {it t : Addr} {i : Nat} {items : Array Value} {Q : Value → Shared → Prop} (hh : A.handled = none) (hit : s.heap.IsTupleIter it t i) (ht : s.heap.IsTuple t items) (hx : items[i]? = none)
  (hE : ∀ h' e, Heap.ExtBut it s.heap h' → (∃ o, h'.get? e = some o ∧ o.cls = Value.type "StopIteration") → E (.ref e) { s with heap := h' }) : wpAny (model prog w) A (Builtin.SmallTypes.nextOf (Value.ref it)) Q E s := by
 obtain ⟨o, ho, hc, hd⟩ := id hit
 obtain ⟨ol, hol, hcl, nl, hdl⟩ := ht
 unfold Builtin.SmallTypes.nextOf
 refine wpAny_bind (wpAny_callSpecial?_slot hit.typeIs F.slot_tuple_iterator_next (wpAny_call_entry F.slot_tuple_iterator_next hit.typeIs F.entry_tuple_iterator_next ?_ (F.args_tuple_iterator_next_1 _)))
 refine wpAny_bind (wpAny_pure (wpAny_bind (wpAny_field ho hd (i := 0) rfl ?_)))
 refine wpAny_ite_false rfl (wpAny_bind (wpAny_field ho hd (i := 1) rfl ?_))
 refine wpAny_bind (wpAny_seqItems hol hdl ?_)
 show wpAny _ _ (match items[(i : Int).toNat]? with
  | some x => _
  | none => (do rule (toString "tuple_iterator.__next__" ++ toString ".end"); setField (.ref it) 0 .none; Builtin.SmallTypes.stopIteration)) _ _ _
 rw [Int.toNat_natCast, hx]
 refine wpAny_bind (wpAny_rule (wpAny_bind (wpAny_setField ho hd (Nat.zero_lt_succ 1) ?_)))
 unfold Builtin.SmallTypes.stopIteration newExc
 refine wpAny_bind (wpAny_bind (wpAny_newObj_type ?_))
 refine wpAny_bind (wpAny_of_eq (a := .none) rfl ?_)
 refine wpAny_newObj_type ?_
 refine wpAny_raiseNew_none hh (hE _ _ ?_ ?_)
 ·exact fun b ob hb e => Heap.get?_push_of_some _ (Heap.get?_push_of_some _ ((Heap.get?_update_other _ _ (Ne.symm hb)).trans e))
 ·exact ⟨_, Heap.get?_push_size _ rfl, rfl⟩
theorem mX {prog : Program} {w : World} {A : Around} (hh : A.handled = none) (it t : Addr) (hne : t ≠ it) (items : Array Value) : Draws prog w A it [it, t] items.size (fun i v => items[i]? = some v) fun i h => h.IsTupleIter it t i ∧ h.IsTuple t items where
 live := fun _ _ st => by
  obtain ⟨⟨o, ho, _⟩, _⟩ := st
  exact ⟨o, ho⟩
 frame := fun _ _ _ st hk => by
  obtain ⟨h1, ⟨o, e, r⟩⟩ := st
  exact ⟨h1.at fun o e => hk it (by simp) o e, o, hk t (by simp) o e, r⟩
 item := fun i s Q E hi st hQ => by
  have e : items[i]? = some items[i] := by simp [hi]
  refine cV st.1 st.2 e fun h' h1 sb => hQ _ _ s.toks e ⟨h1, ?_⟩ sb
  obtain ⟨o, g, r⟩ := st.2
  exact ⟨o, (sb.2 t hne).trans g, r⟩
 done := fun s Q E st hE => fB hh st.1 st.2 (by simp) hE
def Iet (K : PySem.W.Frag) (a : Addr) : It :=
 ⟨fun i H => ∃ xs x, SqT K H a xs ∧ xs[i]? = some x,
  fun i H v H' => ∃ p x, v = .ref p ∧ H p = none ∧ H' = upd H p (.tup [.int (i : Nat), x]) ∧ ∀ xs, SqT K H a xs → xs[i]? = some x,
  fun i H => ∃ xs, SqT K H a xs ∧ xs.length = i⟩
theorem vz {P : Program} {w : World} {K : PySem.W.Frag} {es : List Expr} {kk : Nat} {tpos : Pos} {e it l : Addr} (hne : e ≠ it) :
  Turn P w K (.Tuple es kk tpos) (Iet K l) [e, it] e (fun i h => (∃ old, IsEnum h e it ((i : Nat) : Int) old) ∧ h.IsTupleIter it l i) where
 mem := by simp
 obj := fun i h st b hb => by
  obtain ⟨⟨old, he⟩, ⟨o1, e1, c1, d1⟩⟩ := st
  simp only [List.mem_cons, List.not_mem_nil, or_false] at hb
  rcases hb with rfl | rfl
  ·exact ⟨_, he, fun v q => by cases q⟩
  ·exact ⟨o1, e1, fun v q => by rw [d1] at q; cases q⟩
 keep := fun i h h' st k => by
  obtain ⟨⟨old, he⟩, h1⟩ := st
  exact ⟨⟨old, k e (by simp) _ he⟩, h1.at fun o q => k it (by simp) o q⟩
 item := by
  intro X hP hw hK hc i pins s σ H E I hf st hg
  subst hP hw hK
  obtain ⟨xs, x, q1, hx⟩ := hg
  obtain ⟨its1, rv1, p1, hz1⟩ := I.tuple q1
  obtain ⟨u1, hu1, ru1⟩ := rv1.get hx
  obtain ⟨⟨old, he⟩, h1⟩ := st
  have hel : e ≠ l := fun z => by
   obtain ⟨ol, g1, g2, _⟩ := p1
   rw [← z, he] at g1
   cases g1
   injection g2 with g2
   exact absurd g2 (by decide)
  have hil : l ≠ it := fun z => by
   obtain ⟨ol, g1, g2, _⟩ := p1
   obtain ⟨oi, g3, g4, _⟩ := h1
   rw [z, g3] at g1
   cases g1
   rw [g4] at g2
   injection g2 with g2
   exact absurd g2 (by decide)
  have hsz1 : i < its1.toArray.size := by
   obtain ⟨z, _⟩ := List.getElem?_eq_some_iff.mp hu1
   simpa using z
  refine wpAny_pyNext_enum_itemD (mX (A := X.A.in1) (I.ok.hd hc) it l hil its1.toArray) he ⟨h1, p1⟩ hsz1 hne (by simp [hne, hel]) fun x1 h' tk hP a1 a2 a3 a4 hk => ?_
  have ex : x1 = u1 := by
   have hP' : its1[i]? = some x1 := by simpa using hP
   rw [hu1] at hP'
   exact (Option.some.inj hP').symm
  subst ex
  obtain ⟨a2, _⟩ := a2
  have new : cu X.prog X.w (upd H s.heap.objs.size (.tup [.int (i : Nat), x])) h' s.heap.objs.size (.tup [.int (i : Nat), x]) := ⟨by show 2 ≤ sizeLine; decide, [.int (i : Nat) tk, x1], .cons ⟨_, rfl⟩ (.cons ru1 .nil), _, a3, rfl, _, rfl⟩
  have I1 : Inv X pins σ (upd H s.heap.objs.size (.tup [.int (i : Nat), x])) { s with heap := h', toks := tk + 1 } := I.wV (ch := [e, it]) hf
   (fun b o hb q => hk b o (fun z => hb (by simp [z])) (fun z => hb (by simp [z])) q) (Nat.le_refl _) new
  have hsz : ∀ b, b ∈ [e, it] → b ≠ s.heap.objs.size := fun b hb => by
   have lt : ∃ o, s.heap.get? b = some o := by
    simp only [List.mem_cons, List.not_mem_nil, or_false] at hb
    rcases hb with rfl | rfl
    ·exact ⟨_, he⟩
    ·obtain ⟨o, q, _⟩ := h1; exact ⟨o, q⟩
   obtain ⟨o, q⟩ := lt
   exact Nat.ne_of_lt (Heap.lt_size q)
  refine ⟨_, rfl, wpAny_letOwnedTupleGo_enum (s := { s with heap := h', toks := tk + 1 }) a1 fun h'' z2 sb => ?_⟩
  have fz := hf e (by simp)
  have I2 : Inv X pins σ (upd H s.heap.objs.size (.tup [.int (i : Nat), x])) { s with heap := h'', toks := tk + 1 } := Inv.turned (s := { s with heap := h', toks := tk + 1 }) (it := e) I1 (fun b o hb q => (sb.2 b hb).trans q) (by rw [aJ (hsz e (by simp))]; exact fz.1) fz.2.1 fz.2.2.2.1 fz.2.2.2.2.1 fz.2.2.2.2.2
  refine ⟨.ref s.heap.objs.size, _, I2, rfl, ⟨_, x, rfl, I.fresh, rfl, fun xs' q => by rw [I.jG q q1]; exact hx⟩,
   ⟨⟨_, by simpa using z2⟩, a2.extBut sb.extBut hne.symm⟩, fun b hb => by rw [aJ (hsz b hb)]; exact (hf b hb).1⟩
 done := by
  intro X hP hw hK hc i pins s σ H E I hf st hg
  subst hP hw hK
  obtain ⟨xs, q1, hx⟩ := hg
  obtain ⟨its1, rv1, p1, hz1⟩ := I.tuple q1
  obtain ⟨⟨old, he⟩, h1⟩ := st
  have hil : l ≠ it := fun z => by
   obtain ⟨ol, g1, g2, _⟩ := p1
   obtain ⟨oi, g3, g4, _⟩ := h1
   rw [z, g3] at g1
   cases g1
   rw [g4] at g2
   injection g2 with g2
   exact absurd g2 (by decide)
  have hl1 := rv1.length
  have hsi : its1.toArray.size = i := by rw [List.size_toArray]; omega
  refine wpAny_pyNext_enum_endD (mX (A := X.A.in1) (I.ok.hd hc) it l hil its1.toArray) he (by rw [hsi]; exact ⟨h1, p1⟩) fun h' hk => ⟨rfl, ?_⟩
  exact I.wW (t' := s.toks) (ch := [e, it]) hf (fun b o hb q => hk b o (fun z => hb (by simp [z])) q)
 self := fun _ _ _ _ _ st h => by
  obtain ⟨⟨old, he⟩, _⟩ := st
  exact wpAny_pyIter_enum he h
def ieq (K : PySem.W.Frag) (ob : Option HO) (a : Addr) (H : Hp) (R : It → Hp → Prop) : Prop := match ob with
 | some (.lst _) => R (Ite K a) H
 | some (.tup _) => R (Iet K a) H
 | _ => False
def ieK (K : PySem.W.Frag) (vs : List V) (H : Hp) (R : It → Hp → Prop) : Prop := match vs with
 | [.ref a] => ieq K (H a) a H R
 | _ => False
def wA (K : PySem.W.Frag) (ta : TA) : TI := fun σ H R => ta σ H fun vs H1 => ieK K vs H1 R
theorem qz (K : PySem.W.Frag) (ta : TA) (σ : St) (H : Hp) (R : It → Hp → Prop) : wA K ta σ H R = ta σ H fun vs H1 => ieK K vs H1 R := rfl
theorem yp (K : PySem.W.Frag) (a : Addr) (H : Hp) (R : It → Hp → Prop) : ieK K [.ref a] H R = ieq K (H a) a H R := rfl
theorem yo (K : PySem.W.Frag) (xs : List V) (a : Addr) (H : Hp) (R : It → Hp → Prop) : ieq K (some (.lst xs)) a H R = R (Ite K a) H := rfl
section
variable {X : Cx}
theorem Di {es : List Expr} {kk : Nat} {tpos : Pos} {a : Expr} {ta : TA} {p pos : Pos} (hg : Gl X "enumerate") (hm : X.mg "enumerate" = none) (ha : PA X [a] ta) (hs : starEach [a] X.env = [(false, eval a X.env)] := by rfl) :
  PI X (.Tuple es kk tpos) (.Call (.Name "enumerate" p) [a] [] pos) (wA X.K ta) := by
 intro pins s σ H R I h
 refine Call_ (iC I hg hm PyProof.Rows.Boot.«enumerate» (PyProof.Rows.callWith_type1 (thA (ha pos pins s σ H _ I h) fun us s1 vs H1 I1 r1 q1 => ?_) hs rfl))
 replace q1 : ieK X.K vs H1 R := q1
 unfold ieK at q1
 split at q1
 ·rename_i l1
  cases r1 with
  | cons r rr =>
   cases rr
   cases r
   unfold ieq at q1
   split at q1
   ·rename_i xs e
    obtain ⟨its1, rv1, p1, hz1⟩ := I1.list (SqL.of e)
    refine call_enumerate_list p1.isList fun h' b1 b2 b3 hk => ?_
    refine wpAny_pyIter_enum (s := { s1 with heap := h' }) b1 ?_
    have I2 : Inv X pins σ H1 { s1 with heap := h' } := I1.kept (t' := s1.toks) hk
    refine ⟨_, _, _, _, H1, rfl, I2, yP (Nat.ne_of_gt (Nat.lt_succ_self _)), ⟨⟨_, b1⟩, b2⟩, fun b hb => ?_, q1⟩
    have hle : s1.heap.objs.size ≤ b := by
     simp only [List.mem_cons, List.not_mem_nil, or_false] at hb
     rcases hb with rfl | rfl <;> simp
    exact I1.zV hle (I1.hok.fresh hle)
   ·rename_i xs e
    obtain ⟨its1, rv1, p1, hz1⟩ := I1.tuple (SqT.of e)
    refine callType_new F.called_enumerate (by decide) (F.typeCall_enumerate_1 _) (F.newCall_enumerate_1 _) (fun obj => F.args_object_init_2 obj _) F.entry_enumerate_new (zX l1 its1.toArray) ⟨p1, ?_⟩
    have hz : (s1.heap.push { cls := Value.type "tuple_iterator", data := Data.fields #[Value.ref l1, Value.int 0 0] }).objs.size = s1.heap.objs.size + 1 := Heap.size_push ..
    have b1 : ((s1.heap.push { cls := Value.type "tuple_iterator", data := Data.fields #[Value.ref l1, Value.int 0 0] }).push { cls := Value.type "enumerate", data := Data.fields #[Value.none, Value.bool false, Value.ref s1.heap.objs.size, rawInt 0, Value.none, Value.none] }).get? (s1.heap.objs.size + 1) = some { cls := Value.type "enumerate", data := Data.fields #[Value.none, Value.bool false, Value.ref s1.heap.objs.size, rawInt 0, Value.none, Value.none] } := by
     rw [← hz]
     exact Heap.get?_push_size _ rfl
    have b2 : ((s1.heap.push { cls := Value.type "tuple_iterator", data := Data.fields #[Value.ref l1, Value.int 0 0] }).push { cls := Value.type "enumerate", data := Data.fields #[Value.none, Value.bool false, Value.ref s1.heap.objs.size, rawInt 0, Value.none, Value.none] }).IsTupleIter s1.heap.objs.size l1 0 :=
     ⟨_, Heap.get?_push_of_some _ (Heap.get?_push_size _ rfl), rfl, rfl⟩
    have hk : ∀ b o, s1.heap.get? b = some o → ((s1.heap.push { cls := Value.type "tuple_iterator", data := Data.fields #[Value.ref l1, Value.int 0 0] }).push { cls := Value.type "enumerate", data := Data.fields #[Value.none, Value.bool false, Value.ref s1.heap.objs.size, rawInt 0, Value.none, Value.none] }).get? b = some o := fun b o z => Heap.get?_push_of_some _ (Heap.get?_push_of_some _ z)
    refine ⟨⟨_, b1, rfl⟩, ?_⟩
    generalize (s1.heap.push { cls := Value.type "tuple_iterator", data := Data.fields #[Value.ref l1, Value.int 0 0] }).push { cls := Value.type "enumerate", data := Data.fields #[Value.none, Value.bool false, Value.ref s1.heap.objs.size, rawInt 0, Value.none, Value.none] } = h' at b1 b2 hk
    refine wpAny_pyIter_enum (s := { s1 with heap := h' }) b1 ?_
    have I2 : Inv X pins σ H1 { s1 with heap := h' } := I1.kept (t' := s1.toks) hk
    refine ⟨_, _, _, _, H1, rfl, I2, vz (Nat.ne_of_gt (Nat.lt_succ_self _)), ⟨⟨_, b1⟩, b2⟩, fun b hb => ?_, q1⟩
    have hle : s1.heap.objs.size ≤ b := by
     simp only [List.mem_cons, List.not_mem_nil, or_false] at hb
     rcases hb with rfl | rfl <;> simp
    exact I1.zV hle (I1.hok.fresh hle)
   ·exact q1.elim
 ·exact q1.elim
theorem ur {es : List Expr} {kk : Nat} {tpos : Pos} {a : Expr} {ta : TA} {p pos : Pos} (hg : Gl X "enumerate") (hm : X.mg "enumerate" = none) (ha : QA X [a] ta) (hs : starEach [a] X.env = [(false, eval a X.env)] := by rfl) :
  QI X (.Tuple es kk tpos) (.Call (.Name "enumerate" p) [a] [] pos) (wA X.K ta) := ⟨Di hg hm ha.h hs⟩
end
theorem Oj {J : It} {g : TG} {tb : TS} {D : Ends} {σ : St} {H : Hp} {R : It → Hp → Prop} (hR : R = (fun J H1 => ∃ W : Nat → Nat → St → Hp → Prop, (∃ m, W 0 m σ H1) ∧ ∀ i m σ H, W i m σ H →
  (J.stop i H ∧ D.nx σ H) ∨ (J.go i H ∧ ∃ N : St → Hp → Prop, (∀ σ' H', N σ' H' → ∃ m', m' < m ∧ W (i + 1) m' σ' H') ∧ ∀ x H', J.yld i H x H' → g x σ H' fun σ2 H2 => tb { D with nx := N, ct := N, bk := D.nx } σ2 H2)))
  (n : Nat) (Pv : Nat → St → Hp → Prop) (h0 : Pv 0 σ H) (hgo : ∀ i σ H, i < n → Pv i σ H → J.go i H) (hst : ∀ σ H, Pv n σ H → J.stop n H)
  (hs : ∀ i σ H x H3, i < n → Pv i σ H → J.yld i H x H3 → g x σ H3 fun σ2 H2 => tb { D with nx := Pv (i + 1), ct := Pv (i + 1), bk := D.nx } σ2 H2) (hd : ∀ σ H, Pv n σ H → D.nx σ H) : R J H := by
 subst hR
 refine ⟨fun i m σ H2 => m = n - i ∧ i ≤ n ∧ Pv i σ H2, ⟨_, rfl, Nat.zero_le _, h0⟩, ?_⟩
 rintro i m σ H2 ⟨rfl, hi, p⟩
 by_cases hlt : i < n
 ·exact .inr ⟨hgo i σ H2 hlt p, Pv (i + 1), fun σ' H' q => ⟨_, by omega, rfl, hlt, q⟩, fun x H3 y => hs i σ H2 x H3 hlt p y⟩
 ·have e : i = n := by omega
  subst e
  exact .inl ⟨hst σ H2 p, hd σ H2 p⟩
section
variable {X : Cx} {e o : Expr} {te to : TE} {pos : Pos}
end
mutual
def szD (a : Nat) : PyData → Prop
 | .none => True
 | .bool _ => True
 | .int i => i.natAbs ≤ 10 ^ 20 * 2 ^ a
 | .str x => x.length ≤ 30 + a ∧ ∀ c ∈ x.cps.toList, c < 16 ^ 8
 | .list ds => ds.length ≤ 210 * 5 ^ a ∧ tM a ds
 | .tuple ds => ds.length ≤ 210 * 5 ^ a ∧ tM a ds
 | .dict _ => False
def tM (a : Nat) : List PyData → Prop
 | [] => True
 | d :: ds => szD a d ∧ tM a ds
end
theorem yW {a : Nat} : ∀ {ds : List PyData}, tM a ds ↔ ∀ d ∈ ds, szD a d
 | [] => ⟨fun _ d h => (nomatch h), fun _ => trivial⟩
 | x :: ds => by
  show szD a x ∧ tM a ds ↔ _
  rw [yW (ds := ds)]
  constructor
  ·intro ⟨h1, h2⟩ d hd
   rcases List.mem_cons.mp hd with rfl | z
   ·exact h1
   ·exact h2 d z
  ·intro h
   exact ⟨h x List.mem_cons_self, fun d hd => h d (List.mem_cons_of_mem _ hd)⟩
structure Shw (d : PyData) : Prop where
 sh : d.showable = true
 nd : d.hasDict = false
 dp : d.depth ≤ 100
 ln : d.shown.length ≤ sizeLine
def Ly : List V → Hp → VK → Prop := fun xs H Q => ∃ v ok d, xs = [v] ∧ aR ok H v d ∧ Shw d ∧ Q (.str d.shown) H
theorem oO {X : Cx} (hg : X.A.guards = some []) (hu : X.A.units + 200 < cLine) : cO X (.builtin "repr") Ly := by
 intro pins s σ H xs us Q I r h
 obtain ⟨v, ok, d, rfl, t, ⟨sh, hd, hdp, hl⟩, q⟩ := h
 obtain ⟨u, rfl, rv⟩ := vals1 r
 have nodict : ∀ as : List Addr, d.hasDict = true → ¬ sysModules ∈ as := fun as z => by rw [hd] at z; cases z
 cases t with
 | non => cases rv; exact P.repr_of_none ⟨.str _, H, I.tok _, ⟨_, rfl⟩, q⟩
 | bl b => cases rv; exact P.repr_of_bool ⟨.str _, H, I.tok _, ⟨_, rfl⟩, q⟩
 | int i =>
  obtain ⟨t, rfl⟩ := rv
  exact P.repr_of_int (of_decide_eq_true sh) ⟨.str _, H, I.tok _, ⟨_, rfl⟩, q⟩
 | str x =>
  obtain ⟨t, rfl⟩ := rv
  exact P.repr_of_str ⟨.str _, H, I.tok _, ⟨_, rfl⟩, q⟩ hl
 | lst o e z t =>
  obtain ⟨as, rd⟩ := aR.reads I (aR.lst o e z t) rv
  cases rv
  exact repr_of_reads' rd sh (nodict as) hg (by omega) (fun _ _ z => z) (fun h' u tk k => ⟨.str _, H, I.kept k, ⟨_, rfl⟩, q⟩) hl
 | tup o e z t =>
  obtain ⟨as, rd⟩ := aR.reads I (aR.tup o e z t) rv
  cases rv
  exact repr_of_reads' rd sh (nodict as) hg (by omega) (fun _ _ z => z) (fun h' u tk k => ⟨.str _, H, I.kept k, ⟨_, rfl⟩, q⟩) hl
theorem lR {x : PyData} : ∀ {ds : List PyData}, x ∈ ds → x.depth ≤ PyData.depthAll ds
 | y :: ds, h => by
  rw [PyData.depthAll.eq_2]
  rcases List.mem_cons.mp h with rfl | z
  ·omega
  ·have := lR z; omega
theorem p8 {H H' : Hp} {l : Addr} {o : HO} (s : Same H H') (h : H l = none) : Same H (upd H' l o) := fun b u e => by
 rw [aJ (aB e h)]
 exact s b u e
section
variable {ok : Addr → Prop} {σ : St} {H0 : Hp}
end
section
variable {X : Cx} {a : Expr} {ta : TE}
def trq (ob : Option HO) (H : Hp) (Q : Bool → Hp → Prop) : Prop := match ob with
 | some (.lst xs) => Q (!xs.isEmpty) H
 | some (.tup xs) => Q (!xs.isEmpty) H
 | _ => False
def yQ (x : V) (H : Hp) (Q : Bool → Hp → Prop) : Prop := match x with
 | .ref p => trq (H p) H Q
 | .bl b => Q b H
 | .int i => Q (i != 0) H
 | .non => Q false H
 | _ => False
def Qo (te : TE) : TT := fun σ H Q => te σ H fun x H1 => yQ x H1 Q
theorem GK (te : TE) (σ : St) (H : Hp) (Q : Bool → Hp → Prop) : Qo te σ H Q = te σ H fun x H1 => yQ x H1 Q := rfl
theorem Bf (p : Addr) (H : Hp) (Q : Bool → Hp → Prop) : yQ (.ref p) H Q = trq (H p) H Q := rfl
theorem Bh (i : Int) (H : Hp) (Q : Bool → Hp → Prop) : yQ (.int i) H Q = Q (i != 0) H := rfl
theorem Gz (b : Bool) (H : Hp) (Q : Bool → Hp → Prop) : yQ (.bl b) H Q = Q b H := rfl
theorem Bg (H : Hp) (Q : Bool → Hp → Prop) : yQ .non H Q = Q false H := rfl
theorem GD (xs : List V) (H : Hp) (Q : Bool → Hp → Prop) : trq (some (.lst xs)) H Q = Q (!xs.isEmpty) H := rfl
theorem GC (xs : List V) (H : Hp) (Q : Bool → Hp → Prop) : trq (some (.tup xs)) H Q = Q (!xs.isEmpty) H := rfl
end
def rd6 := And.intro @GK (And.intro @Bf (And.intro @Bh (And.intro @Gz (And.intro @Bg (And.intro @GD @GC)))))
structure RowS (ss : List (Int × Int × Int)) : Prop where
 lh : ∀ (i : Nat) s, ss[i]? = some s → s.1 ≤ s.2.1 ∧ 0 ≤ s.2.2 ∧ s.2.2 ≤ 9
 nx : ∀ (i : Nat) s t, ss[i]? = some s → ss[i + 1]? = some t → t.1 = s.2.1 + 1
 bd : ∀ (i : Nat) s, ss[i]? = some s → -(10 ^ 12) ≤ s.1 ∧ s.2.1 ≤ 10 ^ 9 + (10 ^ 12 + 10) * (i + 1)
theorem Gn.shw {d : PyData} (t : Gn d) : Shw d := ⟨(qY d t.sm).1, (qY d t.sm).2, t.dp, t.len⟩
section
variable {κ : Type} [DecidableEq κ]
def tK (kvs : List (κ × V)) (k : κ) : Option V := (kvs.find? fun kv => decide (kv.1 = k)).map (·.2)
def putK (kvs : List (κ × V)) (k : κ) (v : V) : List (κ × V) :=
 if (kvs.any fun kv => decide (kv.1 = k)) = true then kvs.map (fun kv => if kv.1 = k then (kv.1, v) else kv) else kvs ++ [(k, v)]
theorem valV_pos {p : κ × V} {r : List (κ × V)} {k : κ} (e : p.1 = k) : tK (p :: r) k = some p.2 := by simp [tK, List.find?_cons, e]
theorem valV_neg {p : κ × V} {r : List (κ × V)} {k : κ} (e : ¬ p.1 = k) : tK (p :: r) k = tK r k := by simp [tK, List.find?_cons, e]
end
abbrev KT (H : Hp) : List (List Key × V) → List (List Key × Addr × Value) → Prop := Paired fun p q => p.1 = q.1 ∧ H q.2.1 = some (.tup (p.1.map kV)) ∧ RelV p.2 q.2.2
section
variable {P : Program} {w : World} {H : Hp} {h : Heap} {a : Addr}
end
def KN (H : Hp) (a : Addr) (y : V) (r : Option V) : Prop :=
 (∃ kvs k, Rd H a (.dK kvs) ∧ y = kV k ∧ r = tK kvs k) ∨ ∃ kvs k b, Rd H a (.dT kvs) ∧ y = .ref b ∧ H b = some (.tup (k.map kV)) ∧ r = tK kvs k
section
variable {X : Cx} {pins : List (Addr × Obj)} {σ : St} {H : Hp} {s : Shared} {a : Addr} {y v : V} {u r : Value} {o : Option V} {A : Around} {E : Value → Shared → Prop}
end
section
variable {X : Cx} {pins : List (Addr × Obj)} {σ : St} {H : Hp} {s : Shared} {a : Addr} {kvs : List (Key × V)} {k : Key} {u : Value} {A : Around} {E : Value → Shared → Prop}
end
section
variable {X : Cx} {o i e value : Expr} {pos pos' tpos : Pos} {td ty tv : TE}
end
section
variable {X : Cx} {pos : Pos}
end
def qQ : List (TE × TE) → St → Hp → (List (V × V) → Hp → Prop) → Prop
 | [], _, H, Q => Q [] H
 | (tk, tv) :: r, σ, H, Q => tk σ H fun x H1 => tv σ H1 fun y H2 => qQ r σ H2 fun ps H3 => Q ((x, y) :: ps) H3
def Nt (kvs more : List (Key × V)) : List (Key × V) := more.foldl (fun acc kv => putK acc kv.1 kv.2) kvs
def O6 (trs : List (TE × TE)) : TE := fun σ H Q => ∀ p, H p = none → qQ trs σ (upd H p (.dK [])) fun ps H2 => H2 p = some (.dK []) ∧ ∃ kvs : List (Key × V), ps = kvs.map (fun kv => (kV kv.1, kv.2)) ∧ kvs.length ≤ 15 ∧ Q (.ref p) (upd H2 p (.dK (Nt [] kvs)))
def IsD (H : Hp) (a : Addr) : Prop := (∃ kvs, Rd H a (.dK kvs)) ∨ ∃ kvs, Rd H a (.dT kvs)
section
variable {X : Cx} {pins : List (Addr × Obj)} {σ : St} {H : Hp} {s : Shared} {a : Addr} {y d : V} {u r : Value} {o : Option V} {A : Around} {E : Value → Shared → Prop}
end
def Lq (td ty tx : TE) : TE := fun σ H Q => td σ H fun x H1 => ∃ a, x = .ref a ∧ IsD H1 a ∧ ty σ H1 fun y H2 => tx σ H2 fun z H3 => ∃ o, KN H3 a y o ∧ Q (o.getD z) H3
section
variable {X : Cx} {o e f : Expr} {apos cpos : Pos} {td ty tx : TE}
end
section
variable {X : Cx} {pins : List (Addr × Obj)} {σ : St} {H : Hp} {s : Shared} {a : Addr} {kvs : List (Key × V)} {A : Around} {E : Value → Shared → Prop}
end
section
variable {X : Cx} {pins : List (Addr × Obj)} {σ : St} {H : Hp} {s : Shared} {a : Addr} {y : V} {u : Value} {A : Around} {E : Value → Shared → Prop}
end
section
variable {X : Cx} {pos : Pos}
end
def BX (w : Str) : List Int → Bool
 | [a] => decide (w = "pick") && decide (0 ≤ a)
 | [_, _] => decide (w = "is") || decide (w = "below")
 | [a, b, _] => decide (w = "within") && decide (a ≤ b)
 | [_, wd, bits, _] => decide (w = "mask") && ((decide (1 ≤ wd) && decide (wd ≤ 64)) && (decide (0 ≤ bits) && decide (bits < 2 ^ wd.toNat)))
 | _ => false
def K5 (is : List Int) : List Int := match is.getLast? with
 | some t => [t]
 | none => []
def Fj (w : Str) (is : List Int) : List Int := if w = "pick" then [] else K5 is
def btw (own many : Int) (t : Int) : Bool := decide (own < t) && decide (t < many)
def rd7 := And.intro @O6.eq_1 (And.intro @qQ.eq_1 (And.intro @qQ.eq_2 @Lq.eq_1))
theorem wB {w : Str} {is : List Int} {t : Int} (h : w ≠ "pick") (hl : is.getLast? = some t) : Fj w is = [t] := by
 unfold Fj K5
 rw [if_neg h, hl]
theorem Qh {K : PySem.W.Frag} {a : Addr} {xs : List V} {g : TG} {tb : TS} {D : Ends} {σ : St} {H : Hp} {R : It → Hp → Prop} (hR : R = (fun J H1 => ∃ W : Nat → Nat → St → Hp → Prop, (∃ m, W 0 m σ H1) ∧ ∀ i m σ H, W i m σ H →
  (J.stop i H ∧ D.nx σ H) ∨ (J.go i H ∧ ∃ N : St → Hp → Prop, (∀ σ' H', N σ' H' → ∃ m', m' < m ∧ W (i + 1) m' σ' H') ∧ ∀ x H', J.yld i H x H' → g x σ H' fun σ2 H2 => tb { D with nx := N, ct := N, bk := D.nx } σ2 H2)))
  (Pv : Nat → St → Hp → Prop) (h0 : Pv 0 σ H) (hl : ∀ i σ H, Pv i σ H → H a = some (.lst xs))
  (hs : ∀ (i : Nat) x σ H p, xs[i]? = some x → Pv i σ H → H p = none → g (.ref p) σ (upd H p (.tup [.int (i : Nat), x])) fun σ2 H2 => tb { D with nx := Pv (i + 1), ct := Pv (i + 1), bk := D.nx } σ2 H2) (hd : ∀ σ H, Pv xs.length σ H → D.nx σ H) : R (Ite K a) H := by
 refine Oj hR xs.length Pv h0 (fun i σ H hi p => ?_) (fun σ H p => ?_) (fun i σ H x H3 hi p y => ?_) hd
 ·exact ⟨xs, _, SqL.of (hl i σ H p), List.getElem?_eq_getElem hi⟩
 ·exact ⟨xs, SqL.of (hl _ σ H p), List.getElem?_eq_none (Nat.le_refl _)⟩
 ·obtain ⟨q, x1, rfl, hq, rfl, hx⟩ := y
  exact hs i x1 σ H q (hx _ (SqL.of (hl i σ H p))) p hq
theorem Same.none {H H' : Hp} (s : Same H H') {p : Addr} (h : H' p = none) : H p = none := by
 cases e : H p with
 | none => rfl
 | some o => rw [s _ _ e] at h; cases h
inductive QM where
 | ins (w : Str) (is : List Int)
 | tab (n : Int) (gs : List Int)
def Qm (many own : Int) : QM → Prop
 | .ins w is => w ≠ "table" ∧ BX w is = true ∧ (Fj w is).all (btw own many) = true ∧ (∀ i ∈ is, i.natAbs ≤ 2 ^ 64) ∧ is.length ≤ 4 ∧ w.length ≤ 10
 | .tab n gs => gs ≠ [] ∧ gs.length ≤ 200 ∧ gs.all (btw own many) = true ∧ n.natAbs ≤ 1000
mutual
def szB : PyData → Bool
 | .none => true
 | .bool _ => true
 | .int i => decide (i.natAbs ≤ 10 ^ 20)
 | .str x => decide (x.length ≤ 30) && x.cps.toList.all fun c => decide (c < 16 ^ 8)
 | .list ds => decide (ds.length ≤ 210) && Ls ds
 | .tuple ds => decide (ds.length ≤ 210) && Ls ds
 | .dict _ => false
def Ls : List PyData → Bool
 | [] => true
 | d :: ds => szB d && Ls ds
end
structure Od (d : PyData) : Prop where
 sz : szD 2 d
 nd : nodes d ≤ 300
 dp : d.depth ≤ 90
structure Sm5 (d : PyData) : Prop where
 sz : szD 0 d
 nd : nodes d ≤ 5
 dp : d.depth ≤ 2
theorem nJ {prog : Program} {w : World} {A : Around} {E : Value → Shared → Prop} {s : Shared} {z TI TO i1 i2 l1 l2 : Addr} {k1 k2 : Nat} {xs ys : Array Value} {x y a b : Value} {Q : Value → Shared → Prop} (D : ZipApart z TI TO i1 i2 l1 l2) (hz : IsZip s.heap z TI TO Value.none) (hTI : IsPair s.heap TI (Value.ref i1) (Value.ref i2)) (hTO : IsPair s.heap TO a b)
  (h1 : s.heap.IsTupleIter i1 l1 k1) (h2 : s.heap.IsTupleIter i2 l2 k2) (hl1 : s.heap.IsTuple l1 xs) (hl2 : s.heap.IsTuple l2 ys) (hx : xs[k1]? = some x) (hy : ys[k2]? = some y)
  (hQ : ∀ h' : Heap, IsZip h' z TI TO (rawInt s.heap.objs.size) → IsPair h' TO x y → h'.IsTupleIter i1 l1 (k1 + 1) → h'.IsTupleIter i2 l2 (k2 + 1) → IsPair h' s.heap.objs.size x y → h'.objs.size = s.heap.objs.size + 1 → (∀ c o, c ≠ z → c ≠ TO → c ≠ i1 → c ≠ i2 → s.heap.get? c = some o → h'.get? c = some o) → Q (Value.ref s.heap.objs.size) { s with heap := h' }) :
  wpAny (model prog w) A (Builtin.«zip.__next__» { pos := [Value.ref z] }) (fun fin s' => ∃ v, fin = Fin.done (Flow.ret v) ∧ Q v s') E s := by
 show wpAny _ _ (field (Value.ref z) 2 >>= _) _ _ _
 refine wpAny_bind (wpAny_field hz rfl rfl ?_)
 show wpAny _ _ (field (Value.ref z) 3 >>= _) _ _ _
 refine wpAny_bind (wpAny_field hz rfl rfl ?_)
 refine wpAny_bind (wpAny_seqItems hTI rfl ?_)
 show wpAny _ _ (Builtin.SmallTypes.ownedTupleIsFree (Value.ref z) >>= _) _ _ _
 refine wpAny_bind ?_
 show wpAny _ _ (field (Value.ref z) 0 >>= _) _ _ _
 refine wpAny_bind (wpAny_field hz rfl rfl (wpAny_pure ?_))
 show wpAny _ _ (rule _ >>= _) _ _ _
 refine wpAny_bind (wpAny_rule (wpAny_bind (wpAny_field hz rfl rfl ?_)))
 show wpAny _ _ (setField (Value.ref z) 0 Value.ellipsis >>= _) _ _ _
 refine wpAny_bind (wpAny_setField_rec hz (Nat.lt_of_sub_pos (Nat.zero_lt_succ 4)) fun h₁ hz₁ hs₁ => ?_)
 have old1 : ∀ c o, c ≠ z → s.heap.get? c = some o → h₁.get? c = some o := fun c o hc e => (hs₁.2 c hc).trans e
 have h1a : h₁.IsTupleIter i1 l1 k1 := h1.at fun o e => old1 i1 o D.i1z e
 have h2a : h₁.IsTupleIter i2 l2 k2 := h2.at fun o e => old1 i2 o D.i2z e
 have tup : ∀ {h : Heap} {l : Addr} {vs : Array Value}, s.heap.IsTuple l vs → (∀ o, s.heap.get? l = some o → h.get? l = some o) → h.IsTuple l vs := fun ⟨o, e, r⟩ k => ⟨o, k o e, r⟩
 refine wpAny_bind ?_
 show wpAny _ _ (forIn [(Value.ref i1, 0), (Value.ref i2, 1)] (none, ()) _) _ _ _
 rw [List.forIn_cons]
 refine wpAny_bind ?_
 show wpAny _ _ ((Sem.onRaise (Builtin.SmallTypes.nextOf (Value.ref i1) >>= fun v => pure (some v)) (fun _ => setField (Value.ref z) 0 Value.none)) >>= _) _ _ _
 refine wpAny_bind (wpAny_onRaise (wpAny_bind (cV (s := { s with heap := h₁ }) h1a (tup hl1 fun o e => old1 l1 o D.l1z e) hx fun h₂ h1b sb₂ => wpAny_pure ?_)))
 have old2 : ∀ c o, c ≠ z → c ≠ i1 → s.heap.get? c = some o → h₂.get? c = some o := fun c o hc hc1 e => (sb₂.2 c hc1).trans (old1 c o hc e)
 have hTO2 : IsPair h₂ TO a b := old2 TO _ D.TOz D.TOi1 hTO
 show wpAny _ _ (seqItems? (Value.ref TO) >>= _) _ _ _
 refine wpAny_bind (wpAny_seqItems (s := { s with heap := h₂ }) hTO2 rfl ?_)
 show wpAny _ _ (updateSeq TO _ >>= _) _ _ _
 refine wpAny_bind (wpAny_updateSeq_pair (s := { s with heap := h₂ }) hTO2 fun h₃ g₃ sb₃ => ?_)
 refine wpAny_bind (wpAny_letGo (wpAny_pure ?_))
 show wpAny _ _ (forIn [(Value.ref i2, 1)] (none, ()) _) _ _ _
 rw [List.forIn_cons]
 refine wpAny_bind ?_
 have old3 : ∀ c o, c ≠ z → c ≠ i1 → c ≠ TO → s.heap.get? c = some o → h₃.get? c = some o := fun c o hc hc1 hc2 e => (sb₃.2 c hc2).trans (old2 c o hc hc1 e)
 have h2c : h₃.IsTupleIter i2 l2 k2 := h2.at fun o e => old3 i2 o D.i2z (Ne.symm D.i12) (Ne.symm D.TOi2) e
 have g₃' : IsPair h₃ TO x b := g₃
 show wpAny _ _ ((Sem.onRaise (Builtin.SmallTypes.nextOf (Value.ref i2) >>= fun v => pure (some v)) (fun _ => setField (Value.ref z) 0 Value.none)) >>= _) _ _ _
 refine wpAny_bind (wpAny_onRaise (wpAny_bind (cV (s := { s with heap := h₃ }) h2c (tup hl2 fun o e => old3 l2 o D.l2z D.l2i1 D.l2TO e) hy fun h₄ h2d sb₄ => wpAny_pure ?_)))
 have hTO4 : IsPair h₄ TO x b := (sb₄.2 TO D.TOi2).trans g₃'
 show wpAny _ _ (seqItems? (Value.ref TO) >>= _) _ _ _
 refine wpAny_bind (wpAny_seqItems (s := { s with heap := h₄ }) hTO4 rfl ?_)
 show wpAny _ _ (updateSeq TO _ >>= _) _ _ _
 refine wpAny_bind (wpAny_updateSeq_pair (s := { s with heap := h₄ }) hTO4 fun h₅ g₅ sb₅ => ?_)
 refine wpAny_bind (wpAny_letGo (wpAny_pure ?_))
 have g₅' : IsPair h₅ TO x y := g₅
 show wpAny _ _ (forIn [] (none, ()) _) _ _ _
 rw [List.forIn_nil]
 refine wpAny_pure ?_
 show wpAny _ _ (seqItems? (Value.ref TO) >>= _) _ _ _
 refine wpAny_bind (wpAny_seqItems (s := { s with heap := h₅ }) g₅' rfl ?_)
 show wpAny _ _ (newTuple [x, y] >>= _) _ _ _
 refine wpAny_bind (wpAny_newTuple ?_ (by show 2 ≤ sizeLine; decide))
 have sz : h₅.objs.size = s.heap.objs.size := by
  rw [sb₅.1, sb₄.1, sb₃.1, sb₂.1, hs₁.1]
 have z5 : h₅.get? z = _ := (sb₅.2 z (Ne.symm D.TOz)).trans ((sb₄.2 z (Ne.symm D.i2z)).trans ((sb₃.2 z (Ne.symm D.TOz)).trans ((sb₂.2 z (Ne.symm D.i1z)).trans hz₁)))
 have z6 : (h₅.push { cls := Value.type "tuple", data := Data.seq #[x, y] }).get? z = _ := Heap.get?_push_of_some _ z5
 refine wpAny_bind ?_
 show wpAny _ _ (setField (Value.ref z) 0 (rawInt h₅.objs.size) >>= fun _ => setField (Value.ref z) 1 (Value.bool false)) _ _ _
 refine wpAny_bind (wpAny_setField_rec (s := { s with heap := h₅.push { cls := Value.type "tuple", data := Data.seq #[x, y] } }) z6 (Nat.lt_of_sub_pos (Nat.zero_lt_succ 4)) fun h₇ hz₇ hs₇ => ?_)
 refine wpAny_setField_rec (s := { s with heap := h₇ }) hz₇ (Nat.lt_of_sub_pos (Nat.zero_lt_succ 3)) fun h₈ hz₈ hs₈ => ?_
 have nzs : s.heap.objs.size ≠ z := fun q => by
  have := Heap.lt_size hz
  rw [← q] at this
  exact Nat.lt_irrefl _ this
 have old6 : ∀ c o, h₅.get? c = some o → (h₅.push { cls := Value.type "tuple", data := Data.seq #[x, y] }).get? c = some o := fun c o e => Heap.get?_push_of_some _ e
 have old8 : ∀ c o, c ≠ z → h₅.get? c = some o → h₈.get? c = some o := fun c o hc e => (hs₈.2 c hc).trans ((hs₇.2 c hc).trans (old6 c o e))
 have new8 : h₈.get? s.heap.objs.size = some { cls := Value.type "tuple", data := Data.seq #[x, y] } := by
  refine (hs₈.2 _ nzs).trans ((hs₇.2 _ nzs).trans ?_)
  show (h₅.push { cls := Value.type "tuple", data := Data.seq #[x, y] }).get? s.heap.objs.size = _
  rw [← sz]
  exact Heap.get?_push_size _ rfl
 refine wpAny_pure ⟨_, rfl, ?_⟩
 rw [show (({ s with heap := h₅ } : Shared).heap.objs.size) = s.heap.objs.size from sz]
 refine hQ h₈ ?_ ?_ ?_ ?_ new8 ?_ ?_
 ·rw [sz] at hz₈
  exact hz₈
 ·exact old8 TO _ D.TOz g₅'
 ·refine h1b.at fun o e => old8 i1 o D.i1z ?_
  exact (sb₅.2 i1 (Ne.symm D.TOi1)).trans ((sb₄.2 i1 D.i12).trans ((sb₃.2 i1 (Ne.symm D.TOi1)).trans e))
 ·refine h2d.at fun o e => old8 i2 o D.i2z ?_
  exact (sb₅.2 i2 (Ne.symm D.TOi2)).trans e
 ·rw [hs₈.1, hs₇.1]
  show (h₅.push { cls := Value.type "tuple", data := Data.seq #[x, y] }).objs.size = _
  rw [Heap.size_push, sz]
 ·intro c o hc1 hc2 hc3 hc4 e
  exact old8 c o hc1 ((sb₅.2 c hc2).trans ((sb₄.2 c hc4).trans (old3 c o hc1 hc3 hc2 e)))
theorem jb {prog : Program} {w : World} {A : Around} {E : Value → Shared → Prop} {s : Shared} {z TI TO i1 i2 l1 l2 : Addr} {k1 k2 : Nat} {xs ys : Array Value} {x y a b : Value} {Q : Option Value → Shared → Prop} (D : ZipApart z TI TO i1 i2 l1 l2) (hz : IsZip s.heap z TI TO Value.none) (hTI : IsPair s.heap TI (Value.ref i1) (Value.ref i2)) (hTO : IsPair s.heap TO a b)
  (h1 : s.heap.IsTupleIter i1 l1 k1) (h2 : s.heap.IsTupleIter i2 l2 k2) (hl1 : s.heap.IsTuple l1 xs) (hl2 : s.heap.IsTuple l2 ys) (hx : xs[k1]? = some x) (hy : ys[k2]? = some y)
  (hQ : ∀ h' : Heap, IsZip h' z TI TO (rawInt s.heap.objs.size) → IsPair h' TO x y → h'.IsTupleIter i1 l1 (k1 + 1) → h'.IsTupleIter i2 l2 (k2 + 1) → IsPair h' s.heap.objs.size x y → h'.objs.size = s.heap.objs.size + 1 → (∀ c o, c ≠ z → c ≠ TO → c ≠ i1 → c ≠ i2 → s.heap.get? c = some o → h'.get? c = some o) → Q (some (Value.ref s.heap.objs.size)) { s with heap := h' }) :
  wpAny (model prog w) A (pyNext (Value.ref z)) Q E s := by
 have hT : ∃ o, s.heap.get? z = some o ∧ o.cls = Value.type "zip" := ⟨_, hz, rfl⟩
 exact wpAny_bind (wpAny_attempt (wpAny_callSpecial?_slot hT F.slot_zip_next (wpAny_call_entry F.slot_zip_next hT F.entry_zip_next
  (nJ D hz hTI hTO h1 h2 hl1 hl2 hx hy fun h' a1 a2 a3 a4 a5 a6 a7 => wpAny_pure (hQ h' a1 a2 a3 a4 a5 a6 a7)) (F.args_zip_next_1 (Value.ref z)))))
theorem oX {prog : Program} {w : World} {A : Around} {E : Value → Shared → Prop} {s : Shared} {z TI TO i1 i2 l1 l2 : Addr} {k1 k2 : Nat} {xs ys : Array Value} {a b : Value} {Q : PySem.Fin → Shared → Prop} (hh : A.handled = none) (D : ZipApart z TI TO i1 i2 l1 l2) (hz : IsZip s.heap z TI TO Value.none) (hTI : IsPair s.heap TI (Value.ref i1) (Value.ref i2)) (hTO : IsPair s.heap TO a b)
  (h1 : s.heap.IsTupleIter i1 l1 k1) (h2 : s.heap.IsTupleIter i2 l2 k2) (hl1 : s.heap.IsTuple l1 xs) (hl2 : s.heap.IsTuple l2 ys) (hend : xs[k1]? = none ∨ ys[k2]? = none)
  (hE : ∀ (h' : Heap) (e : Addr), (∀ c o, c ≠ z → c ≠ TO → c ≠ i1 → c ≠ i2 → s.heap.get? c = some o → h'.get? c = some o) → (∃ o, h'.get? e = some o ∧ o.cls = Value.type "StopIteration") → E (Value.ref e) { s with heap := h' }) :
  wpAny (model prog w) A (Builtin.«zip.__next__» { pos := [Value.ref z] }) Q E s := by
 show wpAny _ _ (field (Value.ref z) 2 >>= _) _ _ _
 refine wpAny_bind (wpAny_field hz rfl rfl ?_)
 show wpAny _ _ (field (Value.ref z) 3 >>= _) _ _ _
 refine wpAny_bind (wpAny_field hz rfl rfl ?_)
 refine wpAny_bind (wpAny_seqItems hTI rfl ?_)
 show wpAny _ _ (Builtin.SmallTypes.ownedTupleIsFree (Value.ref z) >>= _) _ _ _
 refine wpAny_bind ?_
 show wpAny _ _ (field (Value.ref z) 0 >>= _) _ _ _
 refine wpAny_bind (wpAny_field hz rfl rfl (wpAny_pure ?_))
 show wpAny _ _ (rule _ >>= _) _ _ _
 refine wpAny_bind (wpAny_rule (wpAny_bind (wpAny_field hz rfl rfl ?_)))
 show wpAny _ _ (setField (Value.ref z) 0 Value.ellipsis >>= _) _ _ _
 refine wpAny_bind (wpAny_setField_rec hz (Nat.lt_of_sub_pos (Nat.zero_lt_succ 4)) fun h₁ hz₁ hs₁ => ?_)
 have old1 : ∀ c o, c ≠ z → s.heap.get? c = some o → h₁.get? c = some o := fun c o hc e => (hs₁.2 c hc).trans e
 have h1a : h₁.IsTupleIter i1 l1 k1 := h1.at fun o e => old1 i1 o D.i1z e
 have tup : ∀ {h : Heap} {l : Addr} {vs : Array Value}, s.heap.IsTuple l vs → (∀ o, s.heap.get? l = some o → h.get? l = some o) → h.IsTuple l vs := fun ⟨o, e, r⟩ k => ⟨o, k o e, r⟩
 have out : ∀ {h : Heap} {e : Addr} {vs : Array Value}, h.get? z = some { cls := Value.type "zip", data := Data.fields vs } → 0 < vs.size → (∀ c o, c ≠ z → c ≠ TO → c ≠ i1 → c ≠ i2 → s.heap.get? c = some o → h.get? c = some o) → (∃ o, h.get? e = some o ∧ o.cls = Value.type "StopIteration") →
   wpAny (model prog w) A (setField (Value.ref z) 0 Value.none) (fun _ s'' => E (Value.ref e) s'') E { s with heap := h } := fun {h e vs} ez hv hk he => by
  refine wpAny_setField_rec (s := { s with heap := h }) ez hv fun h' _ hs => hE h' e (fun c o c1 c2 c3 c4 g => (hs.2 c c1).trans (hk c o c1 c2 c3 c4 g)) ?_
  obtain ⟨o, ho, hc⟩ := he
  refine ⟨o, (hs.2 e fun q => ?_).trans ho, hc⟩
  rw [q, ez] at ho
  cases ho
  injection hc with hc
  exact absurd hc (by decide)
 refine wpAny_bind ?_
 show wpAny _ _ (forIn [(Value.ref i1, 0), (Value.ref i2, 1)] (none, ()) _) _ _ _
 rw [List.forIn_cons]
 refine wpAny_bind ?_
 show wpAny _ _ ((Sem.onRaise (Builtin.SmallTypes.nextOf (Value.ref i1) >>= fun v => pure (some v)) (fun _ => setField (Value.ref z) 0 Value.none)) >>= _) _ _ _
 cases hx : xs[k1]? with
 | none =>
  refine wpAny_bind (wpAny_onRaise (wpAny_bind (fB (s := { s with heap := h₁ }) hh h1a (tup hl1 fun o e => old1 l1 o D.l1z e) hx fun h₂ e ext he => ?_)))
  exact out (h := h₂) (ext z _ (Ne.symm D.i1z) hz₁) (Nat.lt_of_sub_pos (Nat.zero_lt_succ 4)) (fun c o c1 c2 c3 c4 g => ext c o c3 (old1 c o c1 g)) he
 | some x =>
  have hy : ys[k2]? = none := by
   rcases hend with q | q
   ·rw [hx] at q; cases q
   ·exact q
  refine wpAny_bind (wpAny_onRaise (wpAny_bind (cV (s := { s with heap := h₁ }) h1a (tup hl1 fun o e => old1 l1 o D.l1z e) hx fun h₂ h1b sb₂ => wpAny_pure ?_)))
  have old2 : ∀ c o, c ≠ z → c ≠ i1 → s.heap.get? c = some o → h₂.get? c = some o := fun c o hc hc1 e => (sb₂.2 c hc1).trans (old1 c o hc e)
  have hTO2 : IsPair h₂ TO a b := old2 TO _ D.TOz D.TOi1 hTO
  show wpAny _ _ (seqItems? (Value.ref TO) >>= _) _ _ _
  refine wpAny_bind (wpAny_seqItems (s := { s with heap := h₂ }) hTO2 rfl ?_)
  show wpAny _ _ (updateSeq TO _ >>= _) _ _ _
  refine wpAny_bind (wpAny_updateSeq_pair (s := { s with heap := h₂ }) hTO2 fun h₃ g₃ sb₃ => ?_)
  refine wpAny_bind (wpAny_letGo (wpAny_pure ?_))
  show wpAny _ _ (forIn [(Value.ref i2, 1)] (none, ()) _) _ _ _
  rw [List.forIn_cons]
  refine wpAny_bind ?_
  have old3 : ∀ c o, c ≠ z → c ≠ i1 → c ≠ TO → s.heap.get? c = some o → h₃.get? c = some o := fun c o hc hc1 hc2 e => (sb₃.2 c hc2).trans (old2 c o hc hc1 e)
  have h2c : h₃.IsTupleIter i2 l2 k2 := h2.at fun o e => old3 i2 o D.i2z (Ne.symm D.i12) (Ne.symm D.TOi2) e
  have z3 : h₃.get? z = _ := (sb₃.2 z (Ne.symm D.TOz)).trans ((sb₂.2 z (Ne.symm D.i1z)).trans hz₁)
  show wpAny _ _ ((Sem.onRaise (Builtin.SmallTypes.nextOf (Value.ref i2) >>= fun v => pure (some v)) (fun _ => setField (Value.ref z) 0 Value.none)) >>= _) _ _ _
  refine wpAny_bind (wpAny_onRaise (wpAny_bind (fB (s := { s with heap := h₃ }) hh h2c (tup hl2 fun o e => old3 l2 o D.l2z D.l2i1 D.l2TO e) hy fun h₄ e ext he => ?_)))
  exact out (h := h₄) (ext z _ (Ne.symm D.i2z) z3) (Nat.lt_of_sub_pos (Nat.zero_lt_succ 4)) (fun c o c1 c2 c3 c4 g => ext c o c4 (old3 c o c1 c3 c2 g)) he
theorem jo {prog : Program} {w : World} {A : Around} {E : Value → Shared → Prop} {s : Shared} {z TI TO i1 i2 l1 l2 : Addr} {k1 k2 : Nat} {xs ys : Array Value} {a b : Value} {Q : Option Value → Shared → Prop} (hh : A.handled = none) (D : ZipApart z TI TO i1 i2 l1 l2) (hz : IsZip s.heap z TI TO Value.none) (hTI : IsPair s.heap TI (Value.ref i1) (Value.ref i2)) (hTO : IsPair s.heap TO a b)
  (h1 : s.heap.IsTupleIter i1 l1 k1) (h2 : s.heap.IsTupleIter i2 l2 k2) (hl1 : s.heap.IsTuple l1 xs) (hl2 : s.heap.IsTuple l2 ys) (hend : xs[k1]? = none ∨ ys[k2]? = none)
  (hQ : ∀ h' : Heap, (∀ c o, c ≠ z → c ≠ TO → c ≠ i1 → c ≠ i2 → s.heap.get? c = some o → h'.get? c = some o) → Q none { s with heap := h' }) : wpAny (model prog w) A (pyNext (Value.ref z)) Q E s := by
 have hT : ∃ o, s.heap.get? z = some o ∧ o.cls = Value.type "zip" := ⟨_, hz, rfl⟩
 exact wpAny_bind (wpAny_attempt (wpAny_callSpecial?_slot hT F.slot_zip_next (wpAny_call_entry F.slot_zip_next hT F.entry_zip_next
  (oX hh D hz hTI hTO h1 h2 hl1 hl2 hend fun h' e hk he => by
   obtain ⟨o, ho, hc⟩ := he
   exact wpAny_bind (wpAny_isInstance ⟨o, ho, hc⟩ isSubtype_stop (wpAny_pure (hQ h' hk)))) (F.args_zip_next_1 (Value.ref z)))))
def tz1 (h : Heap) (l1 : Addr) : Heap := h.push { cls := Value.type "tuple_iterator", data := Data.fields #[Value.ref l1, Value.int 0 0] }
def tz2 (h : Heap) (l1 l2 : Addr) : Heap := (tz1 h l1).push { cls := Value.type "tuple_iterator", data := Data.fields #[Value.ref l2, Value.int 0 0] }
def tz3 (h : Heap) (l1 l2 : Addr) : Heap := (tz2 h l1 l2).push { cls := Value.type "tuple", data := Data.seq #[Value.ref h.objs.size, Value.ref (tz1 h l1).objs.size] }
def tz4 (h : Heap) (l1 l2 : Addr) : Heap := (tz3 h l1 l2).push { cls := Value.type "tuple", data := Data.seq #[Value.none, Value.none] }
def tz5 (h : Heap) (l1 l2 : Addr) : Heap := (tz4 h l1 l2).push { cls := Value.type "zip", data := Data.fields #[Value.none, Value.bool false, Value.bool false, Value.ref (tz2 h l1 l2).objs.size, Value.ref (tz3 h l1 l2).objs.size] }
theorem Ax (l1 l2 : Addr) (xs ys : Array Value) : Meets (Builtin.«zip.__new__» { pos := [Value.type "zip", Value.ref l1, Value.ref l2] }) fun _ R s =>
  s.heap.IsTuple l1 xs ∧ s.heap.IsTuple l2 ys ∧ R (.ok (.ret (.ref (tz4 s.heap l1 l2).objs.size))) { s with heap := tz5 s.heap l1 l2 } := by
 refine Meets.of_wp fun prog w A R s h => ?_
 obtain ⟨ht1, ht2, hR⟩ := h
 unfold Builtin.«zip.__new__» Builtin.SmallTypes.newClass
 refine wpAny_bind (wpAny_bind (wpAny_pure (wpAny_ite_false rfl (wpAny_bind (wpAny_of_eq sub_zip (wpAny_ite_false rfl (wpAny_pure ?_)))))))
 show wpAny _ _ (Builtin.SmallTypes.iterAll [Value.ref l1, Value.ref l2] >>= _) _ _ _
 refine wpAny_bind ?_
 unfold Builtin.SmallTypes.iterAll
 refine wpAny_bind ?_
 rw [List.forIn_cons]
 refine wpAny_bind (wpAny_bind (wpAny_holding (wpAny_pyIter_tuple ht1 (wpAny_pure ?_))))
 show wpAny _ _ (forIn [Value.ref l2] #[Value.ref s.heap.objs.size] _) _ _ _
 rw [List.forIn_cons]
 have ht2' : (tz1 s.heap l1).IsTuple l2 ys := by
  obtain ⟨o, e, r⟩ := ht2
  exact ⟨o, Heap.get?_push_of_some _ e, r⟩
 refine wpAny_bind (wpAny_bind (wpAny_holding (wpAny_pyIter_tuple (s := { s with heap := tz1 s.heap l1 }) ht2' (wpAny_pure ?_))))
 show wpAny _ _ (forIn [] #[Value.ref s.heap.objs.size, Value.ref (tz1 s.heap l1).objs.size] _) _ _ _
 rw [List.forIn_nil]
 refine wpAny_pure (wpAny_pure ?_)
 show wpAny _ _ (newTuple [Value.ref s.heap.objs.size, Value.ref (tz1 s.heap l1).objs.size] >>= _) _ _ { s with heap := tz2 s.heap l1 l2 }
 refine wpAny_bind (wpAny_newTuple ?_ (by show 2 ≤ sizeLine; decide))
 show wpAny _ _ (newTuple [Value.none, Value.none] >>= _) _ _ { s with heap := tz3 s.heap l1 l2 }
 refine wpAny_bind (wpAny_newTuple ?_ (by show 2 ≤ sizeLine; decide))
 show wpAny _ _ (newObj (.type "zip") (.fields #[.none, .bool false, .bool false, .ref (tz2 s.heap l1 l2).objs.size, .ref (tz3 s.heap l1 l2).objs.size]) >>= fun r => ret r) _ _ { s with heap := tz4 s.heap l1 l2 }
 refine wpAny_bind (wpAny_newObj_type ?_)
 exact wpAny_pure ⟨_, rfl, hR⟩
theorem u0 {prog : Program} {w : World} {A : Around} {E : Value → Shared → Prop} {s : Shared} {l1 l2 : Addr} {xs ys : Array Value} {Q : Value → Shared → Prop} (hl1 : s.heap.IsTuple l1 xs) (hl2 : s.heap.IsTuple l2 ys)
  (h : ∀ h' : Heap, IsZip h' (s.heap.objs.size + 4) (s.heap.objs.size + 2) (s.heap.objs.size + 3) Value.none → IsPair h' (s.heap.objs.size + 2) (Value.ref s.heap.objs.size) (Value.ref (s.heap.objs.size + 1)) → IsPair h' (s.heap.objs.size + 3) Value.none Value.none → h'.IsTupleIter s.heap.objs.size l1 0 → h'.IsTupleIter (s.heap.objs.size + 1) l2 0 →
   h'.objs.size = s.heap.objs.size + 5 → (∀ c o, s.heap.get? c = some o → h'.get? c = some o) → Q (Value.ref (s.heap.objs.size + 4)) { s with heap := h' }) : wpAny (model prog w) A (call (Value.type "zip") [Value.ref l1, Value.ref l2]) Q E s := by
 refine callType_new F.called_zip (by decide) (F.typeCall_zip_2 _ _) (F.newCall_zip_2 _ _) (fun obj => F.args_object_init_3 obj _ _) F.entry_zip_new (Ax l1 l2 xs ys) ⟨hl1, hl2, ?_⟩
 have z1 : (tz1 s.heap l1).objs.size = s.heap.objs.size + 1 := Heap.size_push ..
 have z2 : (tz2 s.heap l1 l2).objs.size = s.heap.objs.size + 2 := (Heap.size_push ..).trans (by rw [z1])
 have z3 : (tz3 s.heap l1 l2).objs.size = s.heap.objs.size + 3 := (Heap.size_push ..).trans (by rw [z2])
 have z4 : (tz4 s.heap l1 l2).objs.size = s.heap.objs.size + 4 := (Heap.size_push ..).trans (by rw [z3])
 have z5 : (tz5 s.heap l1 l2).objs.size = s.heap.objs.size + 5 := (Heap.size_push ..).trans (by rw [z4])
 have g5 : (tz5 s.heap l1 l2).get? (tz4 s.heap l1 l2).objs.size = _ := Heap.get?_push_size _ rfl
 have g4 : (tz5 s.heap l1 l2).get? (tz3 s.heap l1 l2).objs.size = _ := Heap.get?_push_of_some _ (Heap.get?_push_size _ rfl)
 have g3 : (tz5 s.heap l1 l2).get? (tz2 s.heap l1 l2).objs.size = _ := Heap.get?_push_of_some _ (Heap.get?_push_of_some _ (Heap.get?_push_size _ rfl))
 have g2 : (tz5 s.heap l1 l2).get? (tz1 s.heap l1).objs.size = _ := Heap.get?_push_of_some _ (Heap.get?_push_of_some _ (Heap.get?_push_of_some _ (Heap.get?_push_size _ rfl)))
 have g1 : (tz5 s.heap l1 l2).get? s.heap.objs.size = _ := Heap.get?_push_of_some _ (Heap.get?_push_of_some _ (Heap.get?_push_of_some _ (Heap.get?_push_of_some _ (Heap.get?_push_size _ rfl))))
 have hk : ∀ c o, s.heap.get? c = some o → (tz5 s.heap l1 l2).get? c = some o := fun c o e => Heap.get?_push_of_some _ (Heap.get?_push_of_some _ (Heap.get?_push_of_some _ (Heap.get?_push_of_some _ (Heap.get?_push_of_some _ e))))
 rw [z4, z2, z3] at g5
 rw [z3] at g4
 rw [z2, z1] at g3
 rw [z1] at g2
 rw [z4]
 generalize tz5 s.heap l1 l2 = h' at z5 g5 g4 g3 g2 g1 hk
 exact ⟨⟨_, g5, rfl⟩, h h' g5 g3 g4 ⟨_, g1, rfl, rfl⟩ ⟨_, g2, rfl, rfl⟩ z5 hk⟩
def Itu (K : PySem.W.Frag) (a b : Addr) : It :=
 ⟨fun i H => ∃ xs ys x y, SqT K H a xs ∧ SqT K H b ys ∧ xs[i]? = some x ∧ ys[i]? = some y,
  fun i H v H' => ∃ p x y, v = .ref p ∧ H p = none ∧ H' = upd H p (.tup [x, y]) ∧ (∀ xs, SqT K H a xs → xs[i]? = some x) ∧ ∀ ys, SqT K H b ys → ys[i]? = some y,
  fun i H => ∃ xs ys, SqT K H a xs ∧ SqT K H b ys ∧ (xs[i]? = none ∨ ys[i]? = none)⟩
theorem yN {P : Program} {w : World} {K : PySem.W.Frag} {es : List Expr} {kk : Nat} {tpos : Pos} {z TI TO i1 i2 l1 l2 : Addr} (D : ZipApart z TI TO i1 i2 l1 l2) :
  Turn P w K (.Tuple es kk tpos) (Itu K l1 l2) [z, TI, TO, i1, i2] z (fun i h => IsZip h z TI TO .none ∧ IsPair h TI (.ref i1) (.ref i2) ∧ (∃ a b, IsPair h TO a b) ∧ h.IsTupleIter i1 l1 i ∧ h.IsTupleIter i2 l2 i) where
 mem := by simp
 obj := fun i h st b hb => by
  obtain ⟨hz, hTI, ⟨a, b', hTO⟩, ⟨o1, e1, c1, d1⟩, ⟨o2, e2, c2, d2⟩⟩ := st
  simp only [List.mem_cons, List.not_mem_nil, or_false] at hb
  rcases hb with rfl | rfl | rfl | rfl | rfl
  ·exact ⟨_, hz, fun v q => by cases q⟩
  ·exact ⟨_, hTI, fun v q => by cases q⟩
  ·exact ⟨_, hTO, fun v q => by cases q⟩
  ·exact ⟨o1, e1, fun v q => by rw [d1] at q; cases q⟩
  ·exact ⟨o2, e2, fun v q => by rw [d2] at q; cases q⟩
 keep := fun i h h' st k => by
  obtain ⟨hz, hTI, ⟨a, b', hTO⟩, h1, h2⟩ := st
  exact ⟨k z (by simp) _ hz, k TI (by simp) _ hTI, ⟨a, b', k TO (by simp) _ hTO⟩, h1.at fun o e => k i1 (by simp) o e, h2.at fun o e => k i2 (by simp) o e⟩
 item := by
  intro X hP hw hK hc i pins s σ H E I hf st hg
  subst hP hw hK
  obtain ⟨xs, ys, x, y, q1, q2, hx, hy⟩ := hg
  obtain ⟨its1, rv1, p1, hz1⟩ := I.tuple q1
  obtain ⟨its2, rv2, p2, hz2⟩ := I.tuple q2
  obtain ⟨u1, hu1, ru1⟩ := rv1.get hx
  obtain ⟨u2, hu2, ru2⟩ := rv2.get hy
  obtain ⟨hz, hTI, ⟨a, b', hTO⟩, h1, h2⟩ := st
  refine jb D hz hTI hTO h1 h2 p1 p2 (x := u1) (y := u2) (by simpa using hu1) (by simpa using hu2) fun h' a1 a2 a3 a4 a5 a6 hk => ?_
  have new : cu X.prog X.w (upd H s.heap.objs.size (.tup [x, y])) h' s.heap.objs.size (.tup [x, y]) := ⟨by show 2 ≤ sizeLine; decide, [u1, u2], .cons ru1 (.cons ru2 .nil), _, a5, rfl, _, rfl⟩
  have I1 : Inv X pins σ (upd H s.heap.objs.size (.tup [x, y])) { s with heap := h' } := I.wV (t' := s.toks) (ch := [z, TO, i1, i2]) (fun b hb => hf b (by
   simp only [List.mem_cons, List.not_mem_nil, or_false] at hb ⊢
   rcases hb with r | r | r | r <;> simp [r]))
   (fun b o hb e => hk b o (fun q => hb (by simp [q])) (fun q => hb (by simp [q])) (fun q => hb (by simp [q])) (fun q => hb (by simp [q])) e) (Nat.le_refl _) new
  have hTI' : IsPair h' TI (.ref i1) (.ref i2) := hk _ _ D.TIz D.TITO D.TIi1 D.TIi2 hTI
  have hsz : ∀ b, b ∈ [z, TI, TO, i1, i2] → b ≠ s.heap.objs.size := fun b hb => by
   obtain ⟨_, _, hlt, _⟩ := hf b hb
   have lt : ∃ o, s.heap.get? b = some o := by
    simp only [List.mem_cons, List.not_mem_nil, or_false] at hb
    rcases hb with rfl | rfl | rfl | rfl | rfl
    ·exact ⟨_, hz⟩
    ·exact ⟨_, hTI⟩
    ·exact ⟨_, hTO⟩
    ·obtain ⟨o, e, _⟩ := h1; exact ⟨o, e⟩
    ·obtain ⟨o, e, _⟩ := h2; exact ⟨o, e⟩
   obtain ⟨o, e⟩ := lt
   exact Nat.ne_of_lt (Heap.lt_size e)
  refine ⟨_, rfl, wpAny_letOwnedTupleGo_zip (s := { s with heap := h' }) a1 fun h'' z2 sb => ?_⟩
  have fz := hf z (by simp)
  have I2 : Inv X pins σ (upd H s.heap.objs.size (.tup [x, y])) { s with heap := h'' } := Inv.turned (s := { s with heap := h' }) (it := z) (t' := s.toks) I1 (fun b o hb e => (sb.2 b hb).trans e) (by rw [aJ (hsz z (by simp))]; exact fz.1) fz.2.1 fz.2.2.2.1 fz.2.2.2.2.1 fz.2.2.2.2.2
  refine ⟨.ref s.heap.objs.size, _, I2, rfl, ⟨_, x, y, rfl, I.fresh, rfl, fun xs' q => by rw [I.jG q q1]; exact hx, fun ys' q => by rw [I.jG q q2]; exact hy⟩,
   ⟨z2, (sb.2 _ D.TIz).trans hTI', ⟨_, _, (sb.2 _ D.TOz).trans a2⟩, a3.extBut sb.extBut D.i1z, a4.extBut sb.extBut D.i2z⟩, fun b hb => by rw [aJ (hsz b hb)]; exact (hf b hb).1⟩
 done := by
  intro X hP hw hK hc i pins s σ H E I hf st hg
  subst hP hw hK
  obtain ⟨xs, ys, q1, q2, hx⟩ := hg
  obtain ⟨its1, rv1, p1, hz1⟩ := I.tuple q1
  obtain ⟨its2, rv2, p2, hz2⟩ := I.tuple q2
  obtain ⟨hz, hTI, ⟨a, b', hTO⟩, h1, h2⟩ := st
  have hend : its1.toArray[i]? = none ∨ its2.toArray[i]? = none := by
   rcases hx with r | r
   ·exact .inl (by simpa using rv1.none_of r)
   ·exact .inr (by simpa using rv2.none_of r)
  refine jo (I.ok.hd hc) D hz hTI hTO h1 h2 p1 p2 hend fun h' hk => ⟨rfl, ?_⟩
  exact I.wW (t' := s.toks) (ch := [z, TO, i1, i2]) (fun b hb => hf b (by
   simp only [List.mem_cons, List.not_mem_nil, or_false] at hb ⊢
   rcases hb with r | r | r | r <;> simp [r]))
   (fun b o hb e => hk b o (fun q => hb (by simp [q])) (fun q => hb (by simp [q])) (fun q => hb (by simp [q])) (fun q => hb (by simp [q])) e)
 self := fun _ _ _ _ _ st h => wpAny_pyIter_zip st.1 h
def zpq (K : PySem.W.Frag) (o1 o2 : Option HO) (a b : Addr) (H : Hp) (R : It → Hp → Prop) : Prop := match o1, o2 with
 | some (.lst _), some (.lst _) => R (Itz K a b) H
 | some (.tup _), some (.tup _) => R (Itu K a b) H
 | _, _ => False
def zpK (K : PySem.W.Frag) (vs : List V) (H : Hp) (R : It → Hp → Prop) : Prop := match vs with
 | [.ref a, .ref b] => zpq K (H a) (H b) a b H R
 | _ => False
def Fd (K : PySem.W.Frag) (ta : TA) : TI := fun σ H R => ta σ H fun vs H1 => zpK K vs H1 R
theorem Fb (K : PySem.W.Frag) (ta : TA) (σ : St) (H : Hp) (R : It → Hp → Prop) : Fd K ta σ H R = ta σ H fun vs H1 => zpK K vs H1 R := rfl
theorem Ld (K : PySem.W.Frag) (a b : Addr) (H : Hp) (R : It → Hp → Prop) : zpK K [.ref a, .ref b] H R = zpq K (H a) (H b) a b H R := rfl
theorem Lb (K : PySem.W.Frag) (xs ys : List V) (a b : Addr) (H : Hp) (R : It → Hp → Prop) : zpq K (some (.lst xs)) (some (.lst ys)) a b H R = R (Itz K a b) H := rfl
theorem La (K : PySem.W.Frag) (xs ys : List V) (a b : Addr) (H : Hp) (R : It → Hp → Prop) : zpq K (some (.tup xs)) (some (.tup ys)) a b H R = R (Itu K a b) H := rfl
section
variable {X : Cx}
theorem IV {es : List Expr} {kk : Nat} {tpos : Pos} {a b : Expr} {ta : TA} {p pos : Pos} (hg : Gl X "zip") (hm : X.mg "zip" = none) (ha : PA X [a, b] ta) (hs : starEach [a, b] X.env = [(false, eval a X.env), (false, eval b X.env)] := by rfl) (hs2 : starEach [b] X.env = [(false, eval b X.env)] := by rfl) :
  PI X (.Tuple es kk tpos) (.Call (.Name "zip" p) [a, b] [] pos) (Fd X.K ta) := by
 intro pins s σ H R I h
 refine Call_ (iC I hg hm boot_zip (PyProof.Rows.callWith_type1 (thA (ha pos pins s σ H _ I h) fun us s1 vs H1 I1 r1 q1 => ?_) (by rw [hs, hs2]) (by rw [hs2]; rfl)))
 replace q1 : zpK X.K vs H1 R := q1
 unfold zpK at q1
 split at q1
 ·rename_i l1 l2
  unfold zpq at q1
  cases r1 with
  | cons r rr =>
   cases rr with
   | cons r' rr =>
    cases rr
    cases r
    cases r'
    have apart : l1 < s1.heap.objs.size → l2 < s1.heap.objs.size → ZipApart (s1.heap.objs.size + 4) (s1.heap.objs.size + 2) (s1.heap.objs.size + 3) s1.heap.objs.size (s1.heap.objs.size + 1) l1 l2 := by
     generalize s1.heap.objs.size = n
     intro lt1 lt2
     have lt1' : @LT.lt Nat _ l1 n := lt1
     have lt2' : @LT.lt Nat _ l2 n := lt2
     constructor <;> (intro (z : @Eq Nat _ _); omega)
    have fp : ∀ b ∈ [s1.heap.objs.size + 4, s1.heap.objs.size + 2, s1.heap.objs.size + 3, s1.heap.objs.size, s1.heap.objs.size + 1], j9 X pins H1 b := fun b hb => by
     have hle : s1.heap.objs.size ≤ b := by
      simp only [List.mem_cons, List.not_mem_nil, or_false] at hb
      rcases hb with rfl | rfl | rfl | rfl | rfl <;> simp
     exact I1.zV hle (I1.hok.fresh hle)
    split at q1
    ·rename_i xs ys e1 e2
     obtain ⟨its1, rv1, p1, hz1⟩ := I1.list (SqL.of e1)
     obtain ⟨its2, rv2, p2, hz2⟩ := I1.list (SqL.of e2)
     have lt1 : l1 < s1.heap.objs.size := by obtain ⟨_, e, _⟩ := p1.isList; exact Heap.lt_size e
     have lt2 : l2 < s1.heap.objs.size := by obtain ⟨_, e, _⟩ := p2.isList; exact Heap.lt_size e
     refine call_zip_2 p1.isList p2.isList fun h' b1 b2 b3 b4 b5 b6 hk => ?_
     refine wpAny_pyIter_zip (s := { s1 with heap := h' }) b1 ?_
     exact ⟨_, _, _, _, H1, rfl, I1.kept (t' := s1.toks) hk, Bb (apart lt1 lt2), ⟨b1, b2, ⟨_, _, b3⟩, b4, b5⟩, fp, q1⟩
    ·rename_i xs ys e1 e2
     obtain ⟨its1, rv1, p1, hz1⟩ := I1.tuple (SqT.of e1)
     obtain ⟨its2, rv2, p2, hz2⟩ := I1.tuple (SqT.of e2)
     have lt1 : l1 < s1.heap.objs.size := by obtain ⟨_, e, _⟩ := p1; exact Heap.lt_size e
     have lt2 : l2 < s1.heap.objs.size := by obtain ⟨_, e, _⟩ := p2; exact Heap.lt_size e
     refine u0 p1 p2 fun h' b1 b2 b3 b4 b5 b6 hk => ?_
     refine wpAny_pyIter_zip (s := { s1 with heap := h' }) b1 ?_
     exact ⟨_, _, _, _, H1, rfl, I1.kept (t' := s1.toks) hk, yN (apart lt1 lt2), ⟨b1, b2, ⟨_, _, b3⟩, b4, b5⟩, fp, q1⟩
    ·exact q1.elim
 ·exact q1.elim
theorem Ia {es : List Expr} {kk : Nat} {tpos : Pos} {a b : Expr} {t : TA} {p pos : Pos} (hg : Gl X "zip") (hm : X.mg "zip" = none) (ha : QA X [a, b] t) (hs : starEach [a, b] X.env = [(false, eval a X.env), (false, eval b X.env)] := by rfl) (hs2 : starEach [b] X.env = [(false, eval b X.env)] := by rfl) : QI X (.Tuple es kk tpos) (.Call (.Name "zip" p) [a, b] [] pos) (Fd X.K t) := ⟨IV hg hm ha.h hs hs2⟩
end
def kj (n : Nat) : Sp := fun vs H Q _ => ∃ x y ok d, vs = [x, y] ∧ aR ok H x d ∧ aR ok H y d ∧ d.depth < n ∧ ∀ H', Same H H' → Q (.bl true) H'
theorem qH {d : PyData} {ds : List PyData} (h : d ∈ ds) : d.depth < (PyData.list ds).depth ∧ d.depth < (PyData.tuple ds).depth := by
 have := lR h
 rw [PyData.depth.eq_1, PyData.depth.eq_2]
 omega
def rd8 := And.intro @Fb (And.intro @Ld (And.intro @Lb @La))
section
variable {K : PySem.W.Frag} {mp : List (Option Nat)} {g : TG} {tc : TT} {te : TE} {σ : St} {H : Hp} {Q : VK} {R : It → Hp → Prop}
theorem Kp {a b : Addr} {xs ys : List V} (hR : R = vm mp g tc te σ Q) (hz : xs.length ≤ sizeLine) (hl2 : xs.length = ys.length) (Pv : Nat → List V → St → Hp → Prop) (h0 : Pv 0 [] (fZ mp σ) H) (hl : ∀ i acc τ H, Pv i acc τ H → acc.length ≤ i)
  (hq : ∀ i acc τ H, Pv i acc τ H → H a = some (.lst xs) ∧ H b = some (.lst ys))
  (hs : ∀ i x y acc τ H p, xs[i]? = some x → ys[i]? = some y → Pv i acc τ H → H p = none → g (.ref p) τ (upd H p (.tup [x, y])) fun τ1 H4 => tc τ1 H4 fun b H5 => if b = true then te τ1 H5 fun v H6 => Pv (i + 1) (acc ++ [v]) τ1 H6 else Pv (i + 1) acc τ1 H5)
  (hd : ∀ acc τ H d, Pv xs.length acc τ H → H d = none → Q (.ref d) (upd H d (.lst acc))) : R (Itz K a b) H := by
 refine lU hR xs.length hz Pv h0 hl (fun i acc τ H hi p => ?_) (fun acc τ H p => ?_) (fun i acc τ H x H3 hi p y => ?_) hd
 ·obtain ⟨e1, e2⟩ := hq i acc τ H p
  exact ⟨xs, ys, _, _, SqL.of e1, SqL.of e2, List.getElem?_eq_getElem hi, List.getElem?_eq_getElem (by omega)⟩
 ·obtain ⟨e1, e2⟩ := hq _ acc τ H p
  exact ⟨xs, ys, SqL.of e1, SqL.of e2, .inl (List.getElem?_eq_none (Nat.le_refl _))⟩
 ·obtain ⟨e1, e2⟩ := hq i acc τ H p
  obtain ⟨q, x1, y1, rfl, hq1, rfl, hx, hy⟩ := y
  exact hs i x1 y1 acc τ H q (hx _ (SqL.of e1)) (hy _ (SqL.of e2)) p hq1
theorem Ko {a b : Addr} {xs ys : List V} (hR : R = vm mp g tc te σ Q) (hz : xs.length ≤ sizeLine) (hl2 : xs.length = ys.length) (Pv : Nat → List V → St → Hp → Prop) (h0 : Pv 0 [] (fZ mp σ) H) (hl : ∀ i acc τ H, Pv i acc τ H → acc.length ≤ i)
  (hq : ∀ i acc τ H, Pv i acc τ H → H a = some (.tup xs) ∧ H b = some (.tup ys))
  (hs : ∀ i x y acc τ H p, xs[i]? = some x → ys[i]? = some y → Pv i acc τ H → H p = none → g (.ref p) τ (upd H p (.tup [x, y])) fun τ1 H4 => tc τ1 H4 fun b H5 => if b = true then te τ1 H5 fun v H6 => Pv (i + 1) (acc ++ [v]) τ1 H6 else Pv (i + 1) acc τ1 H5)
  (hd : ∀ acc τ H d, Pv xs.length acc τ H → H d = none → Q (.ref d) (upd H d (.lst acc))) : R (Itu K a b) H := by
 refine lU hR xs.length hz Pv h0 hl (fun i acc τ H hi p => ?_) (fun acc τ H p => ?_) (fun i acc τ H x H3 hi p y => ?_) hd
 ·obtain ⟨e1, e2⟩ := hq i acc τ H p
  exact ⟨xs, ys, _, _, SqT.of e1, SqT.of e2, List.getElem?_eq_getElem hi, List.getElem?_eq_getElem (by omega)⟩
 ·obtain ⟨e1, e2⟩ := hq _ acc τ H p
  exact ⟨xs, ys, SqT.of e1, SqT.of e2, .inl (List.getElem?_eq_none (Nat.le_refl _))⟩
 ·obtain ⟨e1, e2⟩ := hq i acc τ H p
  obtain ⟨q, x1, y1, rfl, hq1, rfl, hx, hy⟩ := y
  exact hs i x1 y1 acc τ H q (hx _ (SqT.of e1)) (hy _ (SqT.of e2)) p hq1
end
inductive RowC where
 | one (n t : Int)
 | rng (a b t : Int)
 | low (n t : Int)
 | msk (lo wd bits t : Int)
 | tab (lo : Int) (gs : List Int)
 | pik (l : Int)
def rowCD : RowC → PyData
 | .one n t => .tuple [.str "is", .int n, .int t]
 | .rng a b t => .tuple [.str "within", .int a, .int b, .int t]
 | .low n t => .tuple [.str "below", .int n, .int t]
 | .msk lo wd bits t => .tuple [.str "mask", .int lo, .int wd, .int bits, .int t]
 | .tab lo gs => .tuple [.str "table", .int lo, .tuple (gs.map PyData.int)]
 | .pik l => .tuple [.str "pick", .int l]
def OD (m o : Int) : RowC → Prop
 | .one _ t => btw o m t = true
 | .rng _ _ t => btw o m t = true
 | .low _ t => btw o m t = true
 | .msk _ wd bits t => btw o m t = true ∧ 1 ≤ wd ∧ wd ≤ 64 ∧ 0 ≤ bits
 | .tab _ gs => gs.all (btw o m) = true
 | .pik _ => True
def Qs : RowC → Addr → List V
 | .one n t, _ => [.str "is", .int n, .int t]
 | .rng a b t, _ => [.str "within", .int a, .int b, .int t]
 | .low n t, _ => [.str "below", .int n, .int t]
 | .msk lo wd bits t, _ => [.str "mask", .int lo, .int wd, .int bits, .int t]
 | .tab lo _, g => [.str "table", .int lo, .ref g]
 | .pik l, _ => [.str "pick", .int l]
def RowAt (H : Hp) (x : V) (c : RowC) : Prop := ∃ a g, x = .ref a ∧ H a = some (.tup (Qs c g)) ∧ ∀ lo gs, c = .tab lo gs → H g = some (.tup (gs.map V.int))
def scV : PyData → Option V
 | .int i => some (.int i)
 | .str z => some (.str z)
 | _ => none
theorem aR.sc {ok : Addr → Prop} {H : Hp} {x v : V} {d : PyData} (t : aR ok H x d) (h : scV d = some v) : x = v := by
 cases t with
 | int i => exact Option.some.inj h
 | str z => exact Option.some.inj h
 | _ => cases h
theorem aL.sc {ok : Addr → Prop} {H : Hp} : ∀ {xs vs : List V} {ds : List PyData}, aL ok H xs ds → ds.map scV = vs.map some → xs = vs
 | _, [], _, .nil, _ => rfl
 | _, v :: vs, _, .nil, h => by cases h
 | _, [], _, .cons _ _, h => by cases h
 | _, v :: vs, _, .cons t ts, h => by
  rw [List.map_cons, List.map_cons] at h
  injection h with h1 h2
  rw [t.sc h1, ts.sc h2]
theorem aL.uncons {ok : Addr → Prop} {H : Hp} {xs : List V} {d : PyData} {ds : List PyData} (t : aL ok H xs (d :: ds)) : ∃ x r, xs = x :: r ∧ aR ok H x d ∧ aL ok H r ds := by
 cases t with
 | cons h r => exact ⟨_, _, rfl, h, r⟩
theorem aR.tupOf {ok : Addr → Prop} {H : Hp} {x : V} {ds : List PyData} (t : aR ok H x (.tuple ds)) : ∃ p xs, x = .ref p ∧ H p = some (.tup xs) ∧ aL ok H xs ds := by
 cases t with
 | tup o e z ts => exact ⟨_, _, rfl, e, ts⟩
section
variable {X : Cx} {e o : Expr} {te to : TE} {pos : Pos}
def ppq (ob : Option HO) (l : Addr) (H : Hp) (Q : VK) : Prop := match ob with
 | some (.lst xs) => ∃ y, xs[xs.length - 1]? = some y ∧ Q y (upd H l (.lst xs.dropLast))
 | _ => False
def ppK (x : V) (H : Hp) (Q : VK) : Prop := match x with
 | .ref l => ppq (H l) l H Q
 | _ => False
def O4 (to : TE) : TE := fun σ H Q => to σ H fun x H1 => ppK x H1 Q
theorem Bk (to : TE) (σ : St) (H : Hp) (Q : VK) : O4 to σ H Q = to σ H fun x H1 => ppK x H1 Q := rfl
theorem Iv (l : Addr) (H : Hp) (Q : VK) : ppK (.ref l) H Q = ppq (H l) l H Q := rfl
theorem Iu (xs : List V) (l : Addr) (H : Hp) (Q : VK) : ppq (some (.lst xs)) l H Q = ∃ y, xs[xs.length - 1]? = some y ∧ Q y (upd H l (.lst xs.dropLast)) := rfl
def Ln (ta : TA) : TE := fun σ H Q => ta σ H fun vs H1 => ∃ j : Int, vs = [.int j] ∧ (-(2 ^ 62) ≤ j ∧ j < 2 ^ 62) ∧ (j - 0).toNat ≤ sizeLine ∧ ∀ p, H1 p = none → Q (.ref p) (upd H1 p (.lst (za 0 (j - 0).toNat)))
def KTup (K : PySem.W.Frag) (p : Addr) (xs : List V) : Prop := ∃ (o : Obj) (its : Array Value) (n : Nat), K.lookup p = some o ∧ o.cls = .type "tuple" ∧ o.dict = none ∧ o.data = .seq its n ∧ its.size ≤ sizeLine ∧ Vals xs its.toList
end
def rd9 := And.intro @Bk (And.intro @Iv (And.intro @Iu (And.intro @Ln.eq_1 (And.intro @Qq.eq_1 @ipI.eq_1))))
inductive Pl where
 | pick (l : Int)
 | one (k : Nat) (r : Pl)
 | wit (k : Nat) (r : Pl)
 | low (k : Nat) (a b : Pl)
 | msk (l : Int) (r : Pl)
 | tab
def rO : Pl → Nat
 | .pick _ => 1
 | .one _ r => rO r + 1
 | .wit _ r => rO r + 1
 | .low _ a b => rO a + rO b + 1
 | .msk _ r => rO r + 1
 | .tab => 1
abbrev Sts := List (Int × Int × Int)
def qW (ss : Sts) (k : Nat) : Int × Int × Int := ss.getD k (0, 0, 0)
structure Lf (ss : Sts) (left : List Nat) : Prop where
 ne : left ≠ []
 lt : ∀ k ∈ left, k < ss.length
 up : left.Pairwise (· < ·)
def kids (ss : Sts) : Pl → List Nat → List (List Nat × Pl)
 | .pick _, _ => []
 | .tab, _ => []
 | .one k r, left => [(left.filter (· ≠ k), r)]
 | .wit k r, left => [(left.filter (· ≠ k), r)]
 | .low k a b, left => [(left.filter (· < k), a), (left.filter (k ≤ ·), b)]
 | .msk l r, left => [(left.filter fun k => (qW ss k).2.2 ≠ l, r)]
def vh (ss : Sts) : Pl → List Nat → Prop
 | .pick _, left => Lf ss left
 | .tab, left => Lf ss left
 | .one k r, left => Lf ss left ∧ vh ss r (left.filter (· ≠ k))
 | .wit k r, left => Lf ss left ∧ vh ss r (left.filter (· ≠ k))
 | .low k a b, left => Lf ss left ∧ vh ss a (left.filter (· < k)) ∧ vh ss b (left.filter (k ≤ ·))
 | .msk l r, left => Lf ss left ∧ vh ss r (left.filter fun k => (qW ss k).2.2 ≠ l)
theorem vh.kids {ss : Sts} {p : Pl} {left : List Nat} (h : vh ss p left) : ∀ x ∈ kids ss p left, vh ss x.2 x.1 := by
 intro x hx
 cases p with
 | pick l => cases hx
 | tab => cases hx
 | one k r => rw [List.mem_singleton.mp hx]; exact h.2
 | wit k r => rw [List.mem_singleton.mp hx]; exact h.2
 | low k a b =>
  rcases List.mem_cons.mp hx with rfl | hx
  ·exact h.2.1
  ·rw [List.mem_singleton.mp hx]; exact h.2.2
 | msk l r => rw [List.mem_singleton.mp hx]; exact h.2
def KY (ss : Sts) (left : List Nat) : Int := (qW ss (left.getLast?.getD 0)).2.1 - (qW ss (left.head?.getD 0)).1 + 1
section
variable {X : Cx} {e o : Expr} {te to : TE} {pos : Pos}
end
theorem xQ (K : PySem.W.Frag) {X : Cx} {tg l : Expr} {tl : TE} (hl : QE X l tl) (hK : X.K = K := by rfl) : QI X tg l (yq K tl) := by
 subst hK
 exact fH hl
def Wlk (h : Heap) (i l : Addr) (k : Nat) (xs : Array Value) : Prop := (h.IsTupleIter i l k ∧ h.IsTuple l xs) ∨ (h.IsListIter i l k ∧ h.IsList l xs)
@[reducible] def IsZip2 (h : Heap) (z TI TO a : Addr) (b : Bool) : Prop := h.get? z = some { cls := Value.type "zip", data := Data.fields #[rawInt a, Value.bool b, Value.bool false, Value.ref TI, Value.ref TO] }
section
variable {X : Cx}
end
section
variable {X : Cx} {o i e value : Expr} {pos pos' tpos : Pos} {td ty tv : TE}
end
section
variable {prog : Program} {w : World} {A : Around} {R : Result → Shared → Prop} {s : Shared}
end
section
variable {X : Cx} {NX N : List Str} {kX : List (Str × NameKind)} {mp : List (Option Nat)} {scope : Scope}
end
section
variable {X : Cx}
end
section
variable {M : Model} {A : Around} {E : Value → Shared → Prop} {env : Env}
variable {nm q : Str} {C N : Addr} {bs bm : List Value} {hdct : Bool} {sn : List Str} {sub : List Value} {ab : Bool} {col : Option Bool} {dd : Option Addr} {k0 k1 k2 k3 k5 : Option Value} {newId : String}
end
section
variable {prog : Program} {w : World} {A : Around} {E : Value → Shared → Prop}
variable {nm q : Str} {C N : Addr} {bs bm bmB : List Value} {hdct : Bool} {sn : List Str} {sub : List Value} {ab : Bool} {col : Option Bool} {dd : Option Addr} {k0 k1 k2 k3 k5 : Option Value} {nwId B newId initId : String}
end
open PySem.W (Frag clsIn findIn takerIn InstAt looks_clsIn looks_findIn looks_takesIn Looks check_slot looks_mroIn mroIn set_plain osa_eq)
open Builtin Builtin.ObjectAttr
def vbm : List Value := [.type "ValueError", .type "Exception", .type "BaseException", .type "object"]
section
variable {prog : Program} {w : World} {A : Around} {E : Value → Shared → Prop} {K : Frag} {h : Heap} {g : Array GenState} {d : Drawn} {t : Nat} {os : OsState} {x C D : Addr} {cd : ClassData} {name : Str} {v : Value} {o : Obj} {vs : Array Value}
end
open PySem.W (Frag clsIn findIn takerIn InstAt looks_clsIn looks_findIn looks_takesIn Looks check_slot looks_mroIn mroIn handedIn handedOut_of)
section
variable {prog : Program} {w : World} {A : Around} {E : Value → Shared → Prop} {K : Frag} {h : Heap} {g : Array GenState} {d : Drawn} {t : Nat} {os : OsState} {x C D dx : Addr} {cd : ClassData} {name : Str} {v : Value} {o : Obj} {vs : Array Value} {m : Str → Option Value} {expr : Bool}
end
structure XCls (K : PySem.W.Frag) (C D N fI : Addr) : Prop where
 obj : ∃ nm q bs sn sub ab col dd k0 k1 k2 k3 k5, K.lookup C = some (excClassObj nm q C N bs (.ref D :: vbm) true sn sub ab col dd k0 k1 k2 k3 k5 "ValueError.__new__")
 tail : PySem.W.tailIn K vbm (.ref D :: vbm) = true
 nsok : PySem.W.nsOkIn K N = true
 init : PySem.W.nsIn K N "__init__" = some (some (.ref fI))
 set : PySem.W.findIn K (.ref C) "__setattr__" = some (some (.builtin "object.__setattr__"))
 ga : PySem.W.findIn K (.ref C) "__getattribute__" = some (some (.builtin "BaseException.__getattribute__"))
 gk : PySem.W.findIn K (.ref C) "__getattr__" = some none
section
variable {X : Cx} {C D N fI : Addr} {x : Str} {np apos cpos : Pos} {e : Expr} {es : List Expr} {t : TA}
end
section
variable {X : Cx} {C D N fI : Addr} {f : Str} {o value : Expr} {pos pos' : Pos} {ta tv : TE}
end
abbrev TJ := St → Hp → (Hp → Prop) → Prop
section
variable {X : Cx} {e : Expr} {es : List Expr} {t : TJ} {te : TE} {x : Str} {j : Nat} {pos : Pos}
end
section
variable {X : Cx} {C D N fI : Addr} {x : Str} {np cpos pos : Pos} {e : Expr} {es : List Expr} {t : TA} {k : Nat} {fd : FuncData} {ps : List Str} {sp : Sp} {E : XK}
end
section
variable {M : Model} {A : Around} {E : Value → Shared → Prop}
variable {nm q nmD qD : Str} {C N D ND : Addr} {bs bm bsD bmD : List Value} {hdct hdctD : Bool} {sn snD : List Str} {sub subD : List Value} {ab abD : Bool} {col colD : Option Bool} {dd ddD : Option Addr} {k0 k1 k2 k3 k5 j0 j1 j2 j3 j5 : Option Value} {newId newIdD : String}
end
section
variable {X : Cx} {pins pins' : List (Addr × Obj)} {σ : St} {H : Hp} {s : Shared} {xe : Value → Shared → Prop} {x : Addr}
end
section
variable {X : Cx} {pins : List (Addr × Obj)} {σ : St} {H1 H2 : Hp} {s1 s2 : Shared} {x C : Addr} {ox : Obj} {vs : Array Value}
end
section
variable {X : Cx} {C D N fI ND : Addr} {dn n : Str} {i : Nat} {body suite : List Stmt} {b₀ : Stmt} {np hpos pos : Pos} {tb : XK → TS} {ts : TS}
end
open PySem.W (Frag clsIn findIn takerIn InstAt looks_clsIn looks_findIn looks_takesIn looks_specialIn specialIn takesIn Looks check_slot looks_mroIn mroIn handedIn handedOut_of class_get KitX)
section
variable {prog : Program} {w : World} {A : Around} {E : Value → Shared → Prop} {s : Shared} {K : Frag} {x C : Addr} {ox : Obj} {od : Option Obj}
end
section
variable {X : Cx} {pins : List (Addr × Obj)} {σ : St} {H : Hp} {s : Shared} {A : Around} {E : Value → Shared → Prop} {Q : Value → Shared → Prop} {c : Value} {b : Bool} {x C dx : Addr} {fs : List (Str × V)}
variable {D N fI : Addr} {e : Expr} {f : Str} {pos : Pos} {ta : TE}
end
section
variable {P : Program} {w : World} {K : PySem.W.Frag} {mg : Str → Option Value} {base : Heap}
end
section
variable {X : Cx} {k : Nat} {ps : List Str} {sp : Sp} {x f : Str} {p np apos cpos pos pos' : Pos} {e o value : Expr} {es : List Expr} {t : TA} {E : XK} {C D N fI : Addr} {te ta tv : TE}
end
section
variable {X : Cx} {k : Nat} {ps : List Str} {sp : Sp} {x : Str} {p pos : Pos} {e : Expr} {es : List Expr} {t : TA} {E : XK}
end
section
variable {X : Cx} {e o : Expr} {te to : TE} {pos : Pos}
end
open Builtin
section
variable {X : Cx}
end
mutual
def noL : PyData → Bool
 | .list _ => false
 | .tuple ds => P0 ds
 | _ => true
def P0 : List PyData → Bool
 | [] => true
 | d :: ds => noL d && P0 ds
end
section
variable {X : Cx} {e e2 o i value : Expr} {te te2 to ti tv : TE} {pos tpos : Pos}
end
def lbl (ss : Sts) (k : Nat) : Int := (qW ss k).2.2
def iu (ss : Sts) : Pl → List Nat → List (List Nat × Pl)
 | .pick l, left => [(left, .pick l)]
 | .tab, left => [(left, .tab)]
 | .one k r, left => (left, .one k r) :: iu ss r (left.filter (· ≠ k))
 | .wit k r, left => (left, .wit k r) :: iu ss r (left.filter (· ≠ k))
 | .low k a b, left => (left, .low k a b) :: (iu ss b (left.filter (k ≤ ·)) ++ iu ss a (left.filter (· < k)))
 | .msk l r, left => (left, .msk l r) :: iu ss r (left.filter fun k => (qW ss k).2.2 ≠ l)
def Bv (ss : Sts) (W : List (List Nat × Pl)) : List (List Nat × Pl) := (W.reverse.map fun x => iu ss x.2 x.1).flatten
theorem steps_kids (ss : Sts) (p : Pl) (left : List Nat) : iu ss p left = (left, p) :: Bv ss (kids ss p left) := by
 cases p <;> simp [iu, Bv, kids]
def VL (ss : Sts) (left : List Nat) : Pl → Prop
 | .pick l => ∀ k ∈ left, lbl ss k = l
 | .tab => KY ss left ≤ 200
 | .one k _ => k ∈ left ∧ (qW ss k).1 = (qW ss k).2.1
 | .wit k _ => k ∈ left
 | .low k _ _ => k ∈ left
 | .msk l _ => KY ss left ≤ 64 ∧ ∃ k ∈ left, lbl ss k = l
def PlV (ss : Sts) : Pl → List Nat → Prop
 | .pick l, left => Lf ss left ∧ VL ss left (.pick l)
 | .tab, left => Lf ss left ∧ VL ss left .tab
 | .one k r, left => (Lf ss left ∧ VL ss left (.one k r)) ∧ PlV ss r (left.filter (· ≠ k))
 | .wit k r, left => (Lf ss left ∧ VL ss left (.wit k r)) ∧ PlV ss r (left.filter (· ≠ k))
 | .low k a b, left => (Lf ss left ∧ VL ss left (.low k a b)) ∧ PlV ss a (left.filter (· < k)) ∧ PlV ss b (left.filter (k ≤ ·))
 | .msk l r, left => (Lf ss left ∧ VL ss left (.msk l r)) ∧ PlV ss r (left.filter fun k => (qW ss k).2.2 ≠ l)
def jl : Pl → Nat → List (Nat × Nat)
 | .pick _, _ => []
 | .tab, _ => []
 | .one _ r, p => jl r (p + 1)
 | .wit _ r, p => jl r (p + 1)
 | .msk _ r, p => jl r (p + 1)
 | .low _ a b, p => jl b (p + 1) ++ (p, p + 1 + rO b) :: jl a (p + 1 + rO b)
def Kc : List Pl → List Nat → Nat → List (Nat × Nat)
 | [], _, _ => []
 | c :: rest, T, p => jl c p ++ (match T with | [] => [] | t :: T' => match rest with | [] => [] | _ :: _ => (t, p + rO c) :: Kc rest T' (p + rO c))
theorem futA_one (c : Pl) (T : List Nat) (p : Nat) : Kc [c] T p = jl c p := by
 cases T <;> exact List.append_nil _
def Fit (cs : List RowC) (p : Nat) (R : List RowC) : Prop := ∀ (i : Nat) c, R[i]? = some c → cs[p + i]? = some c
theorem Fit.hd {cs : List RowC} {p : Nat} {c : RowC} {R : List RowC} (h : Fit cs p (c :: R)) : cs[p]? = some c := h 0 c rfl
section
variable {X : Cx} {o e i : Expr} {to te td ty : TE} {pos : Pos}
end
theorem ln1 {α : Type} {us : List α} (h : us.length = 1) : ∃ a, us = [a] := by
 cases us with
 | nil => cases h
 | cons a r =>
  cases r with
  | nil => exact ⟨a, rfl⟩
  | cons b r => cases h
theorem ln2 {α : Type} {us : List α} (h : us.length = 2) : ∃ a0 a1, us = [a0, a1] := by
 cases us with
 | nil => cases h
 | cons a0 r =>
  obtain ⟨a1, rfl⟩ := ln1 (Nat.succ.inj h)
  exact ⟨a0, a1, rfl⟩
theorem ln3 {α : Type} {us : List α} (h : us.length = 3) : ∃ a0 a1 a2, us = [a0, a1, a2] := by
 cases us with
 | nil => cases h
 | cons a0 r =>
  obtain ⟨a1, a2, rfl⟩ := ln2 (Nat.succ.inj h)
  exact ⟨a0, a1, a2, rfl⟩
theorem ln4 {α : Type} {us : List α} (h : us.length = 4) : ∃ a0 a1 a2 a3, us = [a0, a1, a2, a3] := by
 cases us with
 | nil => cases h
 | cons a0 r =>
  obtain ⟨a1, a2, a3, rfl⟩ := ln3 (Nat.succ.inj h)
  exact ⟨a0, a1, a2, a3, rfl⟩
section
variable {X : Cx} {i : Nat} {x : Str} {pos : Pos}
end
def Oc : Pl → Bool
 | .pick _ => true
 | .tab => true
 | _ => false
def Fx (ss : Sts) (C : List (List Nat × Pl)) : List (List Nat × Pl) := (C.map fun x => iu ss x.2 x.1).flatten
def Es (S : List (List Nat × Pl)) : Nat → Bool
 | 0 => false
 | i + 1 => match S[i]? with
  | some x => Oc x.2
  | none => false
structure AhSt (ss : Sts) (S : List (List Nat × Pl)) (tot : List (Nat × Nat)) (i : Nat) (C : List (List Nat × Pl)) (T : List Nat) (done : List (Nat × Nat)) : Prop where
 fl : S.drop i = Fx ss C
 no : Es S i = false → T.length + 1 = C.length ∧ tot = done ++ Kc (C.map (·.2)) T i
 yes : Es S i = true → T.length = C.length ∧ ((C = [] ∧ tot = done) ∨ ∃ t T', T = t :: T' ∧ tot = done ++ (t, i) :: Kc (C.map (·.2)) T' i)
theorem flat_cons (ss : Sts) (x : List Nat × Pl) (C : List (List Nat × Pl)) : Fx ss (x :: C) = iu ss x.2 x.1 ++ Fx ss C := rfl
section
variable {X : Cx} {pos : Pos} {te : TE}
end
section
variable {X : Cx} {e o : Expr} {te to : TE} {pos : Pos}
end
def Gq (many own : Int) : RowC → Prop
 | .one _ t => btw own many t = true
 | .rng a b t => a ≤ b ∧ btw own many t = true
 | .low _ t => btw own many t = true
 | .msk _ wd bits t => (1 ≤ wd ∧ wd ≤ 64) ∧ (0 ≤ bits ∧ bits < 2 ^ wd.toNat) ∧ btw own many t = true
 | .tab _ gs => gs ≠ [] ∧ gs.all (btw own many) = true
 | .pik l => 0 ≤ l
theorem Gq.c {many own : Int} {c : RowC} (h : Gq many own c) : OD many own c := by
 cases c with
 | one n t => exact h
 | low n t => exact h
 | rng a b t => exact h.2
 | msk lo wd bits t => exact ⟨h.2.2, h.1.1, h.1.2, h.2.1.1⟩
 | tab lo gs => exact h.2
 | pik l => trivial
end L2
set_option maxHeartbeats 4100000
namespace SRT
open PySem PyProof.Rows
def J8 : Bool → Keyed → Array Keyed → Nat → Nat → Nat → StateT SortSt Sem (Option Nat) := sortPriv% PySem.Builtin.gallop
def Ej : Array Keyed → Array Keyed → StateT SortSt Sem (Array Keyed) := sortPriv% PySem.Builtin.mergeLo
def Ek : Array Keyed → Array Keyed → StateT SortSt Sem (Array Keyed) := sortPriv% PySem.Builtin.mergeHi
def IK (p : Keyed) : Prop := ∃ n t, p.1 = .int n t
def eY (xs : Array Keyed) : Prop := ∀ (i : Nat) p, xs[i]? = some p → IK p
section
variable {prog : Program} {w : World} {s : Shared} {A : Around} {E : Value → Shared → Prop}
theorem uM {st : SortSt} {x y : Keyed} {Q : Option Bool → SortSt → Prop} (hk : kindOf st = oneType') (hx : IK x) (hy : IK y) (h : ∀ b, Q (some b) st) : wpS (model prog w) A E s (lt' x y) Q st := by
 obtain ⟨a, t, ea⟩ := hx
 obtain ⟨b, u, eb⟩ := hy
 rw [lt'_eq]
 refine wpS_bind (wpS_get ?_)
 rw [hk, keyLt'_oneType, ea, eb]
 exact wpS_bind (wpS_lift (wpAny_attempt (oneLt_int ⟨rfl, wpS_pure (h _)⟩)))
theorem aO {st : SortSt} {xs : Array Keyed} {i : Nat} {Q : Keyed → SortSt → Prop} (hi : i < xs.size) (h : ∀ p, xs[i]? = some p → Q p st) : wpS (model prog w) A E s (elem' xs i) Q st := by
 rw [elem'_eq]
 have e : xs[i]? = some xs[i] := getElem?_pos xs i hi
 rw [e]
 exact wpS_pure (h _ e)
theorem JB {st : SortSt} {i j : Nat} {Q : Option Bool → SortSt → Prop} (hk : kindOf st = oneType') (ha : eY (arrOf st)) (hi : i < (arrOf st).size) (hj : j < (arrOf st).size) (h : ∀ b, Q (some b) st) : wpS (model prog w) A E s (ltAt' i j) Q st := by
 rw [ltAt'_eq]
 refine wpS_bind (wpS_get ?_)
 refine wpS_bind (aO hi fun p hp => ?_)
 refine wpS_bind (aO hj fun q hq => ?_)
 exact uM hk (ha i p hp) (ha j q hq) h
theorem bT {st : SortSt} {left : Bool} {key : Keyed} {arr : Array Keyed} {base n hint : Nat} {Q : Option Nat → SortSt → Prop} (hk : kindOf st = oneType') (hkey : IK key) (ha : eY arr) (hb : base + n ≤ arr.size) (hh : hint < n) (h : ∀ m, m ≤ n → Q (some m) st) :
  wpS (model prog w) A E s (J8 left key arr base n hint) Q st := by
 have beyok : ∀ (i : Nat) (Q' : Option Bool → SortSt → Prop), i < n → (∀ b, Q' (some b) st) → wpS (model prog w) A E s (do
   let p ← elem' arr (base + i)
   if left = true then lt' p key else do
    let r ← lt' key p
    pure (r.map fun z => !z)) Q' st := by
  intro i Q' hi hq
  refine wpS_bind (aO (by omega) fun p hp => ?_)
  cases left with
  | true => exact uM hk (ha _ p hp) hkey hq
  | false => exact wpS_bind (uM hk hkey (ha _ p hp) fun b => wpS_pure (hq _))
 refine wpS_bind (beyok hint _ hh fun right => ?_)
 cases right with
 | true =>
  refine wpS_bind (wpS_mono (wpS_forRange (I := fun _ c st' => st' = st ∧ ∃ a b, c = (none, a, b)) (Q := fun c st' => st' = st ∧ ∃ a b, c = (none, a, b)) ?_ (fun _ _ hc => hc) ⟨rfl, 0, 1, rfl⟩) ?_)
  ·rintro x c st' _ _ ⟨rfl, a, b, rfl⟩
   dsimp only
   split
   ·exact wpS_pure ⟨rfl, a, b, rfl⟩
   ·rename_i hab
    refine wpS_bind (beyok _ _ (by omega) fun o => ?_)
    cases o with
    | true => exact wpS_pure ⟨rfl, _, _, rfl⟩
    | false => exact wpS_pure ⟨rfl, _, _, rfl⟩
  ·rintro c st' ⟨rfl, a, b, rfl⟩
   have hb2 : hint + min b (n - hint) ≤ n := by omega
   refine wpS_bind (wpS_mono (wpS_forRange (I := fun _ c z => z = st' ∧ ∃ a b, c = (none, a, b) ∧ b ≤ n) (Q := fun c z => z = st' ∧ ∃ a b, c = (none, a, b) ∧ b ≤ n) ?_ (fun _ _ hc => hc) ⟨rfl, _, _, rfl, hb2⟩) ?_)
   ·rintro x c z _ _ ⟨rfl, a, b, rfl, hb⟩
    dsimp only
    split
    ·exact wpS_pure ⟨rfl, a, b, rfl, hb⟩
    ·rename_i hab
     refine wpS_bind (beyok _ _ (by omega) fun o => ?_)
     cases o with
     | true => exact wpS_pure ⟨rfl, _, _, rfl, hb⟩
     | false => exact wpS_pure ⟨rfl, _, _, rfl, by omega⟩
   ·rintro c z ⟨rfl, a, b, rfl, hb⟩
    exact wpS_pure (h b hb)
 | false =>
  refine wpS_bind (wpS_mono (wpS_forRange (I := fun _ c st' => st' = st ∧ ∃ a b, c = (none, a, b)) (Q := fun c st' => st' = st ∧ ∃ a b, c = (none, a, b)) ?_ (fun _ _ hc => hc) ⟨rfl, 0, 1, rfl⟩) ?_)
  ·rintro x c st' _ _ ⟨rfl, a, b, rfl⟩
   dsimp only
   split
   ·exact wpS_pure ⟨rfl, a, b, rfl⟩
   ·rename_i hab
    refine wpS_bind (beyok _ _ (by omega) fun o => ?_)
    cases o with
    | true => exact wpS_pure ⟨rfl, _, _, rfl⟩
    | false => exact wpS_pure ⟨rfl, _, _, rfl⟩
  ·rintro c st' ⟨rfl, a, b, rfl⟩
   have hb2 : hint - a ≤ n := by omega
   refine wpS_bind (wpS_mono (wpS_forRange (I := fun _ c z => z = st' ∧ ∃ a b, c = (none, a, b) ∧ b ≤ n) (Q := fun c z => z = st' ∧ ∃ a b, c = (none, a, b) ∧ b ≤ n) ?_ (fun _ _ hc => hc) ⟨rfl, _, _, rfl, hb2⟩) ?_)
   ·rintro x c z _ _ ⟨rfl, a, b, rfl, hb⟩
    dsimp only
    split
    ·exact wpS_pure ⟨rfl, a, b, rfl, hb⟩
    ·rename_i hab
     refine wpS_bind (beyok _ _ (by omega) fun o => ?_)
     cases o with
     | true => exact wpS_pure ⟨rfl, _, _, rfl, hb⟩
     | false => exact wpS_pure ⟨rfl, _, _, rfl, by omega⟩
   ·rintro c z ⟨rfl, a, b, rfl, hb⟩
    exact wpS_pure (h b hb)
end
end SRT
namespace SRT
open PySem PyProof.Rows
abbrev gP (st : SortSt) (g : Nat) : SortSt := SortSt.mk' (kindOf st) (arrOf st) (pendingOf st) g (failedOf st)
section
variable {prog : Program} {w : World} {s : Shared} {A : Around} {E : Value → Shared → Prop}
def cG (a b out : Array Keyed) (i j : Nat) : List Keyed := out.toList ++ (a.toList.drop i ++ b.toList.drop j)
theorem JH {a b out : Array Keyed} {i j : Nat} : (out ++ a.extract i a.size ++ b.extract j b.size).toList = cG a b out i j := by
 unfold cG
 simp [List.take_of_length_le]
theorem JG {a b out : Array Keyed} {i j : Nat} : (out ++ b.extract j b.size ++ a.extract i a.size).toList.Perm (cG a b out i j) := by
 unfold cG
 simp [List.take_of_length_le]
 exact List.Perm.append_left _ List.perm_append_comm
theorem eU {a b out : Array Keyed} {i j : Nat} {p : Keyed} (h : a[i]? = some p) : (cG a b (out.push p) (i + 1) j).Perm (cG a b out i j) := by
 unfold cG
 have hi : i < a.toList.length := by
  have := (Array.getElem?_eq_some_iff.mp h).1
  simpa using this
 have e : a.toList.drop i = p :: a.toList.drop (i + 1) := by
  rw [List.drop_eq_getElem_cons hi]
  have := (Array.getElem?_eq_some_iff.mp h).2
  simp [this]
 rw [e]
 simp
theorem iR {a b out : Array Keyed} {i j : Nat} {p : Keyed} (h : b[j]? = some p) : (cG a b (out.push p) i (j + 1)).Perm (cG a b out i j) := by
 unfold cG
 have hi : j < b.toList.length := by
  have := (Array.getElem?_eq_some_iff.mp h).1
  simpa using this
 have e : b.toList.drop j = p :: b.toList.drop (j + 1) := by
  rw [List.drop_eq_getElem_cons hi]
  have := (Array.getElem?_eq_some_iff.mp h).2
  simp [this]
 rw [e]
 simp
 exact List.Perm.append_left _ List.perm_middle.symm
theorem yd {a b out : Array Keyed} {i j k : Nat} : (cG a b (out ++ a.extract i (i + k)) (i + k) j).Perm (cG a b out i j) := by
 unfold cG
 have e : a.toList.drop i = (a.extract i (i + k)).toList ++ a.toList.drop (i + k) := by
  rw [Array.toList_extract]
  rw [show i + k = i + k from rfl]
  simp [List.extract, ← List.drop_drop]
 rw [e]
 simp
theorem nH {a b out : Array Keyed} {i j k : Nat} : (cG a b (out ++ b.extract j (j + k)) i (j + k)).Perm (cG a b out i j) := by
 unfold cG
 have e : b.toList.drop j = (b.extract j (j + k)).toList ++ b.toList.drop (j + k) := by
  rw [Array.toList_extract]
  simp [List.extract, ← List.drop_drop]
 rw [e]
 simp only [Array.toList_append, List.append_assoc]
 refine (List.Perm.append_left _ ?_)
 rw [← List.append_assoc]; rw [← List.append_assoc]
 exact (List.Perm.append_right _ List.perm_append_comm)
def LoI (a b out : Array Keyed) (i j : Nat) : Prop := (cG a b out i j).Perm (a.toList ++ b.toList) ∧ i + 1 < a.size ∧ j < b.size
def Av (a b : Array Keyed) (c : Option (Array Keyed)) : Prop := ∃ r, c = some r ∧ r.toList.Perm (a.toList ++ b.toList)
theorem v5 {st : SortSt} {a b : Array Keyed} {Q : Array Keyed → SortSt → Prop} (hk : kindOf st = oneType') (ha : eY a) (hb : eY b) (h1 : 1 ≤ a.size) (h2 : 1 ≤ b.size)
  (h : ∀ out g, out.toList.Perm (a.toList ++ b.toList) → Q out (gP st g)) : wpS (model prog w) A E s (Ej a b) Q st := by
 refine wpS_bind (wpS_lift (wpAny_rule (And.intro rfl ?_)))
 refine wpS_bind (aO (by omega) fun p hp => ?_)
 dsimp only
 have p0 : (cG a b #[p] 0 1).Perm (a.toList ++ b.toList) := by
  have := iR (a := a) (b := b) (out := #[]) (i := 0) (j := 0) hp
  unfold cG at this ⊢
  simpa using this
 have dn : ∀ {out : Array Keyed} {i j : Nat}, (cG a b out i j).Perm (a.toList ++ b.toList) → (out ++ a.extract i a.size ++ b.extract j b.size).toList.Perm (a.toList ++ b.toList) := fun {out i j} hh => by rw [JH]; exact hh
 have ls : ∀ {out : Array Keyed} {i j : Nat}, (cG a b out i j).Perm (a.toList ++ b.toList) → (out ++ b.extract j b.size ++ a.extract i a.size).toList.Perm (a.toList ++ b.toList) := fun {out i j} hh => JG.trans hh
 by_cases hb1 : (1 == b.size) = true
 ·rw [if_pos hb1]
  exact wpS_pure (h _ (gallopOf st) (dn p0))
 ·rw [if_neg hb1]
  by_cases ha1 : (0 + 1 == a.size) = true
  ·rw [if_pos ha1]
   exact wpS_pure (h _ (gallopOf st) (ls p0))
  ·rw [if_neg ha1]
   have hb1' : 1 < b.size := by have : ¬ (1 = b.size) := (by simpa using hb1); omega
   have ha1' : 0 + 1 < a.size := by have : ¬ (0 + 1 = a.size) := (by simpa using ha1); omega
   refine wpS_bind (wpS_get ?_)
   refine wpS_bind (wpS_mono (wpS_forRange (I := fun x c z => ∃ g, z = gP st g ∧ ∃ out i j m, c = (none, out, i, j, m) ∧ LoI a b out i j ∧ x ≤ i + j) (Q := fun c z => ∃ g, z = gP st g ∧ Av a b c.1) ?step ?fin ⟨gallopOf st, rfl, _, _, _, _, rfl, ⟨p0, ha1', hb1'⟩, Nat.zero_le _⟩) ?post)
   case post =>
    rintro c z ⟨g, rfl, r, hr, hp⟩
    rw [hr]
    exact wpS_pure (h r g hp)
   case fin =>
    rintro c z ⟨g, rfl, out, i, j, m, rfl, ⟨_, l1, l2⟩, hx⟩
    exfalso
    omega
   case step =>
    rintro x c z _ hx ⟨g, rfl, out, i, j, m, rfl, hI, hxi⟩
    dsimp only
    refine wpS_bind (wpS_mono (wpS_forRange (I := fun y c z => z = gP st g ∧ ∃ out i j ac bc, c = (none, out, i, j, ac, bc) ∧ LoI a b out i j ∧ x + y ≤ i + j) (Q := fun c z => z = gP st g ∧ (Av a b c.1 ∨ ∃ out i j ac bc, c = (none, out, i, j, ac, bc) ∧ LoI a b out i j ∧ x + 1 ≤ i + j)) ?step1 ?fin1 ⟨rfl, _, _, _, _, _, rfl, hI, hxi⟩) ?post1)
    case fin1 =>
     rintro c z ⟨rfl, out, i, j, ac, bc, rfl, ⟨_, l1, l2⟩, hy⟩
     exfalso
     omega
    case step1 =>
     rintro y c z _ hy ⟨rfl, out, i, j, ac, bc, rfl, ⟨pm, l1, l2⟩, hyi⟩
     dsimp only
     refine wpS_bind (aO l2 fun q hq => ?_)
     refine wpS_bind (aO (show i < a.size by omega) fun r hr => ?_)
     refine wpS_bind (uM hk (hb _ _ hq) (ha _ _ hr) fun o => ?_)
     cases o with
     | true =>
      refine wpS_bind (aO l2 fun q hq => ?_)
      have pm2 := (iR (a := a) (out := out) (i := i) hq).trans pm
      split
      ·exact wpS_pure ⟨rfl, .inl ⟨_, rfl, dn pm2⟩⟩
      ·rename_i hj
       have l2' : j + 1 < b.size := by have : ¬ (j + 1 = b.size) := (by simpa using hj); omega
       split
       ·exact wpS_pure ⟨rfl, .inr ⟨_, _, _, _, _, rfl, ⟨pm2, l1, l2'⟩, by omega⟩⟩
       ·exact wpS_pure ⟨rfl, _, _, _, _, _, rfl, ⟨pm2, l1, l2'⟩, by omega⟩
     | false =>
      refine wpS_bind (aO (show i < a.size by omega) fun r hr => ?_)
      have pm2 := (eU (b := b) (out := out) (j := j) hr).trans pm
      split
      ·exact wpS_pure ⟨rfl, .inl ⟨_, rfl, ls pm2⟩⟩
      ·rename_i hj
       have l1' : i + 1 + 1 < a.size := by have : ¬ (i + 1 + 1 = a.size) := (by simpa using hj); omega
       split
       ·exact wpS_pure ⟨rfl, .inr ⟨_, _, _, _, _, rfl, ⟨pm2, l1', l2⟩, by omega⟩⟩
       ·exact wpS_pure ⟨rfl, _, _, _, _, _, rfl, ⟨pm2, l1', l2⟩, by omega⟩
    case post1 =>
     rintro c z ⟨rfl, hc⟩
     rcases hc with ⟨r, hr, hp⟩ | ⟨out, i, j, ac, bc, rfl, hI1, hxi1⟩
     ·rw [hr]
      exact wpS_pure ⟨g, rfl, r, rfl, hp⟩
     ·dsimp only
      refine wpS_bind (wpS_lift (wpAny_rule (And.intro rfl ?_)))
      refine wpS_bind (wpS_mono (wpS_forRange (I := fun y c z => ∃ g, z = gP st g ∧ ∃ out i j m ac bc, c = (none, out, i, j, m, ac, bc) ∧ LoI a b out i j ∧ x + 1 ≤ i + j) (Q := fun c z => ∃ g, z = gP st g ∧ (Av a b c.1 ∨ ∃ out i j m ac bc, c = (none, out, i, j, m, ac, bc) ∧ LoI a b out i j ∧ x + 1 ≤ i + j)) ?step2 (fun c z ⟨g, hz, hc⟩ => ⟨g, hz, .inr hc⟩) ⟨g, rfl, _, _, _, _, _, _, rfl, hI1, hxi1⟩) ?post2)
      case post2 =>
       rintro c z ⟨g, rfl, hc⟩
       rcases hc with ⟨r, hr, hp⟩ | ⟨out, i, j, m, ac, bc, rfl, hI1, hxi1⟩
       ·rw [hr]
        exact wpS_pure ⟨g, rfl, r, rfl, hp⟩
       ·refine wpS_bind (wpS_modify ?_)
        exact wpS_pure ⟨m + 1, rfl, _, _, _, _, rfl, hI1, hxi1⟩
      case step2 =>
       rintro y c z _ hy ⟨g, rfl, out, i, j, m, ac, bc, rfl, ⟨pm, l1, l2⟩, hyi⟩
       dsimp only
       by_cases hm : m > 1
       ·rw [if_pos hm]
        refine wpS_bind (wpS_modify ?_)
        refine wpS_bind (aO l2 fun q hq => ?_)
        refine wpS_bind (bT hk (hb _ _ hq) ha (by omega) (by omega) fun k hkn => ?_)
        dsimp only
        by_cases hk0 : k > 0
        ·rw [if_pos hk0]
         have pm1 := (yd (k := k)).trans pm
         by_cases e1 : (i + k + 1 == a.size) = true
         ·rw [if_pos e1]
          exact wpS_pure ⟨_, rfl, .inl ⟨_, rfl, ls pm1⟩⟩
         ·rw [if_neg e1]
          by_cases e2 : (i + k == a.size) = true
          ·rw [if_pos e2]
           exact wpS_pure ⟨_, rfl, .inl ⟨_, rfl, dn pm1⟩⟩
          ·rw [if_neg e2]
           have l1' : i + k + 1 < a.size := by
            have : ¬ (i + k + 1 = a.size) := (by simpa using e1)
            have : ¬ (i + k = a.size) := (by simpa using e2)
            omega
           refine wpS_bind (aO l2 fun q2 hq2 => ?_)
           have pm2 := (iR hq2).trans pm1
           by_cases e3 : (j + 1 == b.size) = true
           ·rw [if_pos e3]
            exact wpS_pure ⟨_, rfl, .inl ⟨_, rfl, dn pm2⟩⟩
           ·rw [if_neg e3]
            have l2' : j + 1 < b.size := by
             have : ¬ (j + 1 = b.size) := (by simpa using e3)
             omega
            refine wpS_bind (aO (show i + k < a.size by omega) fun r2 hr2 => ?_)
            refine wpS_bind (bT hk (ha _ _ hr2) hb (by omega) (by omega) fun k2 hk2 => ?_)
            dsimp only
            by_cases k20 : k2 > 0
            ·rw [if_pos k20]
             have pm3 := (nH (k := k2)).trans pm2
             by_cases e4 : (j + 1 + k2 == b.size) = true
             ·rw [if_pos e4]
              exact wpS_pure ⟨_, rfl, .inl ⟨_, rfl, dn pm3⟩⟩
             ·rw [if_neg e4]
              have l2'' : j + 1 + k2 < b.size := by
               have : ¬ (j + 1 + k2 = b.size) := (by simpa using e4)
               omega
              refine wpS_bind (aO (show i + k < a.size by omega) fun r3 hr3 => ?_)
              have pm4 := (eU hr3).trans pm3
              by_cases e5 : (i + k + 1 + 1 == a.size) = true
              ·rw [if_pos e5]
               exact wpS_pure ⟨_, rfl, .inl ⟨_, rfl, ls pm4⟩⟩
              ·rw [if_neg e5]
               have l9 : i + k + 1 + 1 < a.size := by
                have : ¬ (i + k + 1 + 1 = a.size) := (by simpa using e5)
                omega
               split
               ·exact wpS_pure ⟨_, rfl, .inr ⟨_, _, _, _, _, _, rfl, ⟨pm4, l9, l2''⟩, by omega⟩⟩
               ·exact wpS_pure ⟨_, rfl, _, _, _, _, _, _, rfl, ⟨pm4, l9, l2''⟩, by omega⟩
            ·rw [if_neg k20]
             refine wpS_bind (aO (show i + k < a.size by omega) fun r3 hr3 => ?_)
             have pm4 := (eU hr3).trans pm2
             by_cases e5 : (i + k + 1 + 1 == a.size) = true
             ·rw [if_pos e5]
              exact wpS_pure ⟨_, rfl, .inl ⟨_, rfl, ls pm4⟩⟩
             ·rw [if_neg e5]
              have l9 : i + k + 1 + 1 < a.size := by
               have : ¬ (i + k + 1 + 1 = a.size) := (by simpa using e5)
               omega
              split
              ·exact wpS_pure ⟨_, rfl, .inr ⟨_, _, _, _, _, _, rfl, ⟨pm4, l9, l2'⟩, by omega⟩⟩
              ·exact wpS_pure ⟨_, rfl, _, _, _, _, _, _, rfl, ⟨pm4, l9, l2'⟩, by omega⟩
        ·rw [if_neg hk0]
         refine wpS_bind (aO l2 fun q2 hq2 => ?_)
         have pm2 := (iR hq2).trans pm
         by_cases e3 : (j + 1 == b.size) = true
         ·rw [if_pos e3]
          exact wpS_pure ⟨_, rfl, .inl ⟨_, rfl, dn pm2⟩⟩
         ·rw [if_neg e3]
          have l2' : j + 1 < b.size := by
           have : ¬ (j + 1 = b.size) := (by simpa using e3)
           omega
          refine wpS_bind (aO (show i < a.size by omega) fun r2 hr2 => ?_)
          refine wpS_bind (bT hk (ha _ _ hr2) hb (by omega) (by omega) fun k2 hk2 => ?_)
          dsimp only
          by_cases k20 : k2 > 0
          ·rw [if_pos k20]
           have pm3 := (nH (k := k2)).trans pm2
           by_cases e4 : (j + 1 + k2 == b.size) = true
           ·rw [if_pos e4]
            exact wpS_pure ⟨_, rfl, .inl ⟨_, rfl, dn pm3⟩⟩
           ·rw [if_neg e4]
            have l2'' : j + 1 + k2 < b.size := by
             have : ¬ (j + 1 + k2 = b.size) := (by simpa using e4)
             omega
            refine wpS_bind (aO (show i < a.size by omega) fun r3 hr3 => ?_)
            have pm4 := (eU hr3).trans pm3
            by_cases e5 : (i + 1 + 1 == a.size) = true
            ·rw [if_pos e5]
             exact wpS_pure ⟨_, rfl, .inl ⟨_, rfl, ls pm4⟩⟩
            ·rw [if_neg e5]
             have l9 : i + 1 + 1 < a.size := by
              have : ¬ (i + 1 + 1 = a.size) := (by simpa using e5)
              omega
             split
             ·exact wpS_pure ⟨_, rfl, .inr ⟨_, _, _, _, _, _, rfl, ⟨pm4, l9, l2''⟩, by omega⟩⟩
             ·exact wpS_pure ⟨_, rfl, _, _, _, _, _, _, rfl, ⟨pm4, l9, l2''⟩, by omega⟩
          ·rw [if_neg k20]
           refine wpS_bind (aO (show i < a.size by omega) fun r3 hr3 => ?_)
           have pm4 := (eU hr3).trans pm2
           by_cases e5 : (i + 1 + 1 == a.size) = true
           ·rw [if_pos e5]
            exact wpS_pure ⟨_, rfl, .inl ⟨_, rfl, ls pm4⟩⟩
           ·rw [if_neg e5]
            have l9 : i + 1 + 1 < a.size := by
             have : ¬ (i + 1 + 1 = a.size) := (by simpa using e5)
             omega
            split
            ·exact wpS_pure ⟨_, rfl, .inr ⟨_, _, _, _, _, _, rfl, ⟨pm4, l9, l2'⟩, by omega⟩⟩
            ·exact wpS_pure ⟨_, rfl, _, _, _, _, _, _, rfl, ⟨pm4, l9, l2'⟩, by omega⟩
       ·rw [if_neg hm]
        refine wpS_bind (wpS_modify ?_)
        refine wpS_bind (aO l2 fun q hq => ?_)
        refine wpS_bind (bT hk (hb _ _ hq) ha (by omega) (by omega) fun k hkn => ?_)
        dsimp only
        by_cases hk0 : k > 0
        ·rw [if_pos hk0]
         have pm1 := (yd (k := k)).trans pm
         by_cases e1 : (i + k + 1 == a.size) = true
         ·rw [if_pos e1]
          exact wpS_pure ⟨_, rfl, .inl ⟨_, rfl, ls pm1⟩⟩
         ·rw [if_neg e1]
          by_cases e2 : (i + k == a.size) = true
          ·rw [if_pos e2]
           exact wpS_pure ⟨_, rfl, .inl ⟨_, rfl, dn pm1⟩⟩
          ·rw [if_neg e2]
           have l1' : i + k + 1 < a.size := by
            have : ¬ (i + k + 1 = a.size) := (by simpa using e1)
            have : ¬ (i + k = a.size) := (by simpa using e2)
            omega
           refine wpS_bind (aO l2 fun q2 hq2 => ?_)
           have pm2 := (iR hq2).trans pm1
           by_cases e3 : (j + 1 == b.size) = true
           ·rw [if_pos e3]
            exact wpS_pure ⟨_, rfl, .inl ⟨_, rfl, dn pm2⟩⟩
           ·rw [if_neg e3]
            have l2' : j + 1 < b.size := by
             have : ¬ (j + 1 = b.size) := (by simpa using e3)
             omega
            refine wpS_bind (aO (show i + k < a.size by omega) fun r2 hr2 => ?_)
            refine wpS_bind (bT hk (ha _ _ hr2) hb (by omega) (by omega) fun k2 hk2 => ?_)
            dsimp only
            by_cases k20 : k2 > 0
            ·rw [if_pos k20]
             have pm3 := (nH (k := k2)).trans pm2
             by_cases e4 : (j + 1 + k2 == b.size) = true
             ·rw [if_pos e4]
              exact wpS_pure ⟨_, rfl, .inl ⟨_, rfl, dn pm3⟩⟩
             ·rw [if_neg e4]
              have l2'' : j + 1 + k2 < b.size := by
               have : ¬ (j + 1 + k2 = b.size) := (by simpa using e4)
               omega
              refine wpS_bind (aO (show i + k < a.size by omega) fun r3 hr3 => ?_)
              have pm4 := (eU hr3).trans pm3
              by_cases e5 : (i + k + 1 + 1 == a.size) = true
              ·rw [if_pos e5]
               exact wpS_pure ⟨_, rfl, .inl ⟨_, rfl, ls pm4⟩⟩
              ·rw [if_neg e5]
               have l9 : i + k + 1 + 1 < a.size := by
                have : ¬ (i + k + 1 + 1 = a.size) := (by simpa using e5)
                omega
               split
               ·exact wpS_pure ⟨_, rfl, .inr ⟨_, _, _, _, _, _, rfl, ⟨pm4, l9, l2''⟩, by omega⟩⟩
               ·exact wpS_pure ⟨_, rfl, _, _, _, _, _, _, rfl, ⟨pm4, l9, l2''⟩, by omega⟩
            ·rw [if_neg k20]
             refine wpS_bind (aO (show i + k < a.size by omega) fun r3 hr3 => ?_)
             have pm4 := (eU hr3).trans pm2
             by_cases e5 : (i + k + 1 + 1 == a.size) = true
             ·rw [if_pos e5]
              exact wpS_pure ⟨_, rfl, .inl ⟨_, rfl, ls pm4⟩⟩
             ·rw [if_neg e5]
              have l9 : i + k + 1 + 1 < a.size := by
               have : ¬ (i + k + 1 + 1 = a.size) := (by simpa using e5)
               omega
              split
              ·exact wpS_pure ⟨_, rfl, .inr ⟨_, _, _, _, _, _, rfl, ⟨pm4, l9, l2'⟩, by omega⟩⟩
              ·exact wpS_pure ⟨_, rfl, _, _, _, _, _, _, rfl, ⟨pm4, l9, l2'⟩, by omega⟩
        ·rw [if_neg hk0]
         refine wpS_bind (aO l2 fun q2 hq2 => ?_)
         have pm2 := (iR hq2).trans pm
         by_cases e3 : (j + 1 == b.size) = true
         ·rw [if_pos e3]
          exact wpS_pure ⟨_, rfl, .inl ⟨_, rfl, dn pm2⟩⟩
         ·rw [if_neg e3]
          have l2' : j + 1 < b.size := by
           have : ¬ (j + 1 = b.size) := (by simpa using e3)
           omega
          refine wpS_bind (aO (show i < a.size by omega) fun r2 hr2 => ?_)
          refine wpS_bind (bT hk (ha _ _ hr2) hb (by omega) (by omega) fun k2 hk2 => ?_)
          dsimp only
          by_cases k20 : k2 > 0
          ·rw [if_pos k20]
           have pm3 := (nH (k := k2)).trans pm2
           by_cases e4 : (j + 1 + k2 == b.size) = true
           ·rw [if_pos e4]
            exact wpS_pure ⟨_, rfl, .inl ⟨_, rfl, dn pm3⟩⟩
           ·rw [if_neg e4]
            have l2'' : j + 1 + k2 < b.size := by
             have : ¬ (j + 1 + k2 = b.size) := (by simpa using e4)
             omega
            refine wpS_bind (aO (show i < a.size by omega) fun r3 hr3 => ?_)
            have pm4 := (eU hr3).trans pm3
            by_cases e5 : (i + 1 + 1 == a.size) = true
            ·rw [if_pos e5]
             exact wpS_pure ⟨_, rfl, .inl ⟨_, rfl, ls pm4⟩⟩
            ·rw [if_neg e5]
             have l9 : i + 1 + 1 < a.size := by
              have : ¬ (i + 1 + 1 = a.size) := (by simpa using e5)
              omega
             split
             ·exact wpS_pure ⟨_, rfl, .inr ⟨_, _, _, _, _, _, rfl, ⟨pm4, l9, l2''⟩, by omega⟩⟩
             ·exact wpS_pure ⟨_, rfl, _, _, _, _, _, _, rfl, ⟨pm4, l9, l2''⟩, by omega⟩
          ·rw [if_neg k20]
           refine wpS_bind (aO (show i < a.size by omega) fun r3 hr3 => ?_)
           have pm4 := (eU hr3).trans pm2
           by_cases e5 : (i + 1 + 1 == a.size) = true
           ·rw [if_pos e5]
            exact wpS_pure ⟨_, rfl, .inl ⟨_, rfl, ls pm4⟩⟩
           ·rw [if_neg e5]
            have l9 : i + 1 + 1 < a.size := by
             have : ¬ (i + 1 + 1 = a.size) := (by simpa using e5)
             omega
            split
            ·exact wpS_pure ⟨_, rfl, .inr ⟨_, _, _, _, _, _, rfl, ⟨pm4, l9, l2'⟩, by omega⟩⟩
            ·exact wpS_pure ⟨_, rfl, _, _, _, _, _, _, rfl, ⟨pm4, l9, l2'⟩, by omega⟩
end
end SRT
namespace SRT
open PySem PyProof.Rows
section
variable {prog : Program} {w : World} {s : Shared} {A : Around} {E : Value → Shared → Prop}
def cP (a b out : Array Keyed) (i j : Nat) : List Keyed := (a.toList.take i ++ b.toList.take j) ++ out.toList
theorem J5 {a b out : Array Keyed} {i j : Nat} : (a.extract 0 i ++ b.extract 0 j ++ out.reverse).toList.Perm (cP a b out i j) := by
 unfold cP
 simp
 exact List.Perm.append_left _ (List.Perm.append_left _ (List.reverse_perm _))
theorem Fi {a b out : Array Keyed} {i j : Nat} : (b.extract 0 j ++ a.extract 0 i ++ out.reverse).toList.Perm (cP a b out i j) := by
 unfold cP
 simp
 rw [← List.append_assoc]; rw [← List.append_assoc]
 exact List.Perm.append List.perm_append_comm (List.reverse_perm _)
theorem tL {xs : List Keyed} {x i : Nat} (h : x ≤ i) : xs.take i = xs.take x ++ (xs.drop x).take (i - x) := by
 conv => lhs; rw [show i = x + (i - x) by omega, List.take_add]
theorem sS {a b out : Array Keyed} {i j x : Nat} (h : x ≤ i) : (cP a b (out ++ (a.extract x i).reverse) x j).Perm (cP a b out i j) := by
 unfold cP
 rw [tL (xs := a.toList) h]
 simp [List.extract]
 refine (List.Perm.append_left _ ?_)
 rw [← List.append_assoc]
 refine (List.perm_append_comm (l₁ := List.take j b.toList ++ out.toList)).trans ?_
 exact List.Perm.append_right _ (List.reverse_perm _)
theorem lJ {a b out : Array Keyed} {i j x : Nat} (h : x ≤ j) : (cP a b (out ++ (b.extract x j).reverse) i x).Perm (cP a b out i j) := by
 unfold cP
 rw [tL (xs := b.toList) h]
 simp [List.extract]
 refine List.Perm.append_left _ (List.Perm.append_left _ ?_)
 exact List.perm_append_comm.trans (List.Perm.append_right _ (List.reverse_perm _))
theorem yu {a : Array Keyed} {i : Nat} {p : Keyed} (h : a[i]? = some p) : (a.extract i (i + 1)).reverse = #[p] := by
 have := (Array.getElem?_eq_some_iff.mp h)
 obtain ⟨h1, h2⟩ := this
 apply Array.ext'
 simp [List.extract]
 rw [List.drop_eq_getElem_cons (by simpa using h1)]
 simp [h2]
theorem dB {a b out : Array Keyed} {i j : Nat} {p : Keyed} (h1 : 1 ≤ i) (h : a[i - 1]? = some p) : (cP a b (out.push p) (i - 1) j).Perm (cP a b out i j) := by
 have := sS (a := a) (b := b) (out := out) (j := j) (x := i - 1) (i := i - 1 + 1) (by omega)
 rw [yu h] at this
 rw [show i - 1 + 1 = i by omega] at this
 exact this
theorem jB {a b out : Array Keyed} {i j : Nat} {p : Keyed} (h1 : 1 ≤ j) (h : b[j - 1]? = some p) : (cP a b (out.push p) i (j - 1)).Perm (cP a b out i j) := by
 have := lJ (a := a) (b := b) (out := out) (i := i) (x := j - 1) (j := j - 1 + 1) (by omega)
 rw [yu h] at this
 rw [show j - 1 + 1 = j by omega] at this
 exact this
def HiI (a b out : Array Keyed) (i j : Nat) : Prop := (cP a b out i j).Perm (a.toList ++ b.toList) ∧ 0 < i ∧ 1 < j ∧ i ≤ a.size ∧ j ≤ b.size
theorem v7 {st : SortSt} {a b : Array Keyed} {Q : Array Keyed → SortSt → Prop} (hk : kindOf st = oneType') (ha : eY a) (hb : eY b) (h1 : 1 ≤ a.size) (h2 : 1 ≤ b.size)
  (h : ∀ out g, out.toList.Perm (a.toList ++ b.toList) → Q out (gP st g)) : wpS (model prog w) A E s (Ek a b) Q st := by
 refine wpS_bind (wpS_lift (wpAny_rule (And.intro rfl ?_)))
 refine wpS_bind (aO (show a.size - 1 < a.size by omega) fun p hp => ?_)
 dsimp only
 have p0 : (cP a b #[p] (a.size - 1) b.size).Perm (a.toList ++ b.toList) := by
  have := dB (a := a) (b := b) (out := #[]) (i := a.size) (j := b.size) (by omega) hp
  refine this.trans ?_
  unfold cP
  simp [List.take_of_length_le]
 have dn : ∀ {out : Array Keyed} {i j : Nat}, (cP a b out i j).Perm (a.toList ++ b.toList) → (a.extract 0 i ++ b.extract 0 j ++ out.reverse).toList.Perm (a.toList ++ b.toList) := fun {out i j} hh => J5.trans hh
 have ls : ∀ {out : Array Keyed} {i j : Nat}, (cP a b out i j).Perm (a.toList ++ b.toList) → (b.extract 0 j ++ a.extract 0 i ++ out.reverse).toList.Perm (a.toList ++ b.toList) := fun {out i j} hh => Fi.trans hh
 by_cases ha1 : (a.size - 1 == 0) = true
 ·rw [if_pos ha1]
  exact wpS_pure (h _ (gallopOf st) (dn p0))
 ·rw [if_neg ha1]
  by_cases hb1 : (b.size == 1) = true
  ·rw [if_pos hb1]
   exact wpS_pure (h _ (gallopOf st) (ls p0))
  ·rw [if_neg hb1]
   have hb1' : 1 < b.size := by
    have : ¬ (b.size = 1) := (by simpa using hb1)
    omega
   have ha1' : 0 < a.size - 1 := by
    have : ¬ (a.size - 1 = 0) := (by simpa using ha1)
    omega
   refine wpS_bind (wpS_get ?_)
   refine wpS_bind (wpS_mono (wpS_forRange (I := fun x c z => ∃ g, z = gP st g ∧ ∃ i j out m, c = (none, i, j, out, m) ∧ HiI a b out i j ∧ i + j + x ≤ a.size + b.size) (Q := fun c z => ∃ g, z = gP st g ∧ Av a b c.1) ?step ?fin ⟨gallopOf st, rfl, _, _, _, _, rfl, ⟨p0, ha1', hb1', by omega, Nat.le_refl _⟩, by omega⟩) ?post)
   case post =>
    rintro c z ⟨g, rfl, r, hr, hp⟩
    rw [hr]
    exact wpS_pure (h r g hp)
   case fin =>
    rintro c z ⟨g, rfl, i, j, out, m, rfl, ⟨_, l1, l2, _, _⟩, hx⟩
    exfalso
    omega
   case step =>
    rintro x c z _ hx ⟨g, rfl, i, j, out, m, rfl, hI, hxi⟩
    dsimp only
    refine wpS_bind (wpS_mono (wpS_forRange (I := fun y c z => z = gP st g ∧ ∃ i j out ac bc, c = (none, i, j, out, ac, bc) ∧ HiI a b out i j ∧ i + j + (x + y) ≤ a.size + b.size) (Q := fun c z => z = gP st g ∧ (Av a b c.1 ∨ ∃ i j out ac bc, c = (none, i, j, out, ac, bc) ∧ HiI a b out i j ∧ i + j + (x + 1) ≤ a.size + b.size)) ?step1 ?fin1 ⟨rfl, _, _, _, _, _, rfl, hI, hxi⟩) ?post1)
    case fin1 =>
     rintro c z ⟨rfl, i, j, out, ac, bc, rfl, ⟨_, l1, l2, _, _⟩, hy⟩
     exfalso
     omega
    case step1 =>
     rintro y c z _ hy ⟨rfl, i, j, out, ac, bc, rfl, ⟨pm, l1, l2, u1, u2⟩, hyi⟩
     dsimp only
     refine wpS_bind (aO (show j - 1 < b.size by omega) fun q hq => ?_)
     refine wpS_bind (aO (show i - 1 < a.size by omega) fun r hr => ?_)
     refine wpS_bind (uM hk (hb _ _ hq) (ha _ _ hr) fun o => ?_)
     cases o with
     | true =>
      refine wpS_bind (aO (show i - 1 < a.size by omega) fun r hr => ?_)
      have pm2 := (dB (b := b) (out := out) (j := j) (by omega) hr).trans pm
      split
      ·exact wpS_pure ⟨rfl, .inl ⟨_, rfl, dn pm2⟩⟩
      ·rename_i hj
       have l1' : 0 < i - 1 := by
        have : ¬ (i - 1 = 0) := (by simpa using hj)
        omega
       split
       ·exact wpS_pure ⟨rfl, .inr ⟨_, _, _, _, _, rfl, ⟨pm2, l1', l2, by omega, u2⟩, by omega⟩⟩
       ·exact wpS_pure ⟨rfl, _, _, _, _, _, rfl, ⟨pm2, l1', l2, by omega, u2⟩, by omega⟩
     | false =>
      refine wpS_bind (aO (show j - 1 < b.size by omega) fun q hq => ?_)
      have pm2 := (jB (a := a) (out := out) (i := i) (by omega) hq).trans pm
      split
      ·exact wpS_pure ⟨rfl, .inl ⟨_, rfl, ls pm2⟩⟩
      ·rename_i hj
       have l2' : 1 < j - 1 := by
        have : ¬ (j - 1 = 1) := (by simpa using hj)
        omega
       split
       ·exact wpS_pure ⟨rfl, .inr ⟨_, _, _, _, _, rfl, ⟨pm2, l1, l2', u1, by omega⟩, by omega⟩⟩
       ·exact wpS_pure ⟨rfl, _, _, _, _, _, rfl, ⟨pm2, l1, l2', u1, by omega⟩, by omega⟩
    case post1 =>
     rintro c z ⟨rfl, hc⟩
     rcases hc with ⟨r, hr, hp⟩ | ⟨i, j, out, ac, bc, rfl, hI1, hxi1⟩
     ·rw [hr]
      exact wpS_pure ⟨g, rfl, r, rfl, hp⟩
     ·dsimp only
      refine wpS_bind (wpS_lift (wpAny_rule (And.intro rfl ?_)))
      refine wpS_bind (wpS_mono (wpS_forRange (I := fun y c z => ∃ g, z = gP st g ∧ ∃ i j out m ac bc, c = (none, i, j, out, m, ac, bc) ∧ HiI a b out i j ∧ i + j + (x + 1) ≤ a.size + b.size) (Q := fun c z => ∃ g, z = gP st g ∧ (Av a b c.1 ∨ ∃ i j out m ac bc, c = (none, i, j, out, m, ac, bc) ∧ HiI a b out i j ∧ i + j + (x + 1) ≤ a.size + b.size)) ?step2 (fun c z ⟨g, hz, hc⟩ => ⟨g, hz, .inr hc⟩) ⟨g, rfl, _, _, _, _, _, _, rfl, hI1, hxi1⟩) ?post2)
      case post2 =>
       rintro c z ⟨g, rfl, hc⟩
       rcases hc with ⟨r, hr, hp⟩ | ⟨i, j, out, m, ac, bc, rfl, hI1, hxi1⟩
       ·rw [hr]
        exact wpS_pure ⟨g, rfl, r, rfl, hp⟩
       ·refine wpS_bind (wpS_modify ?_)
        exact wpS_pure ⟨m + 1, rfl, _, _, _, _, rfl, hI1, hxi1⟩
      case step2 =>
       rintro y c z _ hy ⟨g, rfl, i, j, out, m, ac, bc, rfl, ⟨pm, l1, l2, u1, u2⟩, hyi⟩
       dsimp only
       by_cases hm : m > 1
       ·rw [if_pos hm]
        refine wpS_bind (wpS_modify ?_)
        refine wpS_bind (aO (show j - 1 < b.size by omega) fun q hq => ?_)
        refine wpS_bind (bT hk (hb _ _ hq) ha (by omega) (by omega) fun x1 hx1 => ?_)
        dsimp only
        by_cases hk0 : i - x1 > 0
        ·rw [if_pos hk0]
         have pm1 := (sS hx1).trans pm
         by_cases e1 : (x1 == 0) = true
         ·rw [if_pos e1]
          exact wpS_pure ⟨_, rfl, .inl ⟨_, rfl, dn pm1⟩⟩
         ·rw [if_neg e1]
          have l1' : 0 < x1 := by
           have : ¬ (x1 = 0) := (by simpa using e1)
           omega
          refine wpS_bind (aO (show j - 1 < b.size by omega) fun q2 hq2 => ?_)
          have pm2 := (jB (by omega) hq2).trans pm1
          by_cases e3 : (j - 1 == 1) = true
          ·rw [if_pos e3]
           exact wpS_pure ⟨_, rfl, .inl ⟨_, rfl, ls pm2⟩⟩
          ·rw [if_neg e3]
           have l2' : 1 < j - 1 := by
            have : ¬ (j - 1 = 1) := (by simpa using e3)
            omega
           refine wpS_bind (aO (show x1 - 1 < a.size by omega) fun r2 hr2 => ?_)
           refine wpS_bind (bT hk (ha _ _ hr2) hb (by omega) (by omega) fun x2 hx2 => ?_)
           dsimp only
           by_cases k20 : j - 1 - x2 > 0
           ·rw [if_pos k20]
            have pm3 := (lJ hx2).trans pm2
            by_cases e4 : (x2 == 1) = true
            ·rw [if_pos e4]
             exact wpS_pure ⟨_, rfl, .inl ⟨_, rfl, ls pm3⟩⟩
            ·rw [if_neg e4]
             by_cases e6 : (x2 == 0) = true
             ·rw [if_pos e6]
              exact wpS_pure ⟨_, rfl, .inl ⟨_, rfl, dn pm3⟩⟩
             ·rw [if_neg e6]
              have l2'' : 1 < x2 := by
               have : ¬ (x2 = 1) := (by simpa using e4)
               have : ¬ (x2 = 0) := (by simpa using e6)
               omega
              refine wpS_bind (aO (show x1 - 1 < a.size by omega) fun r3 hr3 => ?_)
              have pm4 := (dB (by omega) hr3).trans pm3
              by_cases e5 : (x1 - 1 == 0) = true
              ·rw [if_pos e5]
               exact wpS_pure ⟨_, rfl, .inl ⟨_, rfl, dn pm4⟩⟩
              ·rw [if_neg e5]
               have l9 : 0 < x1 - 1 := by
                have : ¬ (x1 - 1 = 0) := (by simpa using e5)
                omega
               split
               ·exact wpS_pure ⟨_, rfl, .inr ⟨_, _, _, _, _, _, rfl, ⟨pm4, l9, l2'', by omega, by omega⟩, by omega⟩⟩
               ·exact wpS_pure ⟨_, rfl, _, _, _, _, _, _, rfl, ⟨pm4, l9, l2'', by omega, by omega⟩, by omega⟩
           ·rw [if_neg k20]
            refine wpS_bind (aO (show x1 - 1 < a.size by omega) fun r3 hr3 => ?_)
            have pm4 := (dB (by omega) hr3).trans pm2
            by_cases e5 : (x1 - 1 == 0) = true
            ·rw [if_pos e5]
             exact wpS_pure ⟨_, rfl, .inl ⟨_, rfl, dn pm4⟩⟩
            ·rw [if_neg e5]
             have l9 : 0 < x1 - 1 := by
              have : ¬ (x1 - 1 = 0) := (by simpa using e5)
              omega
             split
             ·exact wpS_pure ⟨_, rfl, .inr ⟨_, _, _, _, _, _, rfl, ⟨pm4, l9, l2', by omega, by omega⟩, by omega⟩⟩
             ·exact wpS_pure ⟨_, rfl, _, _, _, _, _, _, rfl, ⟨pm4, l9, l2', by omega, by omega⟩, by omega⟩
        ·rw [if_neg hk0]
         refine wpS_bind (aO (show j - 1 < b.size by omega) fun q2 hq2 => ?_)
         have pm2 := (jB (by omega) hq2).trans pm
         by_cases e3 : (j - 1 == 1) = true
         ·rw [if_pos e3]
          exact wpS_pure ⟨_, rfl, .inl ⟨_, rfl, ls pm2⟩⟩
         ·rw [if_neg e3]
          have l2' : 1 < j - 1 := by
           have : ¬ (j - 1 = 1) := (by simpa using e3)
           omega
          refine wpS_bind (aO (show i - 1 < a.size by omega) fun r2 hr2 => ?_)
          refine wpS_bind (bT hk (ha _ _ hr2) hb (by omega) (by omega) fun x2 hx2 => ?_)
          dsimp only
          by_cases k20 : j - 1 - x2 > 0
          ·rw [if_pos k20]
           have pm3 := (lJ hx2).trans pm2
           by_cases e4 : (x2 == 1) = true
           ·rw [if_pos e4]
            exact wpS_pure ⟨_, rfl, .inl ⟨_, rfl, ls pm3⟩⟩
           ·rw [if_neg e4]
            by_cases e6 : (x2 == 0) = true
            ·rw [if_pos e6]
             exact wpS_pure ⟨_, rfl, .inl ⟨_, rfl, dn pm3⟩⟩
            ·rw [if_neg e6]
             have l2'' : 1 < x2 := by
              have : ¬ (x2 = 1) := (by simpa using e4)
              have : ¬ (x2 = 0) := (by simpa using e6)
              omega
             refine wpS_bind (aO (show i - 1 < a.size by omega) fun r3 hr3 => ?_)
             have pm4 := (dB (by omega) hr3).trans pm3
             by_cases e5 : (i - 1 == 0) = true
             ·rw [if_pos e5]
              exact wpS_pure ⟨_, rfl, .inl ⟨_, rfl, dn pm4⟩⟩
             ·rw [if_neg e5]
              have l9 : 0 < i - 1 := by
               have : ¬ (i - 1 = 0) := (by simpa using e5)
               omega
              split
              ·exact wpS_pure ⟨_, rfl, .inr ⟨_, _, _, _, _, _, rfl, ⟨pm4, l9, l2'', by omega, by omega⟩, by omega⟩⟩
              ·exact wpS_pure ⟨_, rfl, _, _, _, _, _, _, rfl, ⟨pm4, l9, l2'', by omega, by omega⟩, by omega⟩
          ·rw [if_neg k20]
           refine wpS_bind (aO (show i - 1 < a.size by omega) fun r3 hr3 => ?_)
           have pm4 := (dB (by omega) hr3).trans pm2
           by_cases e5 : (i - 1 == 0) = true
           ·rw [if_pos e5]
            exact wpS_pure ⟨_, rfl, .inl ⟨_, rfl, dn pm4⟩⟩
           ·rw [if_neg e5]
            have l9 : 0 < i - 1 := by
             have : ¬ (i - 1 = 0) := (by simpa using e5)
             omega
            split
            ·exact wpS_pure ⟨_, rfl, .inr ⟨_, _, _, _, _, _, rfl, ⟨pm4, l9, l2', by omega, by omega⟩, by omega⟩⟩
            ·exact wpS_pure ⟨_, rfl, _, _, _, _, _, _, rfl, ⟨pm4, l9, l2', by omega, by omega⟩, by omega⟩
       ·rw [if_neg hm]
        refine wpS_bind (wpS_modify ?_)
        refine wpS_bind (aO (show j - 1 < b.size by omega) fun q hq => ?_)
        refine wpS_bind (bT hk (hb _ _ hq) ha (by omega) (by omega) fun x1 hx1 => ?_)
        dsimp only
        by_cases hk0 : i - x1 > 0
        ·rw [if_pos hk0]
         have pm1 := (sS hx1).trans pm
         by_cases e1 : (x1 == 0) = true
         ·rw [if_pos e1]
          exact wpS_pure ⟨_, rfl, .inl ⟨_, rfl, dn pm1⟩⟩
         ·rw [if_neg e1]
          have l1' : 0 < x1 := by
           have : ¬ (x1 = 0) := (by simpa using e1)
           omega
          refine wpS_bind (aO (show j - 1 < b.size by omega) fun q2 hq2 => ?_)
          have pm2 := (jB (by omega) hq2).trans pm1
          by_cases e3 : (j - 1 == 1) = true
          ·rw [if_pos e3]
           exact wpS_pure ⟨_, rfl, .inl ⟨_, rfl, ls pm2⟩⟩
          ·rw [if_neg e3]
           have l2' : 1 < j - 1 := by
            have : ¬ (j - 1 = 1) := (by simpa using e3)
            omega
           refine wpS_bind (aO (show x1 - 1 < a.size by omega) fun r2 hr2 => ?_)
           refine wpS_bind (bT hk (ha _ _ hr2) hb (by omega) (by omega) fun x2 hx2 => ?_)
           dsimp only
           by_cases k20 : j - 1 - x2 > 0
           ·rw [if_pos k20]
            have pm3 := (lJ hx2).trans pm2
            by_cases e4 : (x2 == 1) = true
            ·rw [if_pos e4]
             exact wpS_pure ⟨_, rfl, .inl ⟨_, rfl, ls pm3⟩⟩
            ·rw [if_neg e4]
             by_cases e6 : (x2 == 0) = true
             ·rw [if_pos e6]
              exact wpS_pure ⟨_, rfl, .inl ⟨_, rfl, dn pm3⟩⟩
             ·rw [if_neg e6]
              have l2'' : 1 < x2 := by
               have : ¬ (x2 = 1) := (by simpa using e4)
               have : ¬ (x2 = 0) := (by simpa using e6)
               omega
              refine wpS_bind (aO (show x1 - 1 < a.size by omega) fun r3 hr3 => ?_)
              have pm4 := (dB (by omega) hr3).trans pm3
              by_cases e5 : (x1 - 1 == 0) = true
              ·rw [if_pos e5]
               exact wpS_pure ⟨_, rfl, .inl ⟨_, rfl, dn pm4⟩⟩
              ·rw [if_neg e5]
               have l9 : 0 < x1 - 1 := by
                have : ¬ (x1 - 1 = 0) := (by simpa using e5)
                omega
               split
               ·exact wpS_pure ⟨_, rfl, .inr ⟨_, _, _, _, _, _, rfl, ⟨pm4, l9, l2'', by omega, by omega⟩, by omega⟩⟩
               ·exact wpS_pure ⟨_, rfl, _, _, _, _, _, _, rfl, ⟨pm4, l9, l2'', by omega, by omega⟩, by omega⟩
           ·rw [if_neg k20]
            refine wpS_bind (aO (show x1 - 1 < a.size by omega) fun r3 hr3 => ?_)
            have pm4 := (dB (by omega) hr3).trans pm2
            by_cases e5 : (x1 - 1 == 0) = true
            ·rw [if_pos e5]
             exact wpS_pure ⟨_, rfl, .inl ⟨_, rfl, dn pm4⟩⟩
            ·rw [if_neg e5]
             have l9 : 0 < x1 - 1 := by
              have : ¬ (x1 - 1 = 0) := (by simpa using e5)
              omega
             split
             ·exact wpS_pure ⟨_, rfl, .inr ⟨_, _, _, _, _, _, rfl, ⟨pm4, l9, l2', by omega, by omega⟩, by omega⟩⟩
             ·exact wpS_pure ⟨_, rfl, _, _, _, _, _, _, rfl, ⟨pm4, l9, l2', by omega, by omega⟩, by omega⟩
        ·rw [if_neg hk0]
         refine wpS_bind (aO (show j - 1 < b.size by omega) fun q2 hq2 => ?_)
         have pm2 := (jB (by omega) hq2).trans pm
         by_cases e3 : (j - 1 == 1) = true
         ·rw [if_pos e3]
          exact wpS_pure ⟨_, rfl, .inl ⟨_, rfl, ls pm2⟩⟩
         ·rw [if_neg e3]
          have l2' : 1 < j - 1 := by
           have : ¬ (j - 1 = 1) := (by simpa using e3)
           omega
          refine wpS_bind (aO (show i - 1 < a.size by omega) fun r2 hr2 => ?_)
          refine wpS_bind (bT hk (ha _ _ hr2) hb (by omega) (by omega) fun x2 hx2 => ?_)
          dsimp only
          by_cases k20 : j - 1 - x2 > 0
          ·rw [if_pos k20]
           have pm3 := (lJ hx2).trans pm2
           by_cases e4 : (x2 == 1) = true
           ·rw [if_pos e4]
            exact wpS_pure ⟨_, rfl, .inl ⟨_, rfl, ls pm3⟩⟩
           ·rw [if_neg e4]
            by_cases e6 : (x2 == 0) = true
            ·rw [if_pos e6]
             exact wpS_pure ⟨_, rfl, .inl ⟨_, rfl, dn pm3⟩⟩
            ·rw [if_neg e6]
             have l2'' : 1 < x2 := by
              have : ¬ (x2 = 1) := (by simpa using e4)
              have : ¬ (x2 = 0) := (by simpa using e6)
              omega
             refine wpS_bind (aO (show i - 1 < a.size by omega) fun r3 hr3 => ?_)
             have pm4 := (dB (by omega) hr3).trans pm3
             by_cases e5 : (i - 1 == 0) = true
             ·rw [if_pos e5]
              exact wpS_pure ⟨_, rfl, .inl ⟨_, rfl, dn pm4⟩⟩
             ·rw [if_neg e5]
              have l9 : 0 < i - 1 := by
               have : ¬ (i - 1 = 0) := (by simpa using e5)
               omega
              split
              ·exact wpS_pure ⟨_, rfl, .inr ⟨_, _, _, _, _, _, rfl, ⟨pm4, l9, l2'', by omega, by omega⟩, by omega⟩⟩
              ·exact wpS_pure ⟨_, rfl, _, _, _, _, _, _, rfl, ⟨pm4, l9, l2'', by omega, by omega⟩, by omega⟩
          ·rw [if_neg k20]
           refine wpS_bind (aO (show i - 1 < a.size by omega) fun r3 hr3 => ?_)
           have pm4 := (dB (by omega) hr3).trans pm2
           by_cases e5 : (i - 1 == 0) = true
           ·rw [if_pos e5]
            exact wpS_pure ⟨_, rfl, .inl ⟨_, rfl, dn pm4⟩⟩
           ·rw [if_neg e5]
            have l9 : 0 < i - 1 := by
             have : ¬ (i - 1 = 0) := (by simpa using e5)
             omega
            split
            ·exact wpS_pure ⟨_, rfl, .inr ⟨_, _, _, _, _, _, rfl, ⟨pm4, l9, l2', by omega, by omega⟩, by omega⟩⟩
            ·exact wpS_pure ⟨_, rfl, _, _, _, _, _, _, rfl, ⟨pm4, l9, l2', by omega, by omega⟩, by omega⟩
end
end SRT
namespace SRT
open PySem PyProof.Rows
def Chain : List (Nat × Nat × Nat) → Nat → Nat → Prop
 | [], a, b => a = b
 | (p, n, _) :: t, a, b => p = a ∧ 1 ≤ n ∧ Chain t (a + n) b
theorem Chain.le : ∀ {l : List (Nat × Nat × Nat)} {a b : Nat}, Chain l a b → a ≤ b
 | [], _, _, h => Nat.le_of_eq h
 | (_, n, _) :: _, a, _, ⟨_, _, h⟩ => Nat.le_trans (Nat.le_add_right a n) h.le
theorem Chain.two : ∀ {pre post : List (Nat × Nat × Nat)} {sa na w sb nb v a b : Nat}, Chain (pre ++ (sa, na, w) :: (sb, nb, v) :: post) a b →
  sb = sa + na ∧ 1 ≤ na ∧ 1 ≤ nb ∧ sb + nb ≤ b ∧ Chain (pre ++ (sa, na + nb, w) :: post) a b
 | [], post, sa, na, w, sb, nb, v, a, b, ⟨h1, h2, h3, h4, h5⟩ => by
  have := h5.le
  refine ⟨by omega, h2, h4, by omega, h1, by omega, ?_⟩
  rw [← Nat.add_assoc]
  exact h5
 | (_, _, _) :: pre, post, sa, na, w, sb, nb, v, a, b, ⟨h1, h2, h3⟩ => by
  obtain ⟨k1, k2, k3, k4, k5⟩ := Chain.two h3
  exact ⟨k1, k2, k3, k4, h1, h2, k5⟩
theorem Chain.snoc : ∀ {l : List (Nat × Nat × Nat)} {a b n w : Nat}, Chain l a b → 1 ≤ n → Chain (l ++ [(b, n, w)]) a (b + n)
 | [], a, b, n, w, h, h1 => by cases h; exact ⟨rfl, h1, rfl⟩
 | (_, _, _) :: t, a, b, n, w, ⟨k1, k2, k3⟩, h1 => ⟨k1, k2, k3.snoc h1⟩
theorem Chain.ug : ∀ {l : List (Nat × Nat × Nat)} {a b p n w v : Nat}, Chain (l ++ [(p, n, w)]) a b → Chain (l ++ [(p, n, v)]) a b
 | [], a, b, p, n, w, v, h => h
 | (_, _, _) :: t, a, b, p, n, w, v, ⟨k1, k2, k3⟩ => ⟨k1, k2, k3.ug⟩
theorem eY.perm {a b : Array Keyed} (h : eY a) (hp : b.toList.Perm a.toList) : eY b := by
 intro i p hi
 have h1 : p ∈ b.toList := by rw [← Array.getElem?_toList] at hi; exact List.mem_of_getElem? hi
 obtain ⟨j, hj⟩ := List.getElem?_of_mem (hp.mem_iff.mp h1)
 exact h j p (by rw [← Array.getElem?_toList]; exact hj)
theorem eY.ext {a : Array Keyed} (h : eY a) (x y : Nat) : eY (a.extract x y) := by
 intro i p hi
 rw [Array.getElem?_extract] at hi
 split at hi
 ·exact h _ p hi
 ·cases hi
theorem xR : ∀ (m : List Keyed) (k : Nat) (l1 l2 l3 : List Keyed) (sa : Nat), l1.length = sa + k → l2.length = m.length → ∀ a : Array Keyed, a.toList = l1 ++ (l2 ++ l3) →
  ((m.zipIdx k).foldl (fun a (x : Keyed × Nat) => a.setIfInBounds (sa + x.2) x.1) a).toList = l1 ++ (m ++ l3)
 | [], k, l1, l2, l3, sa, h1, h2, a, ha => by
  have : l2 = [] := List.eq_nil_of_length_eq_zero h2
  subst this
  exact ha
 | x :: m, k, l1, [], l3, sa, h1, h2, a, ha => by cases h2
 | x :: m, k, l1, y :: l2, l3, sa, h1, h2, a, ha => by
  rw [List.zipIdx_cons, List.foldl_cons]
  have h2' : l2.length = m.length := by simpa using h2
  have := xR m (k + 1) (l1 ++ [x]) l2 l3 sa (by simp; omega) h2' (a.setIfInBounds (sa + k) x) (by
   rw [Array.toList_setIfInBounds, ha, List.set_append_right _ _ (by omega), h1, Nat.sub_self]
   simp)
  rw [this]
  simp
theorem uy {a m : Array Keyed} {sa sb e : Nat} (h1 : sa ≤ sb) (h2 : sb ≤ e) (h3 : e ≤ a.size) (hm : m.toList.Perm ((a.extract sa sb).toList ++ (a.extract sb e).toList)) :
  (m.toList.zipIdx.foldl (fun a (x : Keyed × Nat) => a.setIfInBounds (sa + x.2) x.1) a).toList.Perm a.toList := by
 have ea : a.toList = a.toList.take sa ++ (((a.extract sa sb).toList ++ (a.extract sb e).toList) ++ a.toList.drop e) := by
  apply List.ext_getElem?
  intro i
  simp only [Array.toList_extract, List.extract_eq_take_drop, List.getElem?_append, List.getElem?_take, List.getElem?_drop, List.length_take, List.length_append, List.length_drop, Array.length_toList]
  split
  ·rw [if_pos (by omega)]
  ·split
   ·split
    ·rw [if_pos (by omega)]; congr 1; omega
    ·rw [if_pos (by omega)]; congr 1; omega
   ·congr 1; omega
 have := xR m.toList 0 (a.toList.take sa) _ (a.toList.drop e) sa (by simp; omega) hm.length_eq.symm a ea
 rw [this]
 conv => rhs; rw [ea]
 exact List.Perm.append_left _ (List.Perm.append_right _ hm)
section
variable {prog : Program} {w : World} {s : Shared} {A : Around} {E : Value → Shared → Prop} {a₀ : Array Keyed}
structure MB (a₀ : Array Keyed) (st : SortSt) : Prop where
 kind : kindOf st = oneType'
 perm : (arrOf st).toList.Perm a₀.toList
 fail : failedOf st = none
theorem MB.size {st : SortSt} (h : MB a₀ st) : (arrOf st).size = a₀.size := by simpa using h.perm.length_eq
theorem Gs {σ : Type} {x st : σ} {Q : PUnit → σ → Prop} (h : Q ⟨⟩ x) : wpS (model prog w) A E s (set x : StateT σ Sem PUnit) Q st := by
 unfold wpS; rw [StateT.run_set]; exact wpAny_pure ⟨rfl, h⟩
theorem pO {σ : Type} {st : σ} {b : Bool} {Q : Bool → σ → Prop} (hb : b = true) (h : Q true st) : wpS (model prog w) A E s (pure b : StateT σ Sem Bool) Q st := by
 subst hb; exact wpS_pure h
theorem v8 {st : SortSt} {Q : Bool → SortSt → Prop} {pre post : List (Nat × Nat × Nat)} {sa na pw sb nb pv : Nat} (h0 : eY a₀) (hB : MB a₀ st)
  (hp : (pendingOf st).toList = pre ++ (sa, na, pw) :: (sb, nb, pv) :: post) (hs : sb = sa + na) (ha : 1 ≤ na) (hb : 1 ≤ nb) (he : sb + nb ≤ a₀.size)
  (h : ∀ st', MB a₀ st' → (pendingOf st').toList = pre ++ (sa, na + nb, pw) :: post → Q true st') : wpS (model prog w) A E s (mergeAt' pre.length) Q st := by
 have hA := h0.perm hB.perm
 have hz := hB.size
 refine wpS_bind (wpS_get ?_)
 have e1 : (pendingOf st)[pre.length]? = some (sa, na, pw) := by rw [← Array.getElem?_toList, hp]; simp
 have e2 : (pendingOf st)[pre.length + 1]? = some (sb, nb, pv) := by rw [← Array.getElem?_toList, hp]; simp
 have e3 : (((pendingOf st).setIfInBounds pre.length (sa, na + nb, pw)).eraseIdxIfInBounds (pre.length + 1)).toList = pre ++ (sa, na + nb, pw) :: post := by
  simp [hp, List.set_append_right, List.eraseIdx_append_of_length_le]
 dsimp only [pendingOf] at e1 e2
 dsimp only
 rw [e1, e2]
 dsimp only
 refine wpS_bind (Gs ?_)
 refine wpS_bind (aO (show sb < (arrOf st).size by omega) fun q hq => ?_)
 refine wpS_bind (bT hB.kind (hA _ _ hq) hA (show sa + na ≤ (arrOf st).size by omega) (show 0 < na by omega) fun k hk => ?_)
 dsimp only
 by_cases hk0 : (na - k == 0) = true
 ·rw [if_pos hk0]
  exact wpS_pure (h _ ⟨hB.kind, hB.perm, hB.fail⟩ e3)
 ·rw [if_neg hk0]
  have hk1 : k < na := by have : ¬ (na - k = 0) := (by simpa using hk0); omega
  refine wpS_bind (aO (show sa + k + (na - k) - 1 < (arrOf st).size by omega) fun q hq => ?_)
  refine wpS_bind (bT hB.kind (hA _ _ hq) hA (show sb + nb ≤ (arrOf st).size by omega) (show nb - 1 < nb by omega) fun m hm => ?_)
  dsimp only
  by_cases hm0 : (m == 0) = true
  ·rw [if_pos hm0]
   exact wpS_pure (h _ ⟨hB.kind, hB.perm, hB.fail⟩ e3)
  ·rw [if_neg hm0]
   have hm1 : 0 < m := by have : ¬ (m = 0) := (by simpa using hm0); omega
   have l1 : 1 ≤ ((arrOf st).extract (sa + k) sb).size := by rw [Array.size_extract]; omega
   have l2 : 1 ≤ ((arrOf st).extract sb (sb + m)).size := by rw [Array.size_extract]; omega
   by_cases hle : na - k ≤ m
   ·rw [if_pos hle]
    refine wpS_bind (v5 hB.kind (hA.ext _ _) (hA.ext _ _) l1 l2 fun out g ho => ?_)
    refine wpS_bind (wpS_modify (wpS_bind (wpS_get (pO (by show (failedOf st).isNone = true; rw [hB.fail]; rfl) (h _ ⟨hB.kind, ?_, hB.fail⟩ e3)))))
    exact (uy (a := arrOf st) (by omega) (Nat.le_add_right _ _) (show sb + m ≤ (arrOf st).size by omega) ho).trans hB.perm
   ·rw [if_neg hle]
    refine wpS_bind (v7 hB.kind (hA.ext _ _) (hA.ext _ _) l1 l2 fun out g ho => ?_)
    refine wpS_bind (wpS_modify (wpS_bind (wpS_get (pO (by show (failedOf st).isNone = true; rw [hB.fail]; rfl) (h _ ⟨hB.kind, ?_, hB.fail⟩ e3)))))
    exact (uy (a := arrOf st) (by omega) (Nat.le_add_right _ _) (show sb + m ≤ (arrOf st).size by omega) ho).trans hB.perm
end
end SRT
namespace SRT
open PySem PyProof.Rows
section
variable {prog : Program} {w : World} {s : Shared} {A : Around} {E : Value → Shared → Prop} {a₀ : Array Keyed} {pd : Array (Nat × Nat × Nat)}
def MP (a₀ : Array Keyed) (pd : Array (Nat × Nat × Nat)) (st : SortSt) : Prop := MB a₀ st ∧ pendingOf st = pd
theorem MP.set {st : SortSt} {xs : Array Keyed} (h : MP a₀ pd st) (hp : xs.Perm (arrOf st)) : MP a₀ pd (setArr st xs) :=
 ⟨⟨h.1.kind, (Array.perm_iff_toList_perm.mp hp).trans h.1.perm, h.1.fail⟩, h.2⟩
theorem gF {st : SortSt} {i j : Nat} {Q : Option Bool → SortSt → Prop} (h0 : eY a₀) (hB : MP a₀ pd st) (hi : i < a₀.size) (hj : j < a₀.size) (h : ∀ b, Q (some b) st) : wpS (model prog w) A E s (ltAt' i j) Q st :=
 JB hB.1.kind (h0.perm hB.1.perm) (by rw [hB.1.size]; exact hi) (by rw [hB.1.size]; exact hj) h
theorem jf {st : SortSt} {i j : Nat} {Q : Unit → SortSt → Prop} (hB : MP a₀ pd st) (h : ∀ st', MP a₀ pd st' → Q () st') : wpS (model prog w) A E s (reverseSlice' i j) Q st :=
 wpS_reverse (h _ (hB.set (mirror_perm _ _ _ _)))
theorem uX {st : SortSt} {lo nrem : Nat} {Q : Option Nat → SortSt → Prop} (h0 : eY a₀) (hB : MP a₀ pd st) (h1 : 1 ≤ nrem) (hn : lo + nrem ≤ a₀.size)
  (h : ∀ n st', 1 ≤ n → n ≤ nrem → MP a₀ pd st' → Q (some n) st') : wpS (model prog w) A E s (countRun' lo nrem) Q st := by
 refine wpS_bind (wpS_mono (wpS_forRange (I := fun x c z => MP a₀ pd z ∧ ∃ n, c = (none, n) ∧ 1 ≤ n ∧ n ≤ x) (Q := fun c z => MP a₀ pd z ∧ ∃ n, c = (none, n) ∧ 1 ≤ n ∧ n ≤ nrem) ?_ ?_ ⟨hB, 1, rfl, Nat.le_refl _, Nat.le_refl _⟩) ?_)
 ·rintro x c z _ hx ⟨hz, n, rfl, k1, k2⟩
  dsimp only
  refine wpS_bind (gF h0 hz (by omega) (by omega) fun o => ?_)
  cases o with
  | true => exact wpS_pure ⟨hz, _, rfl, k1, by omega⟩
  | false => exact wpS_pure ⟨hz, _, rfl, by omega, by omega⟩
 ·rintro c z ⟨hz, n, rfl, k1, k2⟩
  exact ⟨hz, n, rfl, k1, by omega⟩
 ·rintro c st ⟨hB, n, rfl, k1, k2⟩
  dsimp only
  by_cases he : (n == nrem) = true
  ·rw [if_pos he]
   exact wpS_pure (h n st k1 k2 hB)
  ·rw [if_neg he]
   have k3 : n < nrem := by have : ¬ (n = nrem) := (by simpa using he); omega
   by_cases hg : n > 1
   ·rw [if_pos hg]
    refine wpS_bind (gF h0 hB (by omega) (by omega) fun o => ?_)
    cases o with
    | true => exact wpS_pure (h n st k1 k2 hB)
    | false =>
     dsimp only
     rw [if_neg (Bool.false_ne_true)]
     refine wpS_bind (jf hB fun st hB => ?_)
     refine wpS_bind (wpS_lift (wpAny_rule (And.intro rfl ?_)))
     refine wpS_bind (wpS_mono (wpS_forRange (I := fun x c z => MP a₀ pd z ∧ ∃ n q, c = (none, n, q) ∧ 1 ≤ n ∧ n ≤ x) (Q := fun c z => MP a₀ pd z ∧ ∃ n q, c = (none, n, q) ∧ 1 ≤ n ∧ n ≤ nrem) ?_ ?_ ⟨hB, _, _, rfl, by omega, Nat.le_refl _⟩) ?_)
     ·rintro x c z _ hx ⟨hz, n, q, rfl, k1, k2⟩
      dsimp only
      refine wpS_bind (gF h0 hz (by omega) (by omega) fun o => ?_)
      cases o with
      | true =>
       dsimp only
       rw [if_pos rfl]
       by_cases hq : q > 0
       ·rw [if_pos hq]
        exact wpS_bind (jf hz fun st hz => wpS_pure ⟨hz, _, _, rfl, by omega, by omega⟩)
       ·rw [if_neg hq]
        exact wpS_pure ⟨hz, _, _, rfl, by omega, by omega⟩
      | false =>
       dsimp only
       rw [if_neg (Bool.false_ne_true)]
       refine wpS_bind (gF h0 hz (by omega) (by omega) fun o => ?_)
       cases o with
       | true => exact wpS_pure ⟨hz, _, _, rfl, k1, by omega⟩
       | false => exact wpS_pure ⟨hz, _, _, rfl, by omega, by omega⟩
     ·rintro c z ⟨hz, n, q, rfl, k1, k2⟩
      exact ⟨hz, n, q, rfl, k1, by omega⟩
     ·rintro c st ⟨hB, n, q, rfl, q1, q2⟩
      dsimp only
      by_cases hq : q > 0
      ·rw [if_pos hq]
       refine wpS_bind (jf hB fun st hB => ?_)
       refine wpS_bind (jf hB fun st hB => ?_)
       refine wpS_bind (wpS_mono (wpS_forRange (I := fun x c z => MP a₀ pd z ∧ ∃ n, c = (none, n) ∧ 1 ≤ n ∧ n ≤ x) (Q := fun c z => MP a₀ pd z ∧ ∃ n, c = (none, n) ∧ 1 ≤ n ∧ n ≤ nrem) ?_ ?_ ⟨hB, _, rfl, q1, Nat.le_refl _⟩) ?_)
       ·rintro x c z _ hx ⟨hz, n, rfl, k1, k2⟩
        dsimp only
        refine wpS_bind (gF h0 hz (by omega) (by omega) fun o => ?_)
        cases o with
        | true => exact wpS_pure ⟨hz, _, rfl, k1, by omega⟩
        | false => exact wpS_pure ⟨hz, _, rfl, by omega, by omega⟩
       ·rintro c z ⟨hz, n, rfl, k1, k2⟩
        exact ⟨hz, n, rfl, k1, by omega⟩
       ·rintro c z ⟨hz, n, rfl, k1, k2⟩
        exact wpS_pure (h n z k1 k2 hz)
      ·rw [if_neg hq]
       refine wpS_bind (jf hB fun st hB => ?_)
       refine wpS_bind (wpS_mono (wpS_forRange (I := fun x c z => MP a₀ pd z ∧ ∃ n, c = (none, n) ∧ 1 ≤ n ∧ n ≤ x) (Q := fun c z => MP a₀ pd z ∧ ∃ n, c = (none, n) ∧ 1 ≤ n ∧ n ≤ nrem) ?_ ?_ ⟨hB, _, rfl, q1, Nat.le_refl _⟩) ?_)
       ·rintro x c z _ hx ⟨hz, n, rfl, k1, k2⟩
        dsimp only
        refine wpS_bind (gF h0 hz (by omega) (by omega) fun o => ?_)
        cases o with
        | true => exact wpS_pure ⟨hz, _, rfl, k1, by omega⟩
        | false => exact wpS_pure ⟨hz, _, rfl, by omega, by omega⟩
       ·rintro c z ⟨hz, n, rfl, k1, k2⟩
        exact ⟨hz, n, rfl, k1, by omega⟩
       ·rintro c z ⟨hz, n, rfl, k1, k2⟩
        exact wpS_pure (h n z k1 k2 hz)
   ·rw [if_neg hg]
    refine wpS_bind (wpS_lift (wpAny_rule (And.intro rfl ?_)))
    refine wpS_bind (wpS_mono (wpS_forRange (I := fun x c z => MP a₀ pd z ∧ ∃ n q, c = (none, n, q) ∧ 1 ≤ n ∧ n ≤ x) (Q := fun c z => MP a₀ pd z ∧ ∃ n q, c = (none, n, q) ∧ 1 ≤ n ∧ n ≤ nrem) ?_ ?_ ⟨hB, _, _, rfl, by omega, Nat.le_refl _⟩) ?_)
    ·rintro x c z _ hx ⟨hz, n, q, rfl, k1, k2⟩
     dsimp only
     refine wpS_bind (gF h0 hz (by omega) (by omega) fun o => ?_)
     cases o with
     | true =>
      dsimp only
      rw [if_pos rfl]
      by_cases hq : q > 0
      ·rw [if_pos hq]
       exact wpS_bind (jf hz fun st hz => wpS_pure ⟨hz, _, _, rfl, by omega, by omega⟩)
      ·rw [if_neg hq]
       exact wpS_pure ⟨hz, _, _, rfl, by omega, by omega⟩
     | false =>
      dsimp only
      rw [if_neg (Bool.false_ne_true)]
      refine wpS_bind (gF h0 hz (by omega) (by omega) fun o => ?_)
      cases o with
      | true => exact wpS_pure ⟨hz, _, _, rfl, k1, by omega⟩
      | false => exact wpS_pure ⟨hz, _, _, rfl, by omega, by omega⟩
    ·rintro c z ⟨hz, n, q, rfl, k1, k2⟩
     exact ⟨hz, n, q, rfl, k1, by omega⟩
    ·rintro c st ⟨hB, n, q, rfl, q1, q2⟩
     dsimp only
     by_cases hq : q > 0
     ·rw [if_pos hq]
      refine wpS_bind (jf hB fun st hB => ?_)
      refine wpS_bind (jf hB fun st hB => ?_)
      refine wpS_bind (wpS_mono (wpS_forRange (I := fun x c z => MP a₀ pd z ∧ ∃ n, c = (none, n) ∧ 1 ≤ n ∧ n ≤ x) (Q := fun c z => MP a₀ pd z ∧ ∃ n, c = (none, n) ∧ 1 ≤ n ∧ n ≤ nrem) ?_ ?_ ⟨hB, _, rfl, q1, Nat.le_refl _⟩) ?_)
      ·rintro x c z _ hx ⟨hz, n, rfl, k1, k2⟩
       dsimp only
       refine wpS_bind (gF h0 hz (by omega) (by omega) fun o => ?_)
       cases o with
       | true => exact wpS_pure ⟨hz, _, rfl, k1, by omega⟩
       | false => exact wpS_pure ⟨hz, _, rfl, by omega, by omega⟩
      ·rintro c z ⟨hz, n, rfl, k1, k2⟩
       exact ⟨hz, n, rfl, k1, by omega⟩
      ·rintro c z ⟨hz, n, rfl, k1, k2⟩
       exact wpS_pure (h n z k1 k2 hz)
     ·rw [if_neg hq]
      refine wpS_bind (jf hB fun st hB => ?_)
      refine wpS_bind (wpS_mono (wpS_forRange (I := fun x c z => MP a₀ pd z ∧ ∃ n, c = (none, n) ∧ 1 ≤ n ∧ n ≤ x) (Q := fun c z => MP a₀ pd z ∧ ∃ n, c = (none, n) ∧ 1 ≤ n ∧ n ≤ nrem) ?_ ?_ ⟨hB, _, rfl, q1, Nat.le_refl _⟩) ?_)
      ·rintro x c z _ hx ⟨hz, n, rfl, k1, k2⟩
       dsimp only
       refine wpS_bind (gF h0 hz (by omega) (by omega) fun o => ?_)
       cases o with
       | true => exact wpS_pure ⟨hz, _, rfl, k1, by omega⟩
       | false => exact wpS_pure ⟨hz, _, rfl, by omega, by omega⟩
      ·rintro c z ⟨hz, n, rfl, k1, k2⟩
       exact ⟨hz, n, rfl, k1, by omega⟩
      ·rintro c z ⟨hz, n, rfl, k1, k2⟩
       exact wpS_pure (h n z k1 k2 hz)
theorem wM {st : SortSt} {lo n ok : Nat} {Q : Bool → SortSt → Prop} (h0 : eY a₀) (hB : MP a₀ pd st) (hn : lo + n ≤ a₀.size)
  (h : ∀ st', MP a₀ pd st' → Q true st') : wpS (model prog w) A E s (binarySort' lo n ok) Q st := by
 refine wpS_bind (wpS_mono (wpS_forRange (I := fun x c z => MP a₀ pd z ∧ c = (none, ())) (Q := fun c z => MP a₀ pd z ∧ c = (none, ())) ?_ (fun _ _ hh => hh) ⟨hB, rfl⟩) ?_)
 ·rintro k c z _ hk ⟨hz, rfl⟩
  dsimp only
  refine wpS_bind (wpS_mono (wpS_forRange (I := fun x c z => MP a₀ pd z ∧ ∃ l r, c = (none, l, r) ∧ r ≤ k) (Q := fun c z => MP a₀ pd z ∧ ∃ l r, c = (none, l, r) ∧ r ≤ k) ?_ (fun _ _ hh => hh) ⟨hz, _, _, rfl, Nat.le_refl _⟩) ?_)
  ·rintro x c z _ hx ⟨hz, l, r, rfl, hr⟩
   dsimp only
   by_cases hl : l ≥ r
   ·rw [if_pos hl]
    exact wpS_pure ⟨hz, _, _, rfl, hr⟩
   ·rw [if_neg hl]
    refine wpS_bind (gF h0 hz (by omega) (by omega) fun o => ?_)
    cases o with
    | true => exact wpS_pure ⟨hz, _, _, rfl, by omega⟩
    | false => exact wpS_pure ⟨hz, _, _, rfl, hr⟩
  ·rintro c z ⟨hz, l, r, rfl, hr⟩
   dsimp only
   exact wpS_bind (wpS_modify (wpS_pure ⟨hz.set (bubble_perm _ _ _), rfl⟩))
 ·rintro c z ⟨hz, rfl⟩
  exact wpS_pure (h z hz)
end
end SRT
namespace SRT
open PySem PyProof.Rows
section
variable {prog : Program} {w : World} {s : Shared} {A : Around} {E : Value → Shared → Prop} {a₀ : Array Keyed} {pd : Array (Nat × Nat × Nat)}
def MC (a₀ : Array Keyed) (hi : Nat) (st : SortSt) : Prop := MB a₀ st ∧ Chain (pendingOf st).toList 0 hi
theorem Qj : ∀ (l : List (Nat × Nat × Nat)) (i : Nat), i + 1 < l.length → ∃ pre x y post, l = pre ++ x :: y :: post ∧ pre.length = i
 | [], i, h => by simp at h
 | [x], i, h => by simp at h
 | x :: y :: t, 0, h => ⟨[], x, y, t, rfl, rfl⟩
 | x :: y :: t, i + 1, h => by
  obtain ⟨pre, u, v, post, e, hl⟩ := Qj (y :: t) i (by simpa using h)
  exact ⟨x :: pre, u, v, post, by rw [e]; rfl, by simp [hl]⟩
theorem mD {st : SortSt} {i hi : Nat} {Q : Bool → SortSt → Prop} (h0 : eY a₀) (hB : MC a₀ hi st) (hh : hi ≤ a₀.size) (h2 : i + 1 < (pendingOf st).size)
  (h : ∀ st', MC a₀ hi st' → (pendingOf st').size ≠ 0 → Q true st') : wpS (model prog w) A E s (mergeAt' i) Q st := by
 obtain ⟨pre, ⟨sa, na, pw⟩, ⟨sb, nb, pv⟩, post, e, hl⟩ := Qj (pendingOf st).toList i (by simpa using h2)
 have hc := hB.2
 rw [e] at hc
 obtain ⟨k1, k2, k3, k4, k5⟩ := hc.two
 subst hl
 refine v8 h0 hB.1 e k1 k2 k3 (by omega) fun st' hB' hp => h st' ⟨hB', by rw [hp]; exact k5⟩ ?_
 rw [← Array.length_toList, hp]
 simp
theorem GZ : ∀ (l : List (Nat × Nat × Nat)), l ≠ [] → ∃ t p n v, l = t ++ [(p, n, v)]
 | l, h => ⟨l.dropLast, (l.getLast h).1, (l.getLast h).2.1, (l.getLast h).2.2, (List.dropLast_concat_getLast h).symm⟩
theorem mV {α : Type} (f : α → α) (x : α) : ∀ t : List α, (t ++ [x]).modify t.length f = t ++ [f x]
 | [] => rfl
 | y :: t => congrArg (y :: ·) (mV f x t)
theorem MC.ug {st : SortSt} {hi pw : Nat} (h : MC a₀ hi st) : MC a₀ hi (setPending st ((pendingOf st).modify ((pendingOf st).size - 1) fun (x, len, _) => (x, len, pw))) := by
 refine ⟨⟨h.1.kind, h.1.perm, h.1.fail⟩, ?_⟩
 show Chain ((pendingOf st).modify ((pendingOf st).size - 1) fun (x, len, _) => (x, len, pw)).toList 0 hi
 have hc := h.2
 by_cases he : (pendingOf st).toList = []
 ·have : pendingOf st = #[] := by simpa using he
  rw [this] at hc ⊢
  simpa using hc
 ·obtain ⟨t, p, n, v, e⟩ := GZ _ he
  have e2 : pendingOf st = (t ++ [(p, n, v)]).toArray := by rw [← e]
  rw [e] at hc
  rw [e2]
  have : ((t ++ [(p, n, v)]).toArray.modify ((t ++ [(p, n, v)]).toArray.size - 1) fun (x, len, _) => (x, len, pw)).toList = t ++ [(p, n, pw)] := by
   simp [mV]
  rw [this]
  exact hc.ug
theorem MC.push {st : SortSt} {lo n : Nat} (h : MC a₀ lo st) (h1 : 1 ≤ n) : MC a₀ (lo + n) (setPending st ((pendingOf st).push (lo, n, 0))) := by
 refine ⟨⟨h.1.kind, h.1.perm, h.1.fail⟩, ?_⟩
 show Chain ((pendingOf st).push (lo, n, 0)).toList 0 (lo + n)
 rw [Array.toList_push]
 exact h.2.snoc h1
theorem MC.of {st st' : SortSt} {lo : Nat} (h : MC a₀ lo st) (h' : MP a₀ (pendingOf st) st') : MC a₀ lo st' := ⟨h'.1, by rw [h'.2]; exact h.2⟩
theorem Ob {c : Prop} [Decidable c] {n : Nat} (h : ¬ n ≤ 1) : (if c then n - 2 - 1 else n - 2) + 1 < n := by split <;> omega
theorem yJ (a : Array (Nat × Nat × Nat)) (i : Nat) (h : i < a.size) : ∃ x y z, a[i]? = some (x, y, z) := ⟨a[i].1, a[i].2.1, a[i].2.2, by rw [getElem?_pos a i h]⟩
theorem qP {σ α : Type} {c : Prop} [Decidable c] {m n : StateT σ Sem α} {st : σ} {Q : α → σ → Prop} (h1 : c → wpS (model prog w) A E s m Q st) (h2 : ¬ c → wpS (model prog w) A E s n Q st) : wpS (model prog w) A E s (if c then m else n) Q st := by
 by_cases h : c
 ·rw [if_pos h]; exact h1 h
 ·rw [if_neg h]; exact h2 h
theorem Hl {st : SortSt} {Q : Unit → SortSt → Prop} (h0 : eY a₀) (hB : MB a₀ st) (hp : pendingOf st = #[]) (h : ∀ st', MB a₀ st' → Q () st') : wpS (model prog w) A E s sortRuns' Q st := by
 refine wpS_bind (wpS_get ?_)
 dsimp only
 have hs := hB.size
 dsimp only [arrOf] at hs
 simp only [hs]
 generalize (sortPriv% PySem.Builtin.minRun) a₀.size a₀.size 0 = mr
 refine wpS_bind (wpS_mono (wpS_forRange (I := fun x c z => ∃ lo, c = (none, lo) ∧ MC a₀ lo z ∧ x ≤ lo ∧ lo ≤ a₀.size) (Q := fun c z => ∃ lo, c = (none, lo) ∧ MC a₀ a₀.size z) ?step ?fin ⟨0, rfl, ⟨hB, by rw [hp]; rfl⟩, Nat.le_refl _, Nat.zero_le _⟩) ?post)
 case fin =>
  rintro c z ⟨lo, rfl, hz, k1, k2⟩
  have : lo = a₀.size := by omega
  subst this
  exact ⟨_, rfl, hz⟩
 case step =>
  rintro x c z _ hx ⟨lo, rfl, hz, k1, k2⟩
  dsimp only
  by_cases hlo : lo ≥ a₀.size
  ·rw [if_pos hlo]
   have : lo = a₀.size := by omega
   subst this
   exact wpS_pure ⟨_, rfl, hz⟩
  ·rw [if_neg hlo]
   refine wpS_bind (uX h0 ⟨hz.1, rfl⟩ (show 1 ≤ a₀.size - lo by omega) (by omega) fun n z' n1 n2 hz' => ?_)
   replace hz := hz.of hz'
   dsimp only
   clear hz'
   revert hz
   generalize z' = z
   intro hz
   by_cases hmr : n < mr
   ·rw [if_pos hmr]
    refine wpS_bind (wpS_lift (wpAny_rule (And.intro rfl ?_)))
    refine wpS_bind (wM h0 ⟨hz.1, rfl⟩ (show lo + min (a₀.size - lo) mr ≤ a₀.size by omega) fun z' hz' => ?_)
    replace hz := hz.of hz'
    clear hz'
    revert hz
    generalize z' = z
    intro hz
    rw [if_neg (show ¬ ((!true) = true) by decide)]
    refine wpS_bind (wpS_get ?_)
    cases hbk : (pendingOf z).back? with
    | none =>
     exact wpS_bind (wpS_modify (wpS_pure ⟨_, rfl, hz.push (by omega), by omega, by omega⟩))
    | some bk =>
     obtain ⟨s1, n1, v1⟩ := bk
     dsimp only
     refine wpS_bind (wpS_mono (wpS_forRange (I := fun _ c z => c = (none, ()) ∧ MC a₀ lo z) (Q := fun c z => c = (none, ()) ∧ MC a₀ lo z) ?_ (fun _ _ hh => hh) ⟨rfl, hz⟩) ?_)
     ·rintro x c z _ _ ⟨rfl, hz⟩
      refine wpS_bind (wpS_get ?_)
      by_cases hg : (pendingOf z).size > 1
      ·obtain ⟨p1, p2, p3, e⟩ := yJ (pendingOf z) ((pendingOf z).size - 2) (by omega)
       have hg2 := hg
       dsimp only [pendingOf] at e hg
       rw [if_pos hg, e]
       dsimp only
       refine qP (fun _ => wpS_pure ⟨rfl, hz⟩) fun _ => ?_
       exact wpS_bind (mD h0 hz k2 (show (pendingOf z).size - 2 + 1 < (pendingOf z).size by omega) fun z hz _ => wpS_pure ⟨rfl, hz⟩)
      ·dsimp only [pendingOf] at hg
       rw [if_neg hg]
       exact wpS_pure ⟨rfl, hz⟩
     ·rintro c z ⟨rfl, hz⟩
      dsimp only
      exact wpS_bind (wpS_modify (wpS_bind (wpS_modify (wpS_pure ⟨_, rfl, hz.ug.push (by omega), by omega, by omega⟩))))
   ·rw [if_neg hmr]
    refine wpS_bind (wpS_get ?_)
    cases hbk : (pendingOf z).back? with
    | none =>
     exact wpS_bind (wpS_modify (wpS_pure ⟨_, rfl, hz.push n1, by omega, by omega⟩))
    | some bk =>
     obtain ⟨s1, n1, v1⟩ := bk
     dsimp only
     refine wpS_bind (wpS_mono (wpS_forRange (I := fun _ c z => c = (none, ()) ∧ MC a₀ lo z) (Q := fun c z => c = (none, ()) ∧ MC a₀ lo z) ?_ (fun _ _ hh => hh) ⟨rfl, hz⟩) ?_)
     ·rintro x c z _ _ ⟨rfl, hz⟩
      refine wpS_bind (wpS_get ?_)
      by_cases hg : (pendingOf z).size > 1
      ·obtain ⟨p1, p2, p3, e⟩ := yJ (pendingOf z) ((pendingOf z).size - 2) (by omega)
       have hg2 := hg
       dsimp only [pendingOf] at e hg
       rw [if_pos hg, e]
       dsimp only
       refine qP (fun _ => wpS_pure ⟨rfl, hz⟩) fun _ => ?_
       exact wpS_bind (mD h0 hz k2 (show (pendingOf z).size - 2 + 1 < (pendingOf z).size by omega) fun z hz _ => wpS_pure ⟨rfl, hz⟩)
      ·dsimp only [pendingOf] at hg
       rw [if_neg hg]
       exact wpS_pure ⟨rfl, hz⟩
     ·rintro c z ⟨rfl, hz⟩
      dsimp only
      exact wpS_bind (wpS_modify (wpS_bind (wpS_modify (wpS_pure ⟨_, rfl, hz.ug.push (by omega), by omega, by omega⟩))))
 case post =>
  rintro c z ⟨lo, rfl, hz⟩
  dsimp only
  refine wpS_bind (wpS_mono (wpS_forRange (I := fun _ c z => c = (none, ()) ∧ MC a₀ a₀.size z) (Q := fun c z => c = (none, ()) ∧ MC a₀ a₀.size z) ?_ (fun _ _ hh => hh) ⟨rfl, hz⟩) ?_)
  ·rintro x c z _ _ ⟨rfl, hz⟩
   refine wpS_bind (wpS_get ?_)
   refine qP (fun _ => wpS_pure ⟨rfl, hz⟩) fun hg => ?_
   have hg2 : ¬ (pendingOf z).size ≤ 1 := hg
   refine wpS_bind (mD h0 hz (Nat.le_refl _) ?_ fun z hz _ => wpS_pure ⟨rfl, hz⟩)
   exact Ob hg2
  ·rintro c z ⟨rfl, hz⟩
   exact wpS_pure (h z hz.1)
end
end SRT
namespace SRT
open PySem PyProof.Rows
section
variable {prog : Program} {w : World} {s : Shared} {A : Around} {E : Value → Shared → Prop}
theorem qe (vs : List Value) : ((pairsOf vs).map (·.2)).toList = vs := by
 unfold pairsOf
 simp [List.map_snd_zip]
theorem Qg {vs : List Value} {ns : List Int} (hI : IntsAre vs ns) : eY (pairsOf vs) := by
 intro i p hp
 exact hI.intKeys p (by rw [← Array.getElem?_toList] at hp; exact List.mem_of_getElem? hp)
theorem Eo {a : Addr} {vs : List Value} {n : Nat} {P : Fin → Shared → Prop} (ho : s.heap.get? a = some (seqObj "list" vs.toArray n)) {ns : List Int} (hI : IntsAre vs ns)
  (hlen : vs.length ≤ 1000000) (h : ∀ xs : Array Value, xs.toList.Perm vs → P (.done (.ret .none)) { s with heap := sortedHeap s.heap a vs xs }) : wpAny (model prog w) A (Builtin.«list.sort» ⟨[.ref a], []⟩) P E s := by
 rw [list_sort_plain]
 have la : a < s.heap.objs.size := Heap.lt_size ho
 refine wpAny_bind (listItems_at ho rfl (wpAny_bind (listUpdate_at ho rfl ?_)))
 obtain ⟨e, he⟩ : ∃ e, (s.heap.update a (Obj.mapSeq fun _ => #[])).get? a = some (seqObj "list" #[] e) := ⟨_, get?_update_seq ho fun _ => #[]⟩
 refine wpAny_bind (seqEpoch_at he rfl (wpAny_bind (wpAny_newTuple (wpAny_bind (wpAny_newList (wpAny_holding ?_))))))
 have h6 : (((s.heap.update a (Obj.mapSeq fun _ => #[])).push (seqObj "tuple" vs.toArray 0)).push (seqObj "list" #[] 0)).get? a = some (seqObj "list" #[] e) := by
  rw [Heap.get?_push_ne _ _ _ (by rw [size_push', Heap.size_update]; exact Nat.ne_of_lt (Nat.le_succ_of_le la)), Heap.get?_push_ne _ _ _ (by rw [Heap.size_update]; exact Nat.ne_of_lt la), he]
 show wpAny _ A _ P E { s with heap := ((s.heap.update a (Obj.mapSeq fun _ => #[])).push (seqObj "tuple" vs.toArray 0)).push (seqObj "list" #[] 0) }
 dsimp only
 by_cases h2 : (vs.toArray.size < 2)
 ·rw [if_pos h2, if_pos h2]
  refine (wpAny_bind (wpAny_pure ?_))
  rw [StateT.run_pure]
  refine wpAny_bind (wpAny_pure (wpAny_bind (seqEpoch_at h6 rfl (wpAny_bind (listUpdate_at h6 rfl ?_ (hsz2 := ?z))))))
  case z => rw [Array.size_map]; show (pairsOf vs).size ≤ _; rw [pairsOf_size, sizeLine_eq]; omega
  simp only [Bool.false_eq_true, bne_self_eq_false, if_false]
  exact wpAny_pure (h _ (by rw [show (vs.toArray.zip vs.toArray).map (·.2) = (pairsOf vs).map (·.2) from rfl, qe]))
 ·rw [if_neg h2, if_neg h2]
  obtain ⟨x, y, t, e2⟩ : ∃ x y t, vs = x :: y :: t := by
   cases vs with
   | nil => simp at h2
   | cons x t => cases t with
    | nil => simp at h2
    | cons y t => exact ⟨x, y, t, rfl⟩
  rw [show keyKind' vs.toArray = pure oneType' by subst e2; exact keyKind_ints hI]
  refine (wpAny_bind (wpAny_pure ?_))
  refine wpAny_bind (wpAny_mono (Hl (a₀ := pairsOf vs) (st := SortSt.mk' oneType' (vs.toArray.zip vs.toArray) #[] 7 none) (Q := fun _ z => MB (pairsOf vs) z) (Qg hI) ⟨rfl, List.Perm.refl _, rfl⟩ rfl fun z hz => hz) ?_ fun _ _ e => e)
  rintro ⟨⟨⟩, z⟩ s' ⟨rfl, hz⟩
  have hm : ((arrOf z).map (·.2)).toList.Perm vs := by
   have := hz.perm.map (·.2)
   rw [← Array.toList_map, ← Array.toList_map, qe] at this
   exact this
  refine wpAny_bind (seqEpoch_at h6 rfl (wpAny_bind (listUpdate_at h6 rfl ?_ (hsz2 := ?z))))
  case z =>
   have := hm.length_eq
   rw [Array.length_toList] at this
   show ((arrOf z).map (·.2)).size ≤ _
   rw [this, sizeLine_eq]
   omega
  dsimp only
  rw [hz.fail]
  simp only [Bool.false_eq_true, bne_self_eq_false, if_false]
  exact wpAny_pure (h _ hm)
end
end SRT
namespace SRT
open PySem PyProof.Rows
def Ris (xs : Array Nat) : Prop := xs.toList.Pairwise (· < ·)
theorem Ris.lt {xs : Array Nat} (h : Ris xs) {i k x y : Nat} (hx : xs[i]? = some x) (hy : xs[k]? = some y) (hik : i < k) : x < y := by
 rw [← Array.getElem?_toList] at hx hy
 obtain ⟨h1, rfl⟩ := List.getElem?_eq_some_iff.mp hx
 obtain ⟨h2, rfl⟩ := List.getElem?_eq_some_iff.mp hy
 exact List.pairwise_iff_getElem.mp h i k h1 h2 hik
theorem J7 {xs : Array Nat} (hr : Ris xs) (j : Nat) : ∀ fuel lo hi, hi - lo ≤ fuel → lo ≤ hi → hi ≤ xs.size → (∀ i x, xs[i]? = some x → i < lo → x < j) → (∀ i x, xs[i]? = some x → hi ≤ i → j ≤ x) →
  (∀ i x, xs[i]? = some x → (i < SetTable.below.go xs j fuel lo hi ↔ x < j)) ∧ SetTable.below.go xs j fuel lo hi ≤ xs.size := by
 intro fuel
 induction fuel with
 | zero =>
  intro lo hi h1 h2 h3 h4 h5
  have e : hi = lo := by omega
  subst e
  refine ⟨fun i x hx => ⟨fun hl => h4 i x hx hl, fun hl => ?_⟩, h3⟩
  show i < hi
  refine Nat.lt_of_not_le fun hle => ?_
  have := h5 i x hx hle
  omega
 | succ fuel ih =>
  intro lo hi h1 h2 h3 h4 h5
  show (∀ i x, xs[i]? = some x → (i < (if lo < hi then if xs.getD ((lo + hi) / 2) j < j then SetTable.below.go xs j fuel ((lo + hi) / 2 + 1) hi else SetTable.below.go xs j fuel lo ((lo + hi) / 2) else lo) ↔ x < j)) ∧ (if lo < hi then if xs.getD ((lo + hi) / 2) j < j then SetTable.below.go xs j fuel ((lo + hi) / 2 + 1) hi else SetTable.below.go xs j fuel lo ((lo + hi) / 2) else lo) ≤ xs.size
  by_cases hl : lo < hi
  ·rw [if_pos hl]
   have hm : (lo + hi) / 2 < xs.size := by omega
   have hg : xs[(lo + hi) / 2]? = some xs[(lo + hi) / 2] := by simp [hm]
   have hd : xs.getD ((lo + hi) / 2) j = xs[(lo + hi) / 2] := by simp [Array.getD, hm]
   rw [hd]
   by_cases hc : xs[(lo + hi) / 2] < j
   ·rw [if_pos hc]
    refine ih _ _ (by omega) (by omega) h3 (fun i x hx hi' => ?_) h5
    by_cases e : i = (lo + hi) / 2
    ·subst e; rw [hg] at hx; cases hx; exact hc
    ·exact Nat.lt_trans (hr.lt hx hg (by omega)) hc
   ·rw [if_neg hc]
    refine ih _ _ (by omega) (by omega) (by omega) h4 (fun i x hx hi' => ?_)
    by_cases e : i = (lo + hi) / 2
    ·subst e; rw [hg] at hx; cases hx; omega
    ·have := hr.lt hg hx (by omega)
     omega
  ·rw [if_neg hl]
   have e : hi = lo := by omega
   subst e
   refine ⟨fun i x hx => ⟨fun hl => h4 i x hx hl, fun hl => ?_⟩, h3⟩
   refine Nat.lt_of_not_le fun hle => ?_
   have := h5 i x hx hle
   omega
theorem j7 {xs : Array Nat} (hr : Ris xs) (j : Nat) : (∀ i x, xs[i]? = some x → (i < SetTable.below xs j ↔ x < j)) ∧ SetTable.below xs j ≤ xs.size := by
 unfold SetTable.below
 refine J7 hr j _ _ _ (by omega) (by omega) (Nat.le_refl _) (fun _ _ _ h => absurd h (by omega)) fun i x hx hi => ?_
 have := (Array.getElem?_eq_some_iff.mp hx).1
 omega
theorem vd {xs : Array Nat} (hr : Ris xs) {j : Nat} (hn : xs[SetTable.below xs j]? ≠ some j) : ∀ x ∈ xs.toList, x ≠ j := by
 intro x hx e
 subst e
 obtain ⟨i, hi, e⟩ := List.mem_iff_getElem.mp hx
 have hg : xs[i]? = some x := by rw [← Array.getElem?_toList, List.getElem?_eq_getElem hi, e]
 have hs := j7 hr x
 have h1 := (hs.1 i x hg)
 have h2 : SetTable.below xs x ≤ i := by
  refine Nat.le_of_not_lt fun h => ?_
  exact Nat.lt_irrefl _ (h1.mp h)
 rcases Nat.lt_or_ge (SetTable.below xs x) i with h | h
 ·have hi' : i < xs.size := by simpa using hi
  have hb : SetTable.below xs x < xs.size := by omega
  have hgb : xs[SetTable.below xs x]? = some xs[SetTable.below xs x] := by simp [hb]
  have l1 := hr.lt hgb hg h
  have := (hs.1 _ _ hgb).mpr l1
  omega
 ·have e : SetTable.below xs x = i := by omega
  rw [e] at hn
  exact hn hg
theorem pI {α : Type} (xs : Array α) (p : Nat) (x : α) : (SetTable.insertAt xs p x).toList = xs.toList.take p ++ x :: xs.toList.drop p := by
 unfold SetTable.insertAt
 simp [Array.toList_extract, List.extract, List.take_of_length_le]
theorem vO {xs : Array Nat} (hr : Ris xs) {j : Nat} (hn : xs[SetTable.below xs j]? ≠ some j) : Ris (SetTable.insertAt xs (SetTable.below xs j) j) := by
 have hs := j7 hr j
 have hne := vd hr hn
 show (SetTable.insertAt xs (SetTable.below xs j) j).toList.Pairwise (· < ·)
 rw [pI]
 have hx : xs.toList.Pairwise (· < ·) := hr
 rw [List.pairwise_append, List.pairwise_cons]
 refine ⟨hx.sublist (List.take_sublist _ _), ⟨fun y hy => ?_, hx.sublist (List.drop_sublist _ _)⟩, fun a ha b hb => ?_⟩
 ·obtain ⟨i, hi, e⟩ := List.mem_iff_getElem.mp hy
  rw [List.getElem_drop] at e
  have hl : SetTable.below xs j + i < xs.toList.length := by rw [List.length_drop] at hi; omega
  have hg : xs[SetTable.below xs j + i]? = some y := by rw [← Array.getElem?_toList, List.getElem?_eq_getElem hl, e]
  have h1 := hs.1 _ _ hg
  have h2 := hne y (List.mem_of_mem_drop hy)
  have : ¬ (y < j) := fun h => by have := h1.mpr h; omega
  omega
 ·have l1 : a < j := by
   obtain ⟨i, hi, e⟩ := List.mem_iff_getElem.mp ha
   rw [List.getElem_take] at e
   have hl : i < SetTable.below xs j ∧ i < xs.toList.length := by rw [List.length_take] at hi; omega
   have hg : xs[i]? = some a := by rw [← Array.getElem?_toList, List.getElem?_eq_getElem hl.2, e]
   exact (hs.1 _ _ hg).mp hl.1
  rcases List.mem_cons.mp hb with rfl | hb
  ·exact l1
  ·obtain ⟨i, hi, e⟩ := List.mem_iff_getElem.mp hb
   rw [List.getElem_drop] at e
   have hl : SetTable.below xs j + i < xs.toList.length := by rw [List.length_drop] at hi; omega
   have hg : xs[SetTable.below xs j + i]? = some b := by rw [← Array.getElem?_toList, List.getElem?_eq_getElem hl, e]
   have h1 := hs.1 _ _ hg
   have : ¬ (b < j) := fun h => by have := h1.mpr h; omega
   omega
def TOk (b : Bool) (t : SetTable) : Prop := Ris t.place ∧ t.dummies = #[] ∧ t.led = b
theorem yR {b : Bool} {t : SetTable} (h : TOk b t) (p : Bool) : TOk b { t with plain := p } := h
theorem zb (n : Nat) : Ris (Array.range n) := by
 show (Array.range n).toList.Pairwise (· < ·)
 rw [Array.toList_range]
 exact List.pairwise_lt_range
theorem gQ {b : Bool} {t : SetTable} (h : TOk b t) (n : Nat) : TOk b (t.standIn n) := ⟨zb n, rfl, h.2.2⟩
theorem oY {b : Bool} {t : SetTable} (h : TOk b t) (n : Nat) : TOk b (t.orStandIn n) := by
 unfold SetTable.orStandIn
 split
 ·exact h
 ·exact gQ h n
theorem yS (f m : Nat) (b : Bool) : TOk b (SetTable.fresh f m b) := ⟨List.Pairwise.nil, rfl, rfl⟩
theorem vV {t : SetTable} (hd : t.dummies = #[]) {f : Nat → Int} {h : Int} (hf : ∀ i, (f i == h) = false) : ∀ (fuel : Nat) (p : SetTable.Probe), p.dummy = none →
  ∀ m, SetTable.probe.go t f h fuel p = some m → ∃ j, m = .empty j none ∧ t.place[SetTable.below t.place j]? ≠ some j := by
 intro fuel
 induction fuel with
 | zero => intro p _ m e; exact absurd e (by simp [SetTable.probe.go])
 | succ fuel ih =>
  intro p hp m e
  unfold SetTable.probe.go at e
  have hnd : ∀ j, SetTable.has t.dummies j = false := fun j => by rw [hd]; simp [SetTable.has]
  have hadv : ∀ q : SetTable.Probe, q.dummy = none → (t.advance q).dummy = none := fun q hq => by
   unfold SetTable.advance
   split
   ·exact hq
   ·exact hq
  split at e
  ·rename_i hs
   cases e
   refine ⟨p.j, by rw [hp], fun hc => ?_⟩
   unfold SetTable.slot at hs
   simp [hc] at hs
  ·rename_i hs
   unfold SetTable.slot at hs
   dsimp only at hs
   split at hs
   ·cases hs
   ·rw [hnd] at hs
    simp at hs
  ·rw [hf, if_neg (by simp)] at e
   exact ih _ (hadv _ hp) m e
theorem uT {t : SetTable} (hd : t.dummies = #[]) {h : Int} {j : Nat} {b : Bool} (e : t.freeSlot h = some (j, b)) : t.place[SetTable.below t.place j]? ≠ some j := by
 unfold SetTable.freeSlot SetTable.probe at e
 split at e
 ·rename_i j' d hp
  obtain ⟨j2, e2, hn⟩ := vV hd (f := fun _ => h + 1) (h := h) (fun i => by simp; omega) _ _ rfl _ hp
  cases e2
  simp at e
  rw [← e.1]
  exact hn
 ·cases e
theorem wz {b : Bool} {t : SetTable} (ht : TOk b t) (es : Array (Int × Value)) (h : Int) (x : Value) : TOk b (layNew t es h x).2.1 := by
 unfold layNew
 split
 ·rename_i slot wd hs
  have hn := uT ht.2.1 hs
  refine oY ?_ _
  unfold SetTable.put
  refine ⟨vO ht.1 hn, ?_, ht.2.2⟩
  show (if SetTable.has t.dummies slot = true then SetTable.eraseAt t.dummies (SetTable.below t.dummies slot) else t.dummies) = #[]
  rw [ht.2.1]
  rfl
 ·exact gQ ht _
theorem rG {b : Bool} {t : SetTable} (ht : TOk b t) (es : Array (Int × Value)) (n : Nat) : TOk b (relayAll t es n).2.1 := by
 unfold relayAll
 split
 ·rename_i t' order hr
  dsimp only
  split
  ·unfold SetTable.relaid SetTable.laid at hr
   cases ho : SetTable.layClean (SetTable.sizeAbove n - 1) (es.map (·.1)) with
   | none => rw [ho] at hr; cases hr
   | some owner =>
    rw [ho] at hr
    simp only [Option.bind_eq_bind, Option.bind_some, Option.pure_def, Option.some.injEq, Prod.mk.injEq] at hr
    obtain ⟨rfl, -⟩ := hr
    refine ⟨?_, rfl, ht.2.2⟩
    show (List.map _ _).toArray.toList.Pairwise (· < ·)
    rw [List.toList_toArray, List.pairwise_map, List.pairwise_filterMap]
    refine List.pairwise_lt_range.imp fun {a c} hac p hp q hq => ?_
    simp only [Option.map_eq_some_iff] at hp hq
    obtain ⟨_, _, rfl⟩ := hp
    obtain ⟨_, _, rfl⟩ := hq
    exact hac
  ·exact gQ ht _
 ·exact gQ ht _
end SRT
namespace SRT
open PySem PyProof.Rows
section
variable {prog : Program} {w : World} {K : Type} [DecidableEq K]
def SetT (knd : KeyKind prog w K) (b : Bool) (h : Heap) (a : Addr) (S : K → Bool) (n : Nat) : Prop :=
 ∃ o es ep t, h.get? a = some o ∧ o.ExactSet ∧ o.data = .set es ep t ∧ (ElemsOf knd es.toList ∧ (∀ k, S k = true ↔ ∃ e ∈ es.toList, knd.is k e.2 = true) ∧ es.size < scanBound) ∧ t.fits es.size = true ∧ es.size = n ∧ TOk b t
variable {knd : KeyKind prog w K} {A : Around} {E : Value → Shared → Prop} {s : Shared} {b : Bool}
theorem SetT.get {h h' : Heap} {a : Addr} {S : K → Bool} {n : Nat} (hS : SetT knd b h a S n) (hk : ∀ o, h.get? a = some o → h'.get? a = some o) : SetT knd b h' a S n :=
 let ⟨o, es, ep, t, ho, r⟩ := hS; ⟨o, es, ep, t, hk o ho, r⟩
theorem SetT.congr {h : Heap} {a : Addr} {S S' : K → Bool} {n n' : Nat} (hS : SetT knd b h a S n) (e : ∀ k, S k = S' k) (en : n = n') : SetT knd b h a S' n' := by
 have : S = S' := funext e
 subst this
 subst en
 exact hS
theorem pZ {h : Heap} {a : Addr} {o : Obj} {es : Array (Int × Value)} {ep : Nat} {t : SetTable} (ho : h.get? a = some o) (hex : o.ExactSet) (hd : o.data = .set es ep t)
  {es' : Array (Int × Value)} {t' : SetTable} {S' : K → Bool} (hel : ElemsOf knd es'.toList ∧ (∀ k, S' k = true ↔ ∃ e ∈ es'.toList, knd.is k e.2 = true) ∧ es'.size < scanBound) (hf : t'.fits es'.size = true) (ht : TOk b t') :
  (h.update a (Obj.putSet es' t')).get? a = some { o with data := .set es' (ep + 1) t' } ∧ SetT knd b (h.update a (Obj.putSet es' t')) a S' es'.size := by
 have hg : (h.update a (Obj.putSet es' t')).get? a = some { o with data := .set es' (ep + 1) t' } := by
  have q := Heap.get?_update_self (Obj.putSet es' t') ho (by rw [putSet_of es' t' hd]; rfl)
  rw [putSet_of es' t' hd] at q
  exact q
 exact ⟨hg, _, es', ep + 1, t', hg, hex, rfl, hel, hf, rfl, ht⟩
theorem vg {g : Bool → Sem Unit} (hg : ∀ (c : Bool) (s₁ : Shared) (Q' : Unit → Shared → Prop), Q' () s₁ → wpAny (model prog w) A (g c) Q' E s₁)
  {a : Addr} {o : Obj} {es : Array (Int × Value)} {ep : Nat} {t : SetTable} (ho : s.heap.get? a = some o) (hex : o.ExactSet) (hd : o.data = .set es ep t)
  {es1 : Array (Int × Value)} {t2 : SetTable} {S' : K → Bool} (hel : ElemsOf knd es1.toList ∧ (∀ k, S' k = true ↔ ∃ e ∈ es1.toList, knd.is k e.2 = true) ∧ es1.size < scanBound)
  (hf : t2.fits es1.size = true) (ht : TOk b t2) {wd : Bool} {R : Option Bool → Shared → Prop}
  (h : ∀ h', Heap.SameBut a s.heap h' → SetT knd b h' a S' es1.size → R (some true) { s with heap := h' }) :
  wpAny (model prog w) A (storeSet a es1 t2 >>= fun _ => if (!wd && t2.tooFull) = true then (g (relayAll t2 es1 (SetTable.grown es1.size)).2.2 >>= fun _ => storeSet a (relayAll t2 es1 (SetTable.grown es1.size)).1 (relayAll t2 es1 (SetTable.grown es1.size)).2.1 >>= fun _ => pure (some true)) else pure (some true)) R E s := by
 refine wpAny_bind (wpAny_storeSet_of ho hd ?_ (fits_of_scanBound hel.2.2))
 obtain ⟨ho1, hS1⟩ := pZ (knd := knd) ho hex hd hel hf ht
 have hsb1 := Heap.SameBut.update s.heap a (Obj.putSet es1 t2)
 by_cases hc : (!wd && t2.tooFull) = true
 ·rw [if_pos hc]
  have hp := relayAll_perm t2 es1 (SetTable.grown es1.size)
  have hfr := relayAll_fits t2 es1 (SetTable.grown es1.size)
  have htr := rG ht es1 (SetTable.grown es1.size)
  generalize relayAll t2 es1 (SetTable.grown es1.size) = Rl at hp hfr htr ⊢
  obtain ⟨es2, t3, gv⟩ := Rl
  dsimp only at hp hfr htr ⊢
  have hsz : es2.size = es1.size := by rw [← Array.length_toList, hp.length_eq, Array.length_toList]
  have hel2 : ElemsOf knd es2.toList ∧ (∀ k, S' k = true ↔ ∃ e ∈ es2.toList, knd.is k e.2 = true) ∧ es2.size < scanBound :=
   ⟨hel.1.perm hp, fun k => (hel.2.1 k).trans ⟨fun ⟨e, he, q⟩ => ⟨e, hp.mem_iff.mpr he, q⟩, fun ⟨e, he, q⟩ => ⟨e, hp.mem_iff.mp he, q⟩⟩, by rw [hsz]; exact hel.2.2⟩
  refine wpAny_bind (hg _ _ _ (wpAny_bind (wpAny_storeSet_of ho1 rfl ?_ (fits_of_scanBound hel2.2.2))))
  obtain ⟨_, hS2⟩ := pZ (knd := knd) ho1 hex rfl hel2 hfr htr
  rw [hsz] at hS2
  exact wpAny_pure (h _ (hsb1.trans (Heap.SameBut.update _ a _)) hS2)
 ·rw [if_neg hc]
  exact wpAny_pure (h _ hsb1 hS1)
theorem Cd {a : Addr} {S : K → Bool} {n : Nat} {k : K} {x : Value} {Q : Bool → Shared → Prop} (hkey : knd.is k x = true) (hsc : x.scannable = true) (hS : SetT knd b s.heap a S n) (hroom : n + 1 < scanBound)
  (h : ∀ h', Heap.SameBut a s.heap h' → SetT knd b h' a (fun k' => S k' || decide (k' = k)) (if S k then n else n + 1) → Q (!S k) { s with heap := h' }) :
  wpAny (model prog w) A (setAddHashed a x (knd.hash k)) Q E s := by
 obtain ⟨o, es, ep, t, ho, hex, hd, hel, hf, hn, ht⟩ := hS
 unfold setAddHashed setAddHashedIn
 refine wpAny_holding (wpAny_bind (wpAny_setState_of ho hd hf ?_))
 dsimp only
 rw [byScan_of hsc hel.2.2 hel.1, if_pos rfl]
 unfold setAddByScan
 refine wpAny_bind (wpAny_bind (wpAny_rule (wpAny_bind (wpAny_setScan_of hkey ho hd hf hel.1 ?_))))
 cases hr : List.findIdx? (fun e => knd.is k e.2) es.toList with
 | some j =>
  dsimp only
  obtain ⟨hj, hpj, _⟩ := List.findIdx?_eq_some_iff_getElem.mp hr
  have hSk : S k = true := (hel.2.1 k).mpr ⟨es.toList[j], List.getElem_mem hj, hpj⟩
  refine wpAny_pure (wpAny_pure ?_)
  have q := h s.heap (Heap.SameBut.refl a s.heap) ⟨o, es, ep, t, ho, hex, hd, ⟨hel.1, fun k' => by
   rw [Bool.or_eq_true, decide_eq_true_eq, ← hel.2.1 k']
   exact ⟨fun hk => hk.elim id (fun e => e ▸ hSk), .inl⟩, hel.2.2⟩, hf, by rw [hSk]; exact hn, ht⟩
  rw [hSk] at q
  exact q
 | none =>
  dsimp only
  have hSk : S k = false := by
   cases hk : S k with
   | false => rfl
   | true =>
    obtain ⟨e, he, hp⟩ := (hel.2.1 k).mp hk
    have q := List.findIdx?_eq_none_iff.mp hr e he
    rw [hp] at q
    exact Bool.noConfusion q
  have hgw : ∀ (c : Bool) {s₁ : Shared} {Q' : Unit → Shared → Prop}, Q' () s₁ → wpAny (model prog w) A (match c with | true => rule "set.scan.the-table-gave-way" | false => pure ()) Q' E s₁ :=
   fun c s₁ Q' hq => by cases c <;> first | exact wpAny_pure hq | exact wpAny_rule hq
  have hperm := layNew_perm t es (knd.hash k) x
  have hfits := layNew_fits t es (knd.hash k) x
  have htok := wz ht es (knd.hash k) x
  generalize layNew t es (knd.hash k) x = L at hperm hfits htok ⊢
  obtain ⟨es1, t1, wd, gv⟩ := L
  dsimp only at hperm hfits htok ⊢
  rw [Array.toList_push] at hperm
  have hsz1 : es1.size = n + 1 := by rw [← Array.length_toList, hperm.length_eq, List.length_append, Array.length_toList, hn]; rfl
  have hel1 : ElemsOf knd es1.toList ∧ (∀ k', (S k' || decide (k' = k)) = true ↔ ∃ e ∈ es1.toList, knd.is k' e.2 = true) ∧ es1.size < scanBound :=
   ⟨(hel.1.push hkey hsc).perm hperm, mem_push_iff hkey hel.2.1 hperm, by rw [hsz1]; exact hroom⟩
  have hend : ∀ h', Heap.SameBut a s.heap h' → SetT knd b h' a (fun k' => S k' || decide (k' = k)) es1.size → Q true { s with heap := h' } := by
   intro h' hsb hS'
   have q := h h' hsb
   rw [hSk] at q
   rw [hsz1] at hS'
   exact q hS'
  refine wpAny_bind (hgw _ ?_)
  by_cases hpl : t1.plain = true
  ·rw [if_pos hpl, hashByValue_scannable 8 hsc]
   refine wpAny_bind (wpAny_pure ?_)
   refine vg (b := b) ?_ ho hex hd hel1 (t2 := if plainKind x = true then t1 else { t1 with plain := false }) ?_ ?_ ?_
   ·intro c s₁ Q' hq; cases c <;> first | exact wpAny_pure hq | exact wpAny_rule hq
   ·split
    ·exact hfits
    ·exact SetTable.fits_plain_off hfits
   ·split
    ·exact htok
    ·exact yR htok false
   ·intro h' hsb hS'; dsimp only; exact wpAny_pure (hend h' hsb hS')
  ·rw [if_neg hpl]
   refine wpAny_bind (wpAny_pure ?_)
   refine vg (b := b) ?_ ho hex hd hel1 hfits htok ?_
   ·intro c s₁ Q' hq; cases c <;> first | exact wpAny_pure hq | exact wpAny_rule hq
   ·intro h' hsb hS'; dsimp only; exact wpAny_pure (hend h' hsb hS')
end
end SRT
namespace SRT
open PySem PyProof.Rows
abbrev bt (w : World) : Bool := w.params.followText "set-order"
section
variable {prog : Program} {w : World} {A : Around} {R : Result → Shared → Prop} {I : Addr} {fp wr : List Addr} {G : Array GenState → Array GenState → Prop} {n : Nat} {P : Nat → Value → Prop} {St : Nat → Shared → Prop} {b : Bool}
theorem Az (W : WalksS prog w A.in1 I fp wr G n P St) (S : Addr) (hSf : S ∉ fp) (val : Nat → Int) (hval : ∀ i v, P i v → ∃ t, v = .int (val i) t) (hb : n + 1 < scanBound) :
  ∀ (k i : Nat) (s : Shared), n - i = k → i ≤ n → St i s → SetT (intKind prog w) b s.heap S (fun k' => (firstMet val i).any (· == k')) (firstMet val i).length →
   (∀ s', Moved (S :: wr) G s s' → SetT (intKind prog w) b s'.heap S (fun k' => (firstMet val n).any (· == k')) (firstMet val n).length → R (.ok (.ret .none)) s') →
   codeAny (model prog w) A (.builtin "set.update.loop" ⟨[.ref S, .ref I], []⟩) R s := by
 have hSw : S ∉ wr := fun h => hSf (W.sub _ h)
 have hsub : ∀ c ∈ wr, c ∈ S :: wr := fun c hc => List.mem_cons_of_mem _ hc
 intro k
 induction k with
 | zero =>
  intro i s hk hi hst hS hR
  have hin : i = n := by omega
  subst hin
  refine codeAny_builtin F.entry_set_update_loop ?_
  rw [Around.under_plainId F.plain_set_update_loop _]
  show wpAny _ A.in1 (pyNext (.ref I) >>= _) _ _ s
  refine wpAny_bind (W.done s _ _ hst fun s' hm => ?_)
  show wpAny _ A.in1 (ret Value.none) _ _ s'
  exact wpAny_pure (hR s' (hm.mono hsub) (hS.get fun o e => hm.heap S _ hSw e))
 | succ k ih =>
  intro i s hk hi hst hS hR
  have hlt : i < n := by omega
  refine codeAny_builtin F.entry_set_update_loop ?_
  rw [Around.under_plainId F.plain_set_update_loop _]
  show wpAny _ A.in1 (pyNext (.ref I) >>= _) _ _ s
  refine wpAny_bind (W.item i s _ _ hlt hst fun v s' hP hst' hm => ?_)
  obtain ⟨t, rfl⟩ := hval i v hP
  have hS' := hS.get fun o e => hm.heap S _ hSw e
  show wpAny _ A.in1 (holding [Value.int (val i) t] (setAdd S (.int (val i) t)) >>= _) _ _ s'
  refine wpAny_bind (wpAny_holding ?_)
  unfold setAdd
  refine wpAny_holding (wpAny_bind ((intKind prog w).pyHash (k := val i) (intKind_is _ _ _ _) ?_))
  have hroom : (firstMet val i).length + 1 < scanBound := by have := firstMet_length_le val i; omega
  refine Cd (knd := intKind prog w) (s := { s' with toks := s'.toks + 1 }) (intKind_is _ _ _ _) rfl hS' hroom fun h' hsb hS2 => ?_
  have hSi : SetT (intKind prog w) b h' S (fun k' => (firstMet val (i + 1)).any (· == k')) (firstMet val (i + 1)).length :=
   hS2.congr (fun k' => by rw [firstMet_succ, step_any]) (by rw [firstMet_succ, step_length])
  refine wpAny_pure ⟨plainId_quiet F.plain_set_update_loop _, ih (i + 1) _ (by omega) hlt (W.frame _ s' _ _ hst' (Nat.le_succ _) fun c hc o e => ?_) hSi fun s'' hm'' hS'' => ?_⟩
  ·rw [hsb.2 c (fun h : c = S => hSf (by rw [← h]; exact hc))]; exact e
  ·refine hR s'' (Moved.trans W.gtrans ((hm.mono hsub).then_heap (Nat.le_succ _) fun c o hc e => ?_) hm'') hS''
   rw [hsb.2 c (fun h : c = S => hc (by rw [h]; exact List.mem_cons_self))]; exact e
end
abbrev pq (w : World) : Obj := { cls := .type "set", dict := none, data := .set #[] 0 (.fresh 0 0 (!bt w)) }
section
variable {prog : Program} {w : World} {A : Around} {E : Value → Shared → Prop} {s : Shared}
theorem Aa (a : Value) {Q₁ : Value → Shared → Prop} (h : Q₁ (.ref s.heap.objs.size) { s with heap := s.heap.push (pq w) }) :
  codeAny (model prog w) A (.call (.builtin "set.__new__") ⟨[.type "set", a], []⟩) (wants Q₁ E) s := by
 refine codeAny_of_tree (show wpAny _ A.in1 (checkBuiltinCall "set.__new__" ⟨[.type "set", a], []⟩ >>= fun _ => again (.builtin "set.__new__" ⟨[.type "set", a], []⟩)) _ _ s from ?_)
 refine wpAny_bind (wpAny_of_eq (F.newCall_set_1 a) (wpAny_pure ⟨plainId_quiet F.plain_set_new _, codeAny_builtin F.entry_set_new ?_⟩))
 rw [Around.under_plainId F.plain_set_new _]
 unfold Builtin.«set.__new__» Builtin.Frozenset.newClass
 have hsub := sub_set_self
 obtain ⟨hp, g, d, tk, os⟩ := s
 dsimp only
 wp_walk
 refine wpAny_askSetting (wpAny_pure ?_)
 dsimp only
 simp only [newObj]
 exact wpAny_bind (wpAny_alloc (wpAny_pure (wpAny_pure h)))
set_option maxHeartbeats 3200000 in
theorem Ac {l : Addr} {items : Array Value} {ns : List Int} {Q : Value → Shared → Prop} (hh : A.handled = none) (hl : s.heap.IsList l items) (hi : IntsAre items.toList ns) (hb : items.size + 1 < scanBound)
  (h : ∀ (h' : Heap) (tk : Nat), SetT (intKind prog w) (!bt w) h' s.heap.objs.size (fun k' => (firstMet (fun i => ns.getD i 0) items.size).any (· == k')) (firstMet (fun i => ns.getD i 0) items.size).length →
   (∀ c o, c < s.heap.objs.size → s.heap.get? c = some o → h'.get? c = some o) → Q (.ref s.heap.objs.size) { s with heap := h', toks := tk }) :
  wpAny (model prog w) A (call (.type "set") [.ref l]) Q E s := by
 obtain ⟨c, tl, hmro⟩ := F.called_set.mro
 have hmade := F.called_set.made
 have hsub := F.called_set.sub
 refine wpAny_call (codeAny_of_tree (show wpAny _ _ (callAny (.type "set") _) _ _ _ from wpAny_pure ⟨Code.quiet_builtin _ (by decide +kernel), codeAny_builtin F.entry_type_call ?_⟩))
 rw [Around.under_plain (weight_type_call_type "set" [.ref l] []) rfl]
 have h1 := F.called_set.notType
 have h2 := F.called_set.canCreate
 have hct := F.typeCall_set_1 (.ref l)
 repeat (any_goals (first | assumption | wp_step))
 refine codeAny_mono (Aa (.ref l) (E := E) (Q₁ := fun obj s₁ => obj = .ref s.heap.objs.size ∧ s₁ = { s with heap := s.heap.push (pq w) }) ⟨rfl, rfl⟩) fun r s₁ hr => ?_
 cases r with
 | error e => exact hr
 | ok fl =>
  cases fl with
  | ret obj =>
   obtain ⟨rfl, rfl⟩ := hr
   have hS : (s.heap.push (pq w)).get? s.heap.objs.size = some (pq w) := Heap.get?_push_size _ rfl
   have hT : Shared.TypeIs { s with heap := s.heap.push (pq w) } (.ref s.heap.objs.size) "set" := ⟨_, hS, rfl⟩
   have hli := F.called_set.init.lookup
   have hbi := F.called_set.init.bind (.ref s.heap.objs.size)
   repeat (any_goals (first | assumption | wp_step))
   refine codeAny_mono (codeAny_call_builtin (R := wants (fun r s₂ => r = .none ∧ ∃ h' tk, s₂ = { s with heap := h', toks := tk } ∧
     SetT (intKind prog w) (!bt w) h' s.heap.objs.size (fun k' => (firstMet (fun i => ns.getD i 0) items.size).any (· == k')) (firstMet (fun i => ns.getD i 0) items.size).length ∧
     (∀ c o, c < s.heap.objs.size → s.heap.get? c = some o → h'.get? c = some o)) E) F.called_set.init.plain F.entry_set_init (check_set_init_1 hT ?_)) fun r₂ s₂ hr₂ => ?_
   ·obtain ⟨ol, hol, hcl, nl, hdl⟩ := hl
    obtain ⟨ocls, odict, odata, oslots⟩ := ol
    simp only at hcl hdl
    subst hcl
    subst hdl
    have hol' : (s.heap.push (pq w)).get? l = some { cls := .type "list", dict := odict, data := .seq items nl, slots := oslots } := Heap.get?_push_of_some _ hol
    have hsls := F.sub_list_set
    have hslf := F.sub_list_frozenset
    have hne : (Value.type "list" == Value.type "dict") = false := by decide
    have hl1 : (s.heap.push (pq w)).IsList l items := ⟨_, hol', rfl, nl, rfl⟩
    unfold Builtin.«set.__init__» noKeywords Builtin.Frozenset.updateFrom
    generalize hPI : pyIter = PI
    wp_walk
    subst hPI
    refine wpAny_pyIter_list hl1 (wpAny_bind (wpAny_runValue ?_))
    have hlS : l < s.heap.objs.size := Heap.lt_size hol
    have hh3 : A.in1.in1.in1.handled = none := by simp [hh]
    have hneI : l ≠ (s.heap.push (pq w)).objs.size := by
     rw [Heap.size_push]; exact Nat.ne_of_lt (Nat.lt_succ_of_lt hlS)
    have hSf : s.heap.objs.size ∉ [(s.heap.push (pq w)).objs.size, l] := by
     rw [Heap.size_push]; simp only [List.mem_cons, List.mem_singleton, List.not_mem_nil, or_false, not_or]
     exact ⟨Nat.ne_of_lt (Nat.lt_succ_self _), Nat.ne_of_gt hlS⟩
    have hval : ∀ (i : Nat) (v : Value), items[i]? = some v → ∃ t, v = .int ((fun i => ns.getD i 0) i) t := fun i v hv => IntsAre.int_at hi i v (by rw [Array.getElem?_toList]; exact hv)
    refine Az (b := !bt w) ((Walks.list hh3 _ l hneI items).toS) s.heap.objs.size hSf (fun i => ns.getD i 0) hval hb (items.size - 0) 0 _ (by omega) (Nat.zero_le _)
     ⟨⟨_, Heap.get?_push_size _ rfl, rfl, rfl⟩, (hl1.push _)⟩ ?hS0 ?hR
    case hS0 => exact ⟨_, #[], 0, _, Heap.get?_push_of_some _ hS, ⟨rfl, rfl, rfl⟩, rfl, ⟨fun e he => by simp at he, fun k => by simp [firstMet_zero], by decide⟩, by rfl, rfl, yS _ _ _⟩
    case hR =>
     intro s' hm hS'
     obtain ⟨h', g', d', tk', os'⟩ := s'
     have eg : g' = s.gens := hm.gens
     have ed : d' = s.drawn := hm.drawn
     have eo : os' = s.os := hm.os
     subst eg; subst ed; subst eo
     show wpAny _ _ _ _ _ _
     refine wpAny_pure (show wpAny _ _ (ret Value.none) _ _ _ from wpAny_pure ⟨rfl, h', tk', rfl, hS', fun c o hc e => ?_⟩)
     have hc1 : c ≠ s.heap.objs.size := Nat.ne_of_lt hc
     have hc2 : c ≠ (s.heap.push (pq w)).objs.size := by
      rw [Heap.size_push]; exact Nat.ne_of_lt (Nat.lt_succ_of_lt hc)
     exact hm.heap c o (by simp only [List.mem_cons, List.mem_singleton, List.not_mem_nil, or_false, not_or]; exact ⟨hc1, hc2⟩) (Heap.get?_push_of_some _ (Heap.get?_push_of_some _ e))
   ·cases r₂ with
    | error e => exact hr₂
    | ok fl₂ =>
     cases fl₂ with
     | ret r =>
      obtain ⟨rfl, h', tk, rfl, hS', hk'⟩ := hr₂
      repeat (any_goals (first | assumption | wp_step))
      exact h _ _ hS' hk'
     | _ => exact hr₂.elim
  | _ => exact hr.elim
end
end SRT
namespace SRT
open PySem PyProof.Rows
theorem jW {α : Type} : ∀ {l : List α} {i : Nat} (h : i < l.length), (l[i] :: l.eraseIdx i).Perm l
 | x :: l, 0, _ => List.Perm.refl _
 | x :: l, i + 1, h => by
  have h' : i < l.length := by simpa using h
  show (l[i] :: x :: l.eraseIdx i).Perm (x :: l)
  exact (List.Perm.swap _ _ _).trans (List.Perm.cons _ (jW h'))
section
variable {prog : Program} {w : World} {A : Around} {E : Value → Shared → Prop}
theorem wp_choose {s : Shared} {src : Source} {n : Nat} {Q : Nat → Shared → Prop} (hn : n ≠ 0) (h : ∀ k d, k < n → Q k { s with drawn := d }) : wpAny (model prog w) A (choose src n) Q E s :=
 fun _ _ _ => ⟨hn, h _ _ (Nat.mod_lt _ (Nat.pos_of_ne_zero hn))⟩
theorem Kh {α : Type} : ∀ (n : Nat) (xs : List α) (s : Shared) {Q : List α → Shared → Prop}, xs.length = n → (∀ ys d, ys.Perm xs → Q ys { s with drawn := d }) → wpAny (model prog w) A (drawOrder n xs) Q E s := by
 intro n
 induction n with
 | zero =>
  intro xs s Q hl h
  have e : xs = [] := List.length_eq_zero_iff.mp hl
  subst e
  exact wpAny_pure (h [] s.drawn (List.Perm.refl _))
 | succ n ih =>
  intro xs s Q hl h
  cases xs with
  | nil => cases hl
  | cons x xs =>
   unfold drawOrder
   refine wpAny_bind (wp_choose (by simp) fun i d hi => ?_)
   have hg : (x :: xs)[i]? = some (x :: xs)[i] := List.getElem?_eq_getElem hi
   rw [hg]
   dsimp only
   refine wpAny_bind (ih _ _ (by rw [List.length_eraseIdx, if_pos hi]; simpa using hl) fun ys d' hp => wpAny_pure (h _ d' ?_))
   exact (List.Perm.cons _ hp).trans (jW hi)
end
theorem Iw {α : Type} (next : Nat → Nat) : ∀ (fuel k : Nat) (left : List α) (out : Array α), left.length = fuel → (pickOrder.go next fuel k left out).toList.Perm (out.toList ++ left) := by
 intro fuel
 induction fuel with
 | zero =>
  intro k left out hl
  have e : left = [] := List.length_eq_zero_iff.mp hl
  subst e
  show out.toList.Perm _
  rw [List.append_nil]
 | succ fuel ih =>
  intro k left out hl
  unfold pickOrder.go
  have hi : next k % left.length < left.length := Nat.mod_lt _ (by omega)
  rw [List.getElem?_eq_getElem hi]
  dsimp only
  refine (ih (k + 1) _ _ (by rw [List.length_eraseIdx, if_pos hi]; omega)).trans ?_
  rw [Array.toList_push, List.append_assoc]
  exact List.Perm.append_left _ (jW hi)
theorem zp {α : Type} (next : Nat → Nat) (xs : Array α) : (pickOrder next xs).toList.Perm xs.toList := by
 have := Iw next xs.size 0 xs.toList #[] (by simp)
 simpa [pickOrder] using this
def eX (h : Heap) (S : Addr) (es : Array (Int × Value)) (ep : Nat) (t : SetTable) : Prop := ∃ o, h.get? S = some o ∧ o.ExactSet ∧ o.data = .set es ep t
def dw (h : Heap) (I : Addr) (first : Value) (i : Nat) (S : Addr) (n ep : Nat) : Prop :=
 h.get? I = some { cls := .type "set_iterator", dict := none, data := .fields #[first, .int i 0, .ref S, .int n 0, .int ep 0], slots := #[] }
theorem eX.get {h h' : Heap} {S : Addr} {es : Array (Int × Value)} {ep : Nat} {t : SetTable} (hS : eX h S es ep t) (hk : ∀ o, h.get? S = some o → h'.get? S = some o) : eX h' S es ep t :=
 let ⟨o, ho, r⟩ := hS; ⟨o, hk o ho, r⟩
section
variable {prog : Program} {w : World} {A : Around} {E : Value → Shared → Prop} {s : Shared} {S : Addr} {es : Array (Int × Value)} {ep : Nat} {t : SetTable}
theorem jt {Q : (Array (Int × Value) × Nat × SetTable) → Shared → Prop} (hS : eX s.heap S es ep t) (hf : t.fits es.size = true) (h : Q (es, ep, t) s) : wpAny (model prog w) A (setState S) Q E s :=
 let ⟨_, ho, _, hd⟩ := hS; wpAny_setState_of ho hd hf h
theorem below_at {xs : Array Nat} (hr : Ris xs) {i : Nat} (hi : i ≤ xs.size) : SetTable.below xs (if i = 0 then 0 else xs.getD (i - 1) 0 + 1) = i := by
 have hs := j7 hr (if i = 0 then 0 else xs.getD (i - 1) 0 + 1)
 generalize hb : SetTable.below xs (if i = 0 then 0 else xs.getD (i - 1) 0 + 1) = b at hs
 by_cases h0 : i = 0
 ·subst h0
  simp only [↓reduceIte] at hs
  rcases Nat.eq_zero_or_pos b with h | h
  ·exact h
  ·have hl : 0 < xs.size := by omega
   have hg : xs[0]? = some xs[0] := by simp [hl]
   have := (hs.1 0 _ hg).mp h
   omega
 ·rw [if_neg h0] at hs
  have hl : i - 1 < xs.size := by omega
  have hg : xs[i - 1]? = some xs[i - 1] := by simp [hl]
  have hd : xs.getD (i - 1) 0 = xs[i - 1] := by simp [Array.getD, hl]
  rw [hd] at hs
  have h1 : i - 1 < b := (hs.1 _ _ hg).mpr (by omega)
  rcases Nat.lt_or_ge i b with h | h
  ·have hl2 : i < xs.size := by omega
   have hg2 : xs[i]? = some xs[i] := by simp [hl2]
   have h2 := (hs.1 _ _ hg2).mp h
   have h3 := hr.lt hg hg2 (by omega)
   omega
  ·omega
theorem Jv (hf : t.fits es.size = true) (ht : TOk (!bt w) t) (hd : bt w = true ∨ (!t.plain && decide (es.size > 1)) = false) :
  ∃ (vs : List Value) (sl : Nat → Nat), sl 0 = 0 ∧ vs.Perm (es.toList.map (·.2)) ∧ ∀ (i : Nat) (s : Shared) (A : Around) (E : Value → Shared → Prop) (Q : Option (Value × Nat) → Shared → Prop), i ≤ vs.length → eX s.heap S es ep t →
   Q (vs[i]?.map fun x => (x, sl (i + 1))) s → wpAny (model prog w) A (setNext S (sl i) i ep) Q E s := by
 by_cases hb : bt w = true
 ·refine ⟨(pickOrder (w.params.setOrder S ep) es).toList.map (·.2), fun _ => 0, rfl, (zp _ es).map _, fun i s A E Q hi hS h => ?_⟩
  unfold setNext
  refine wpAny_bind (jt hS hf ?_)
  dsimp only
  unfold setsByText
  refine wpAny_bind (wpAny_bind (wpAny_askSetting (wpAny_pure ?_)))
  show wpAny _ _ (if bt w = true then _ else _) _ _ _
  rw [if_pos hb, if_neg (by simp)]
  unfold setWalk
  refine wpAny_bind (wpAny_bind (jt hS hf ?_))
  dsimp only
  unfold setsByText
  refine wpAny_bind (wpAny_bind (wpAny_askSetting (wpAny_pure ?_)))
  show wpAny _ _ (if bt w = true then _ else _) _ _ _
  rw [if_pos hb]
  refine wpAny_bind (wpAny_askSetting (wpAny_pure (wpAny_pure ?_)))
  have e : ((pickOrder (w.params.setOrder S ep) es)[i]?).map (fun e => (e.2, 0)) = (((pickOrder (w.params.setOrder S ep) es).toList.map (·.2))[i]?).map fun x => (x, 0) := by
   rw [List.getElem?_map, Option.map_map, Array.getElem?_toList]
   rfl
  show Q (((pickOrder (w.params.setOrder S ep) es)[i]?).map (fun e => (e.2, 0))) s
  rw [e]
  exact h
 ·have hb' : bt w = false := by simpa using hb
  have hdr := hd.resolve_left hb
  have hps : t.place.size = es.size := by
   have := hf
   unfold SetTable.fits at this
   simp only [Bool.and_eq_true, beq_iff_eq] at this
   exact this.1
  refine ⟨es.toList.map (·.2), fun i => if i = 0 then 0 else t.place.getD (i - 1) 0 + 1, rfl, List.Perm.refl _, fun i s A E Q hi hS h => ?_⟩
  unfold setNext
  refine wpAny_bind (jt hS hf ?_)
  dsimp only
  unfold setsByText
  refine wpAny_bind (wpAny_bind (wpAny_askSetting (wpAny_pure ?_)))
  show wpAny _ _ (if bt w = true then _ else _) _ _ _
  rw [if_neg hb]
  show wpAny _ _ (if (!t.plain && decide (es.size > 1)) = true then _ else _) _ _ _
  rw [if_neg (by rw [hdr]; simp)]
  refine wpAny_bind ?_
  show wpAny _ _ (if (!t.led && !es.isEmpty) = true then _ else _) _ _ _
  have hled : t.led = true := by rw [ht.2.2, hb']; rfl
  rw [if_neg (by rw [hled]; simp)]
  refine wpAny_pure (wpAny_pure ?_)
  have hi' : i ≤ es.size := by simpa using hi
  rw [below_at ht.1 (by rw [hps]; exact hi')]
  rcases Nat.lt_or_ge i es.size with hlt | hge
  ·have g1 : es[i]? = some es[i] := by simp [hlt]
   have g2 : t.place[i]? = some t.place[i] := by simp [hps, hlt]
   have g3 : (es.toList.map (·.2))[i]? = some es[i].2 := by rw [List.getElem?_map, Array.getElem?_toList, g1]; rfl
   rw [g1, g2]
   rw [g3] at h
   have g4 : t.place.getD i 0 = t.place[i]'(by rw [hps]; exact hlt) := by simp [Array.getD, hps, hlt]
   simp only [Option.map_some, Nat.add_one_ne_zero, if_false, Nat.add_sub_cancel, g4] at h
   exact h
  ·have g1 : es[i]? = none := by simp [hge]
   have g3 : (es.toList.map (·.2))[i]? = none := by rw [List.getElem?_map, Array.getElem?_toList, g1]; rfl
   rw [g1]
   rw [g3] at h
   exact h
end
end SRT
namespace SRT
open PySem PyProof.Rows
theorem uW : entryFor table "set.__iter__" = some Builtin.«frozenset.__iter__» := entryFor_alias (id' := "frozenset.__iter__") (by kernel_rfl) rfl (by decide +kernel) (by kernel_rfl)
theorem bY : Slot "set_iterator" "__next__" "set_iterator.__next__" :=
 .of (owner := "set_iterator") (n := "__next__") (by rw [typeLookup_type, builtinLookup_eq_fast]; kernel_rfl) (by decide +kernel) (by decide +kernel) (by decide +kernel) (by first | exact .inl (by decide +kernel) | exact .inr (by decide +kernel)) (by rw [isSubtype_type]; kernel_rfl)
theorem nU : Slot "set_iterator" "__iter__" "set_iterator.__iter__" :=
 .of (owner := "set_iterator") (n := "__iter__") (by rw [typeLookup_type, builtinLookup_eq_fast]; kernel_rfl) (by decide +kernel) (by decide +kernel) (by decide +kernel) (by first | exact .inl (by decide +kernel) | exact .inr (by decide +kernel)) (by rw [isSubtype_type]; kernel_rfl)
theorem g8 : entryFor table "set_iterator.__next__" = some Builtin.«set_iterator.__next__» := entryFor_of_tree (by kernel_rfl)
theorem uV : entryFor table "set_iterator.__iter__" = some Builtin.«dict_keyiterator.__iter__» := entryFor_alias (id' := "dict_keyiterator.__iter__") (by kernel_rfl) rfl (by decide +kernel) (by kernel_rfl)
theorem jk (a : Value) : argsOk "set_iterator.__next__" ⟨[a], []⟩ := by unfold argsOk; kernel_rfl
theorem wN (a : Value) : argsOk "set_iterator.__iter__" ⟨[a], []⟩ := by unfold argsOk; kernel_rfl
section
variable {prog : Program} {w : World} {A : Around} {E : Value → Shared → Prop} {s : Shared} {S I : Addr} {es : Array (Int × Value)} {ep : Nat} {t : SetTable}
theorem dw.ty {h : Shared} {first : Value} {i n : Nat} (hI : dw h.heap I first i S n ep) : h.TypeIs (.ref I) "set_iterator" := ⟨_, hI, rfl⟩
theorem dw.get {h h' : Heap} {first : Value} {i n : Nat} (hI : dw h I first i S n ep) (hk : ∀ o, h.get? I = some o → h'.get? I = some o) : dw h' I first i S n ep := hk _ hI
theorem gH {Q : Array (Int × Value) → Shared → Prop} (hS : eX s.heap S es ep t) (hf : t.fits es.size = true) (h : Q es s) : wpAny (model prog w) A (setEntries S) Q E s :=
 let ⟨_, ho, _, hd⟩ := hS; wpAny_setEntries_of ho hd hf h
theorem uU {Q : Nat → Shared → Prop} (hS : eX s.heap S es ep t) (hf : t.fits es.size = true) (h : Q ep s) : wpAny (model prog w) A (setEpoch S) Q E s :=
 let ⟨_, ho, _, hd⟩ := hS; wpAny_setEpoch_of ho hd hf h
theorem wZ (hh : A.handled = none) {s : Shared} {P : Fin → Shared → Prop} {E' : Value → Shared → Prop} (h : ∀ (h' : Heap) (e : Value), (∀ c o, s.heap.get? c = some o → h'.get? c = some o) → Shared.TypeIs { s with heap := h' } e "StopIteration" → E' e { s with heap := h' }) :
  wpAny (model prog w) A (newExc (.type "StopIteration") [] >>= fun e => (raiseNew e : Sem Fin)) P E' s := by
 refine wpAny_bind ?_
 simp only [newExc, newTuple]
 refine wpAny_bind (wpAny_newObj_type (wpAny_bind (m := firstArgMember _ _) (wpAny_of_eq (a := Value.none) (by first | rfl | (simp only [firstArgMember]; rfl)) ?_)) (by size_fits))
 refine wpAny_newObj_type ?_ (by size_fits)
 simp only [raiseNew]
 refine wpAny_bind (wpAny_handled ?_)
 rw [hh]
 refine wpAny_bind (wpAny_pure (wpAny_throw (h _ (.ref _) (fun c o e => Heap.get?_push_of_some _ (Heap.get?_push_of_some _ e)) ⟨_, Heap.get?_push_size _ rfl, rfl⟩)))
theorem next_item {n i : Nat} {first : Nat} {v : Value} {sl : Nat} {Q : Option Value → Shared → Prop} (hI : dw s.heap I (.int first 0) i S es.size ep) (hS : eX s.heap S es ep t) (hf : t.fits es.size = true)
  (hn : ∀ (s : Shared) (A : Around) (E : Value → Shared → Prop) (Q : Option (Value × Nat) → Shared → Prop), eX s.heap S es ep t → Q (some (v, sl)) s → wpAny (model prog w) A (setNext S first i ep) Q E s)
  (hne : S ≠ I) (hQ : ∀ h', dw h' I (.int sl 0) (i + 1) S es.size ep → Heap.SameBut I s.heap h' → Q (some v) { s with heap := h' }) : wpAny (model prog w) A (pyNext (.ref I)) Q E s := by
 unfold pyNext
 refine wpAny_bind (wpAny_attempt (wpAny_callSpecial?_slot (name := Str.ofString "__next__") hI.ty bY (wpAny_call_entry bY hI.ty g8 ?_ (jk _))))
 show wpAny _ _ (fieldsOf (.ref I) >>= _) _ _ s
 refine wpAny_bind (wpAny_fieldsOf hI rfl ?_)
 refine wpAny_bind (gH hS hf ?_)
 rw [if_neg (by simp)]
 dsimp only
 refine wpAny_bind (hn s _ _ _ hS ?_)
 dsimp only
 refine wpAny_bind (wpAny_setField_rec hI (by simp) fun h1 g1 b1 => ?_)
 refine wpAny_bind (wpAny_setField_rec (s := { s with heap := h1 }) g1 (by simp) fun h2 g2 b2 => ?_)
 exact wpAny_pure ⟨_, rfl, wpAny_pure (hQ h2 g2 (b1.trans b2))⟩
end
end SRT
namespace SRT
open PySem PyProof.Rows
section
variable {prog : Program} {w : World} {A : Around} {E : Value → Shared → Prop} {s : Shared} {S I T : Addr} {es : Array (Int × Value)} {ep : Nat} {t : SetTable}
theorem uf {a : Addr} {h h' h'' : Heap} (b : Heap.SameBut a h h') (k : ∀ c o, h'.get? c = some o → h''.get? c = some o) (c : Addr) (o : Obj) (hc : c ≠ a) (e : h.get? c = some o) : h''.get? c = some o := k c o (b.extBut c o hc e)
theorem next_end {i first : Nat} {Q : Option Value → Shared → Prop} (hh : A.handled = none) (hI : dw s.heap I (.int first 0) i S es.size ep) (hS : eX s.heap S es ep t) (hf : t.fits es.size = true)
  (hn : ∀ (s : Shared) (A : Around) (E : Value → Shared → Prop) (Q : Option (Value × Nat) → Shared → Prop), eX s.heap S es ep t → Q none s → wpAny (model prog w) A (setNext S first i ep) Q E s)
  (hQ : ∀ h', (∀ c o, c ≠ I → s.heap.get? c = some o → h'.get? c = some o) → Q none { s with heap := h' }) : wpAny (model prog w) A (pyNext (.ref I)) Q E s := by
 unfold pyNext
 refine wpAny_bind (wpAny_attempt (wpAny_callSpecial?_slot (name := Str.ofString "__next__") hI.ty bY (wpAny_call_entry bY hI.ty g8 ?_ (jk _))))
 show wpAny _ _ (fieldsOf (.ref I) >>= _) _ _ s
 refine wpAny_bind (wpAny_fieldsOf hI rfl (wpAny_bind (gH hS hf ?_)))
 rw [if_neg (by simp)]
 dsimp only
 refine wpAny_bind (hn s _ _ _ hS ?_)
 dsimp only
 refine wpAny_bind (wpAny_setField_rec hI (by simp) fun h1 g1 b1 => ?_)
 refine wZ (s := { s with heap := h1 }) (by simpa using hh) fun h2 e k2 ty => wpAny_bind (wpAny_isInstance ty isSubtype_stop (wpAny_pure (hQ h2 fun c o hc x => uf b1 k2 c o hc x)))
def TupAt (h : Heap) (T : Addr) (ds : List Nat) : Prop := h.get? T = some { cls := .type "tuple", data := .seq (ds.map fun (i : Nat) => rawInt i).toArray }
theorem wF {i d : Nat} {ds : List Nat} {v : Value} {Q : Option Value → Shared → Prop} (hI : dw s.heap I (.ref T) i S es.size ep) (hS : eX s.heap S es ep t) (hT : TupAt s.heap T ds) (hf : t.fits es.size = true)
  (hd : ds[i]? = some d) (hv : (es[d]?).map (·.2) = some v) (hne : S ≠ I)
  (hQ : ∀ h', dw h' I (.ref T) (i + 1) S es.size ep → Heap.SameBut I s.heap h' → Q (some v) { s with heap := h' }) : wpAny (model prog w) A (pyNext (.ref I)) Q E s := by
 unfold pyNext
 refine wpAny_bind (wpAny_attempt (wpAny_callSpecial?_slot (name := Str.ofString "__next__") hI.ty bY (wpAny_call_entry bY hI.ty g8 ?_ (jk _))))
 show wpAny _ _ (fieldsOf (.ref I) >>= _) _ _ s
 refine wpAny_bind (wpAny_fieldsOf hI rfl (wpAny_bind (gH hS hf ?_)))
 rw [if_neg (by simp)]
 dsimp only
 refine wpAny_bind (wpAny_seqItems hT rfl ?_)
 dsimp only
 have hg : (ds.map fun (i : Nat) => rawInt i).toArray[(i : Int).toNat]? = some (.int (d : Int) 0) := by
  rw [Int.toNat_natCast, List.getElem?_toArray, List.getElem?_map, hd]
  rfl
 rw [hg]
 dsimp only
 unfold setNextDrawn
 refine wpAny_bind (wpAny_bind (jt hS hf ?_))
 dsimp only
 rw [if_neg (by simp)]
 obtain ⟨⟨hh, x⟩, he, rfl⟩ := Option.map_eq_some_iff.mp hv
 rw [Int.toNat_natCast, he]
 dsimp only
 refine wpAny_pure ?_
 refine wpAny_bind (wpAny_setField_rec hI (by simp) fun h1 g1 b1 => ?_)
 exact wpAny_pure ⟨_, rfl, wpAny_pure (hQ h1 g1 b1)⟩
theorem zY {i : Nat} {ds : List Nat} {Q : Option Value → Shared → Prop} (hh : A.handled = none) (hI : dw s.heap I (.ref T) i S es.size ep) (hS : eX s.heap S es ep t) (hT : TupAt s.heap T ds) (hf : t.fits es.size = true)
  (hd : ds[i]? = none) (hQ : ∀ h', (∀ c o, c ≠ I → s.heap.get? c = some o → h'.get? c = some o) → Q none { s with heap := h' }) : wpAny (model prog w) A (pyNext (.ref I)) Q E s := by
 unfold pyNext
 refine wpAny_bind (wpAny_attempt (wpAny_callSpecial?_slot (name := Str.ofString "__next__") hI.ty bY (wpAny_call_entry bY hI.ty g8 ?_ (jk _))))
 show wpAny _ _ (fieldsOf (.ref I) >>= _) _ _ s
 refine wpAny_bind (wpAny_fieldsOf hI rfl (wpAny_bind (gH hS hf ?_)))
 rw [if_neg (by simp)]
 dsimp only
 refine wpAny_bind (wpAny_seqItems hT rfl ?_)
 dsimp only
 have hg : (ds.map fun (i : Nat) => rawInt i).toArray[(i : Int).toNat]? = none := by
  rw [Int.toNat_natCast, List.getElem?_toArray, List.getElem?_map, hd]
  rfl
 rw [hg]
 dsimp only
 refine wpAny_bind (wpAny_setField_rec hI (by simp) fun h1 g1 b1 => ?_)
 refine wpAny_bind (wpAny_setField_rec (s := { s with heap := h1 }) g1 (by simp) fun h2 g2 b2 => ?_)
 refine wZ (s := { s with heap := h2 }) (by simpa using hh) fun h3 e k3 ty => wpAny_bind (wpAny_isInstance ty isSubtype_stop (wpAny_pure (hQ h3 fun c o hc x => uf (b1.trans b2) k3 c o hc x)))
theorem xH {first : Value} {i n : Nat} {Q : Value → Shared → Prop} (hI : dw s.heap I first i S n ep) (h : Q (.ref I) s) : wpAny (model prog w) A (pyIter (.ref I)) Q E s := by
 refine wpAny_pyIter_slot hI.ty nU (wpAny_call_entry nU hI.ty uV ?_ (wN _))
 show wpAny _ _ (ret (.ref I)) _ _ s
 exact wpAny_pure ⟨_, rfl, "set_iterator", _, hI.ty, bY.lookup, h⟩
theorem Ca {Q : Value → Shared → Prop} (hh : A.handled = none) (hS : eX s.heap S es ep t) (hf : t.fits es.size = true) (ht : TOk (!bt w) t) (hz : es.size ≤ sizeLine)
  (h : ∀ (s' : Shared) (I : Addr) (fp : List Addr) (vs : List Value) (St : Nat → Shared → Prop), (∀ c o, s.heap.get? c = some o → s'.heap.get? c = some o) → s'.gens = s.gens → s'.os = s.os → s'.toks = s.toks → vs.Perm (es.toList.map (·.2)) → I = s'.heap.objs.size - 1 → s.heap.objs.size ≤ I → I < s'.heap.objs.size →
   (∀ A' : Around, A'.handled = none → WalksS prog w A' I fp [I] (fun a b => b = a) vs.length (fun i v => vs[i]? = some v) St) → St 0 s' → (∀ b ∈ fp, b < s'.heap.objs.size ∧ (b = S ∨ s.heap.objs.size ≤ b)) → Q (.ref I) s') :
  wpAny (model prog w) A (pyIter (.ref S)) Q E s := by
 obtain ⟨o, ho, hx, hd⟩ := id hS
 have hty : s.TypeIs (.ref S) "set" := ⟨o, ho, hx.1⟩
 have lt : S < s.heap.objs.size := Heap.lt_size ho
 refine wpAny_pyIter_slot hty F.slot_set_iter (wpAny_call_entry F.slot_set_iter hty uW ?_ (F.args_set_iter_1 _))
 unfold Builtin.«frozenset.__iter__»
 show wpAny _ _ (Builtin.Frozenset.sizeOf S >>= _) _ _ s
 unfold Builtin.Frozenset.sizeOf
 refine wpAny_bind (wpAny_bind (gH hS hf (wpAny_pure ?_)))
 unfold setDrawn setsByText
 refine wpAny_bind (wpAny_bind (jt hS hf ?_))
 dsimp only
 refine wpAny_bind (wpAny_bind (wpAny_askSetting (wpAny_pure (wpAny_pure ?_))))
 show wpAny _ _ (if (!bt w && (!t.plain && decide (es.size > 1))) = true then _ else _) _ _ _
 have arith : ∀ {n m : Nat}, m = n + 1 → n = m - 1 := by intros; omega
 by_cases hc : (!bt w && (!t.plain && decide (es.size > 1))) = true
 ·rw [if_pos hc]
  refine wpAny_bind (Kh es.size (List.range es.size) _ (List.length_range) fun ds d hp => ?_)
  have hdl : ds.length = es.size := by rw [hp.length_eq, List.length_range]
  refine wpAny_bind (wpAny_newTuple ?_ (by rw [List.length_map, hdl]; exact hz))
  have hS1 : eX (s.heap.push { cls := .type "tuple", data := .seq (ds.map fun (i : Nat) => rawInt i).toArray }) S es ep t := hS.get fun o e => Heap.get?_push_of_some _ e
  have hT1 : TupAt (s.heap.push { cls := .type "tuple", data := .seq (ds.map fun (i : Nat) => rawInt i).toArray }) s.heap.objs.size ds := Heap.get?_push_size _ rfl
  have hz1 : (s.heap.push { cls := .type "tuple", data := .seq (ds.map fun (i : Nat) => rawInt i).toArray }).objs.size = s.heap.objs.size + 1 := Heap.size_push ..
  have hk1 : ∀ c o, s.heap.get? c = some o → (s.heap.push { cls := .type "tuple", data := .seq (ds.map fun (i : Nat) => rawInt i).toArray }).get? c = some o := fun c o e => Heap.get?_push_of_some _ e
  generalize s.heap.push { cls := .type "tuple", data := .seq (ds.map fun (i : Nat) => rawInt i).toArray } = h1 at hS1 hT1 hz1 hk1 ⊢
  refine wpAny_bind (uU (s := { s with drawn := d, heap := h1 }) hS1 hf (wpAny_bind (wpAny_newObj_type ?_)))
  have hI : dw (h1.push { cls := .type "set_iterator", data := .fields #[.ref s.heap.objs.size, .int (0 : Nat) 0, .ref S, .int (es.size : Nat) 0, .int (ep : Nat) 0] }) h1.objs.size (.ref s.heap.objs.size) 0 S es.size ep := Heap.get?_push_size _ rfl
  refine wpAny_pure ⟨_, rfl, "set_iterator", _, ⟨_, hI, rfl⟩, bY.lookup, ?_⟩
  have hz2 : (h1.push { cls := .type "set_iterator", data := .fields #[.ref s.heap.objs.size, .int (0 : Nat) 0, .ref S, .int (es.size : Nat) 0, .int (ep : Nat) 0] }).objs.size = h1.objs.size + 1 := Heap.size_push ..
  have hk2 : ∀ c o, h1.get? c = some o → (h1.push { cls := .type "set_iterator", data := .fields #[.ref s.heap.objs.size, .int (0 : Nat) 0, .ref S, .int (es.size : Nat) 0, .int (ep : Nat) 0] }).get? c = some o := fun c o e => Heap.get?_push_of_some _ e
  show Q (.ref h1.objs.size) { s with drawn := d, heap := h1.push { cls := .type "set_iterator", data := .fields #[.ref s.heap.objs.size, .int (0 : Nat) 0, .ref S, .int (es.size : Nat) 0, .int (ep : Nat) 0] } }
  generalize h1.push { cls := .type "set_iterator", data := .fields #[.ref s.heap.objs.size, .int (0 : Nat) 0, .ref S, .int (es.size : Nat) 0, .int (ep : Nat) 0] } = h2 at hI hz2 hk2 ⊢
  have n1 : S ≠ h1.objs.size := by rw [hz1]; exact Nat.ne_of_lt (Nat.lt_succ_of_lt lt)
  have n2 : s.heap.objs.size ≠ h1.objs.size := by rw [hz1]; exact Nat.ne_of_lt (Nat.lt_succ_self _)
  have hmem : ∀ i d : Nat, ds[i]? = some d → ∃ x : Value, (es[d]?).map (fun (e : Int × Value) => e.2) = some x ∧ (ds.map fun d => (es.toList.map (·.2)).getD d .none)[i]? = some x := by
   intro i d hi
   have : d < es.size := by have := hp.mem_iff.mp (List.mem_of_getElem? hi); simpa using this
   refine ⟨es[d].2, by simp [this], ?_⟩
   rw [List.getElem?_map, hi]
   simp [this]
  refine h { s with drawn := d, heap := h2 } h1.objs.size [h1.objs.size, S, s.heap.objs.size] (ds.map fun d => (es.toList.map (·.2)).getD d .none)
   (fun i s' => dw s'.heap h1.objs.size (.ref s.heap.objs.size) i S es.size ep ∧ eX s'.heap S es ep t ∧ TupAt s'.heap s.heap.objs.size ds)
   (fun c o e => hk2 c o (hk1 c o e)) rfl rfl rfl ?_ (arith hz2) (by rw [hz1]; exact Nat.le_succ _) (by show h1.objs.size < h2.objs.size; rw [hz2]; exact Nat.lt_succ_self _) (fun A' hh' => ?_) ⟨hI, hS1.get (hk2 S), hk2 _ _ hT1⟩ ?_
  ·have e : (List.range es.size).map (fun d => (es.toList.map (·.2)).getD d .none) = es.toList.map (·.2) := by
    refine List.ext_getElem (by simp) fun i h1 h2 => ?_
    simp at h1 h2
    simp [h2]
   exact (hp.map fun d => (es.toList.map fun (x : Int × Value) => x.2).getD d Value.none).trans (List.Perm.of_eq e)
  ·have hlen : (ds.map fun d => (es.toList.map (·.2)).getD d .none).length = ds.length := List.length_map _
   exact {
    sub := fun b hb => by simp at hb; simp [hb]
    grefl := fun _ => rfl
    gtrans := fun a b c e f => f.trans e
    frame := fun i s1 h' tk st _ hk => ⟨st.1.get fun o e => hk _ (by simp) o e, st.2.1.get fun o e => hk _ (by simp) o e, hk _ (by simp) _ st.2.2⟩
    item := fun i s1 Q1 E1 hi st hQ1 => by
     rw [hlen] at hi
     obtain ⟨x, e1, e2⟩ := hmem i ds[i] (List.getElem?_eq_getElem hi)
     refine wF st.1 st.2.1 st.2.2 hf (List.getElem?_eq_getElem hi) e1 n1 fun h' i' b' => ?_
     exact hQ1 x { s1 with heap := h' } e2 ⟨i', st.2.1.get fun o e => b'.extBut _ o n1 e, b'.extBut _ _ n2 st.2.2⟩ ⟨fun b o hb e => b'.extBut b o (fun z => hb (by simp [z])) e, rfl, rfl, rfl, Nat.le_refl _⟩
    done := fun s1 Q1 E1 st hQ1 => by
     refine zY hh' st.1 st.2.1 st.2.2 hf (by rw [hlen]; simp) fun h' k' => ?_
     exact hQ1 { s1 with heap := h' } ⟨fun b o hb e => k' b o (fun z => hb (by simp [z])) e, rfl, rfl, rfl, Nat.le_refl _⟩
    self := fun i s1 Q1 E1 st hQ1 => xH st.1 hQ1 }
  ·intro b hb
   show b < h2.objs.size ∧ _
   have l0 := Nat.lt_succ_of_lt lt
   simp only [List.mem_cons, List.not_mem_nil, or_false] at hb
   rw [hz2, hz1]
   rcases hb with rfl | rfl | rfl
   ·rw [hz1]; exact ⟨Nat.lt_succ_self _, .inr (Nat.le_succ _)⟩
   ·exact ⟨Nat.lt_succ_of_lt l0, .inl rfl⟩
   ·exact ⟨Nat.lt_succ_of_lt (Nat.lt_succ_self _), .inr (Nat.le_refl _)⟩
 ·rw [if_neg hc]
  obtain ⟨vs, sl, sl0, hp, hn⟩ := Jv (prog := prog) (w := w) (S := S) (ep := ep) hf ht (by
   cases hb : bt w with
   | true => exact .inl rfl
   | false => rw [hb] at hc; exact .inr (by simpa using hc))
  refine wpAny_bind (wpAny_pure (wpAny_bind (uU hS hf (wpAny_bind (wpAny_newObj_type ?_)))))
  have hI : dw (s.heap.push { cls := .type "set_iterator", data := .fields #[.int (0 : Nat) 0, .int (0 : Nat) 0, .ref S, .int (es.size : Nat) 0, .int (ep : Nat) 0] }) s.heap.objs.size (.int (sl 0) 0) 0 S es.size ep := by rw [sl0]; exact Heap.get?_push_size _ rfl
  refine wpAny_pure ⟨_, rfl, "set_iterator", _, ⟨_, hI, rfl⟩, bY.lookup, ?_⟩
  have hz2 : (s.heap.push { cls := .type "set_iterator", data := .fields #[.int (0 : Nat) 0, .int (0 : Nat) 0, .ref S, .int (es.size : Nat) 0, .int (ep : Nat) 0] }).objs.size = s.heap.objs.size + 1 := Heap.size_push ..
  have hk2 : ∀ c o, s.heap.get? c = some o → (s.heap.push { cls := .type "set_iterator", data := .fields #[.int (0 : Nat) 0, .int (0 : Nat) 0, .ref S, .int (es.size : Nat) 0, .int (ep : Nat) 0] }).get? c = some o := fun c o e => Heap.get?_push_of_some _ e
  show Q (.ref s.heap.objs.size) { s with heap := s.heap.push { cls := .type "set_iterator", data := .fields #[.int (0 : Nat) 0, .int (0 : Nat) 0, .ref S, .int (es.size : Nat) 0, .int (ep : Nat) 0] } }
  generalize s.heap.push { cls := .type "set_iterator", data := .fields #[.int (0 : Nat) 0, .int (0 : Nat) 0, .ref S, .int (es.size : Nat) 0, .int (ep : Nat) 0] } = h2 at hI hz2 hk2 ⊢
  have n1 : S ≠ s.heap.objs.size := Nat.ne_of_lt lt
  refine h { s with heap := h2 } s.heap.objs.size [s.heap.objs.size, S] vs (fun i s' => dw s'.heap s.heap.objs.size (.int (sl i) 0) i S es.size ep ∧ eX s'.heap S es ep t)
   (fun c o e => hk2 c o e) rfl rfl rfl hp (arith hz2) (Nat.le_refl _) (by show s.heap.objs.size < h2.objs.size; rw [hz2]; exact Nat.lt_succ_self _) (fun A' hh' => ?_) ⟨hI, hS.get (hk2 S)⟩ ?_
  ·exact {
    sub := fun b hb => by simp at hb; simp [hb]
    grefl := fun _ => rfl
    gtrans := fun a b c e f => f.trans e
    frame := fun i s1 h' tk st _ hk => ⟨st.1.get fun o e => hk _ (by simp) o e, st.2.get fun o e => hk _ (by simp) o e⟩
    item := fun i s1 Q1 E1 hi st hQ1 => by
     have hv : vs[i]? = some vs[i] := List.getElem?_eq_getElem hi
     refine next_item (n := 0) st.1 st.2 hf (v := vs[i]) (sl := sl (i + 1)) (fun s2 A2 E2 Q2 st2 hQ2 => hn i s2 A2 E2 Q2 (Nat.le_of_lt hi) st2 (by rw [hv]; exact hQ2)) n1 fun h' i' b' => ?_
     exact hQ1 vs[i] { s1 with heap := h' } hv ⟨i', st.2.get fun o e => b'.extBut _ o n1 e⟩ ⟨fun b o hb e => b'.extBut b o (fun z => hb (by simp [z])) e, rfl, rfl, rfl, Nat.le_refl _⟩
    done := fun s1 Q1 E1 st hQ1 => by
     have hv : vs[vs.length]? = none := by simp
     refine next_end hh' st.1 st.2 hf (fun s2 A2 E2 Q2 st2 hQ2 => hn vs.length s2 A2 E2 Q2 (Nat.le_refl _) st2 (by rw [hv]; exact hQ2)) fun h' k' => ?_
     exact hQ1 { s1 with heap := h' } ⟨fun b o hb e => k' b o (fun z => hb (by simp [z])) e, rfl, rfl, rfl, Nat.le_refl _⟩
    self := fun i s1 Q1 E1 st hQ1 => xH st.1 hQ1 }
  ·intro b hb
   show b < h2.objs.size ∧ _
   rw [hz2]
   simp only [List.mem_cons, List.not_mem_nil, or_false] at hb
   rcases hb with rfl | rfl
   ·exact ⟨Nat.lt_succ_self _, .inr (Nat.le_refl _)⟩
   ·exact ⟨Nat.lt_succ_of_lt lt, .inl rfl⟩
end
end SRT
namespace SRT
open PySem PyProof.Rows
theorem qy {vs xs : List Value} (hp : xs.Perm vs) : ∀ {ns : List Int}, IntsAre vs ns → ∃ ns', IntsAre xs ns' ∧ ns'.Perm ns := by
 induction hp with
 | nil => intro ns h; exact ⟨ns, h, List.Perm.refl _⟩
 | cons x _ ih =>
  intro ns h
  cases h with
  | cons n t h =>
   obtain ⟨ns', h1, h2⟩ := ih h
   exact ⟨n :: ns', .cons n t h1, h2.cons n⟩
 | swap x y l =>
  intro ns h
  cases h with
  | cons n t h =>
   cases h with
   | cons m u h => exact ⟨m :: n :: _, .cons m u (.cons n t h), List.Perm.swap _ _ _⟩
 | trans _ _ ih1 ih2 =>
  intro ns h
  obtain ⟨n1, a1, b1⟩ := ih2 h
  obtain ⟨n2, a2, b2⟩ := ih1 a1
  exact ⟨n2, a2, b2.trans b1⟩
theorem jT {α : Type} [DecidableEq α] : ∀ {l ks : List α}, l.Nodup → (∀ x ∈ l, x ∈ ks) → ks.length = l.length → ks.Perm l
 | [], ks, _, _, h => by rw [List.length_eq_zero_iff.mp h]
 | x :: l, ks, hn, hs, hl => by
  obtain ⟨h1, h2⟩ := List.nodup_cons.mp hn
  have hx : x ∈ ks := hs x (List.mem_cons_self ..)
  refine (List.perm_cons_erase hx).trans (List.Perm.cons _ (jT h2 (fun y hy => ?_) ?_))
  ·have : y ≠ x := fun e => h1 (e ▸ hy)
   exact (List.mem_erase_of_ne this).mpr (hs y (List.mem_cons_of_mem _ hy))
  ·rw [List.length_erase_of_mem hx, hl]; rfl
theorem jD (val : Nat → Int) : ∀ i, (firstMet val i).Nodup
 | 0 => List.nodup_nil
 | i + 1 => by
  rw [firstMet_succ]
  unfold step_dedup
  have ih := jD val i
  split
  ·exact ih
  ·rename_i h
   rw [List.nodup_append]
   refine ⟨ih, by simp, fun a ha b hb e => ?_⟩
   simp only [List.mem_singleton] at hb
   exact h (List.any_eq_true.mpr ⟨a, ha, by simp [e, hb]⟩)
def ded (ns : List Int) : List Int := firstMet (fun i => ns.getD i 0) ns.length
theorem zZ (ns : List Int) : (ded ns).Nodup := jD _ _
theorem yC (ns : List Int) : (ded ns).length ≤ ns.length := firstMet_length_le _ _
theorem Kl {ns : List Int} {k : Int} : k ∈ ded ns ↔ k ∈ ns := by
 have e := firstMet_any (fun i => ns.getD i 0) ns.length k
 have hr : (List.range ns.length).map (fun i => ns.getD i 0) = ns := by
  refine List.ext_getElem (by simp) fun i h1 h2 => ?_
  simp at h1 h2
  simp [h2]
 rw [hr] at e
 have a1 : ∀ l : List Int, l.any (· == k) = true ↔ k ∈ l := fun l => by simp
 rw [← a1, ← a1]
 unfold ded
 rw [e]
section
variable {prog : Program} {w : World} {A : Around} {E : Value → Shared → Prop} {s : Shared} {S : Addr} {es : Array (Int × Value)} {ep : Nat} {t : SetTable}
theorem oM : ∀ {l : List (Int × Value)}, ElemsOf (intKind prog w) l → ∃ ks : List Int, IntsAre (l.map (·.2)) ks ∧ ∀ k, k ∈ ks ↔ ∃ e ∈ l, (intKind prog w).is k e.2 = true
 | [], _ => ⟨[], .nil, fun k => by simp⟩
 | (h, v) :: l, he => by
  obtain ⟨⟨k, hk, _⟩, _⟩ := he.head
  obtain ⟨tk, e⟩ := Value.isInt_shape hk
  dsimp only at e hk
  subst e
  obtain ⟨ks, h1, h2⟩ := oM he.tail
  refine ⟨k :: ks, .cons k tk h1, fun j => ?_⟩
  rw [List.mem_cons, h2]
  constructor
  ·rintro (rfl | ⟨e, a, b⟩)
   ·exact ⟨_, List.mem_cons_self .., hk⟩
   ·exact ⟨e, List.mem_cons_of_mem _ a, b⟩
  ·rintro ⟨e, a, b⟩
   rcases List.mem_cons.mp a with rfl | a
   ·exact .inl ((intKind prog w).inj _ _ _ b hk)
   ·exact .inr ⟨e, a, b⟩
theorem Ez {vs : List Value} {acc : Array Value} (h : ItemsOf (fun i v => vs[i]? = some v) acc vs.length) : acc.toList = vs := by
 refine List.ext_getElem (by simpa using h.1) fun i h1 h2 => ?_
 have : vs[i]? = some acc[i] := h.2 i acc[i] (by simp)
 rw [List.getElem?_eq_getElem h2] at this
 simpa using this.symm
theorem uY {Q : List Value → Shared → Prop} (hh : A.handled = none) (hS : eX s.heap S es ep t) (hf : t.fits es.size = true) (ht : TOk (!bt w) t) (hz : es.size ≤ sizeLine)
  (hQ : ∀ (s' : Shared) (vs : List Value), vs.Perm (es.toList.map (·.2)) → (∀ c o, s.heap.get? c = some o → s'.heap.get? c = some o) → s'.gens = s.gens → s'.os = s.os → s.heap.objs.size ≤ s'.heap.objs.size → Q vs s') :
  wpAny (model prog w) A (collect (.ref S)) Q E s := by
 obtain ⟨o, ho, hx, hd⟩ := id hS
 have hty : s.TypeIs (.ref S) "set" := ⟨o, ho, hx.1⟩
 have lt : S < s.heap.objs.size := Heap.lt_size ho
 unfold collect
 refine wpAny_bind (wpAny_runValue (codeAny_builtin F.entry_proto_collect ?_))
 rw [Around.under_plainId F.plain_proto_collect _]
 show wpAny _ A.in1 (newList [] >>= fun l => again (.builtin "list.__iadd__" ⟨[l, .ref S], []⟩)) _ _ s
 refine wpAny_bind (wpAny_newObj_type ?_)
 refine wpAny_pure ⟨plainId_quiet F.plain_list_iadd _, codeAny_builtin F.entry_list_iadd ?_⟩
 rw [Around.under_plainId F.plain_list_iadd _]
 have hS1 : eX (s.heap.push { cls := .type "list", data := .seq ([] : List Value).toArray }) S es ep t := hS.get fun o e => Heap.get?_push_of_some _ e
 have hL1 : (s.heap.push { cls := .type "list", data := .seq ([] : List Value).toArray }).get? s.heap.objs.size = some { cls := .type "list", data := .seq ([] : List Value).toArray } := Heap.get?_push_size _ rfl
 have hk1 : ∀ c o, s.heap.get? c = some o → (s.heap.push { cls := .type "list", data := .seq ([] : List Value).toArray }).get? c = some o := fun c o e => Heap.get?_push_of_some _ e
 have hty1 : Shared.TypeIs { s with heap := s.heap.push { cls := .type "list", data := .seq ([] : List Value).toArray } } (.ref S) "set" := ⟨o, hk1 _ _ ho, hx.1⟩
 generalize s.heap.push { cls := .type "list", data := .seq ([] : List Value).toArray } = h1 at hS1 hL1 hk1 hty1 ⊢
 have ne1 : s.heap.objs.size ≠ S := Nat.ne_of_gt lt
 show wpAny _ A.in1 (Builtin.List.listExtendWith (.ref s.heap.objs.size) (.ref S) (.ref s.heap.objs.size)) _ _ _
 unfold Builtin.List.listExtendWith
 refine wpAny_bind (wpAny_typeOf hty1 ?_)
 have q1 : Builtin.List.listSameRef (.ref s.heap.objs.size) (.ref S) = false := by simp [Builtin.List.listSameRef, ne1]
 rw [if_neg (by rw [q1]; decide)]
 refine wpAny_bind (Ca (s := { s with heap := h1 }) hh hS1 hf ht hz fun s2 I fp vs St hk2 hg2 ho2 ht2 hp hI hle hlt W st0 hfp => ?_)
 have hty2 : s2.TypeIs (.ref S) "set" := ⟨o, hk2 _ _ (hk1 _ _ ho), hx.1⟩
 refine wpAny_bind (wpAny_holding ?_)
 unfold Builtin.List.listLengthHint
 refine wpAny_bind (wpAny_specialOf hty2 F.slot_set_len.lookup ?_)
 (generalize hid : ("set.__len__" : String) = id0; (fail_if_success (clear hid id0)); wp_delta; rw [show splitId id0 = some ("set", "__len__") from by subst hid; decide +kernel]; subst hid)
 refine wpAny_bind (wpAny_isInstance (b := true) hty2 sub_set_self ?_)
 refine wpAny_ite_false rfl (wpAny_ite_true (by decide +kernel) (wpAny_bind (wpAny_typeOf hty2 (wpAny_pure ?_))))
 rw [if_pos (by decide)]
 have hSf : s.heap.objs.size ∉ fp := fun z => by
  have l1 : s.heap.objs.size < h1.objs.size := Heap.lt_size hL1
  rcases (hfp _ z).2 with e | e
  ·exact ne1 e
  ·exact Nat.lt_irrefl _ (Nat.lt_of_lt_of_le l1 e)
 have hL2 := hk2 _ _ hL1
 refine wpAny_bind (wpAny_rule (wpAny_bind ?_))
 show wpAny _ A.in1 (updateSeq s.heap.objs.size (·.push .none) >>= fun _ => updateSeq s.heap.objs.size (·.pop)) _ _ _
 refine wpAny_bind (wpAny_updateSeq hL2 rfl ?_)
 have hL3 := Heap.get?_update_self (Obj.mapSeq (·.push Value.none)) hL2 rfl
 refine wpAny_updateSeq hL3 rfl ?_
 have hL4 := Heap.get?_update_self (Obj.mapSeq (·.pop)) hL3 rfl
 have oth : ∀ b o, b ≠ s.heap.objs.size → s2.heap.get? b = some o → ((s2.heap.update s.heap.objs.size (Obj.mapSeq (·.push Value.none))).update s.heap.objs.size (Obj.mapSeq (·.pop))).get? b = some o :=
  fun b o hb e => (Heap.get?_update_other _ _ (Ne.symm hb)).trans ((Heap.get?_update_other _ _ (Ne.symm hb)).trans e)
 have W1 := W A.in1 (by simpa using hh)
 refine wpAny_pure ⟨plainId_quiet F.plain_extend_loop _, codeAny_extend_loopS W1 (by rw [hp.length_eq, List.length_map, Array.length_toList]; exact hz) _ hSf _ vs.length 0 _ _ _ rfl (Nat.zero_le _)
  (W1.frame 0 s2 _ s2.toks st0 (Nat.le_refl _) fun b hb o e => oth b o (fun z => hSf (z ▸ hb)) e) hL4 (ItemsOf.nil _) fun s' acc' c' hm hS' hacc => ?_⟩
 show wpAny _ A (load s.heap.objs.size >>= _) _ _ s'
 refine wpAny_bind (wpAny_load hS' (wpAny_pure ?_))
 rw [Ez hacc]
 have l2 : s.heap.objs.size < s'.heap.objs.size := Heap.lt_size hS'
 refine hQ s' vs hp (fun c o e => ?_) (hm.gens.trans hg2) (hm.os.trans ho2) (Nat.le_of_lt l2)
 have lc : c < s.heap.objs.size := Heap.lt_size e
 have nI : c ≠ I := fun z => by
  have l3 : s.heap.objs.size < h1.objs.size := Heap.lt_size hL1
  have l4 : h1.objs.size ≤ I := hle
  rw [z] at lc
  exact Nat.lt_irrefl _ (Nat.lt_of_lt_of_le (Nat.lt_trans lc l3) l4)
 exact hm.heap c o (by simp only [List.mem_cons, List.not_mem_nil, or_false, not_or]; exact ⟨Nat.ne_of_lt lc, nI⟩) (oth c o (Nat.ne_of_lt lc) (hk2 _ _ (hk1 _ _ e)))
theorem wu {a : Addr} {vs : List Value} {ns : List Int} {n : Nat} {P : Fin → Shared → Prop} (ho : s.heap.get? a = some (seqObj "list" vs.toArray n)) (hI : IntsAre vs ns) (hlen : vs.length ≤ 1000000)
  (h : ∀ (xs : Array Value) (ns' : List Int), IntsAre xs.toList ns' → ns'.Perm ns → (vs.length < 64 → ns'.Pairwise (· ≤ ·)) → P (.done (.ret .none)) { s with heap := sortedHeap s.heap a vs xs }) :
  wpAny (model prog w) A (Builtin.«list.sort» ⟨[.ref a], []⟩) P E s := by
 by_cases hc : vs.length < 64
 ·exact list_sort_tree ho hI hc fun out ns' a1 a2 a3 => h out ns' a1 a2 fun _ => a3
 ·refine Eo ho hI hlen fun xs hp => ?_
  obtain ⟨ns', a1, a2⟩ := qy hp hI
  exact h xs ns' a1 a2 fun z => absurd z hc
theorem BW {l : List Int} {Q : Value → Shared → Prop} (hh : A.handled = none) (hS : SetT (intKind prog w) (!bt w) s.heap S (fun k' => l.any (· == k')) l.length) (hnd : l.Nodup)
  (h : ∀ (s' : Shared) (L : Addr) (xs : List Value) (ns' : List Int) (k : Nat), s'.heap.get? L = some (seqObj "list" xs.toArray k) → IntsAre xs ns' → ns'.Perm l → (l.length < 64 → ns'.Pairwise (· ≤ ·)) →
   (∀ c o, s.heap.get? c = some o → s'.heap.get? c = some o) → s'.gens = s.gens → s'.os = s.os → s.heap.objs.size ≤ L → Q (.ref L) s') : wpAny (model prog w) A (call (.builtin "sorted") [.ref S]) Q E s := by
 obtain ⟨o, es, ep, t, ho, hex, hd, ⟨hel, hmem, hb⟩, hf, hn, ht⟩ := hS
 have hz : es.size ≤ sizeLine := fits_of_scanBound hb
 obtain ⟨ks, hks, hkm⟩ := oM hel
 have hkp : ks.Perm l := jT hnd (fun x hx => (hkm x).mpr ((hmem x).mp (by simpa using hx))) (by rw [← hn, ← Array.length_toList, ← IntsAre.length hks, List.length_map])
 refine Calls.call_function_entry kind_sorted plain_sorted entry_sorted (args_sorted1 (.ref S)) ?_
 unfold Builtin.«sorted»
 refine wpAny_bind (m := checkCount "sorted" 1 1 _) (wpAny_pure (wpAny_bind (uY (by simpa using hh) ⟨o, ho, hex, hd⟩ hf ht hz fun s1 vs hp hk1 hg1 ho1 hl1 => wpAny_bind (wpAny_newList ?_ ?_))))
 ·obtain ⟨ms, hms, hmp⟩ := qy hp hks
  have hvl : vs.length = l.length := by rw [IntsAre.length hms, hmp.length_eq, hkp.length_eq]
  have hL : (s1.heap.push (seqObj "list" vs.toArray 0)).get? s1.heap.objs.size = some (seqObj "list" vs.toArray 0) := Heap.get?_push_size _ rfl
  show wpAny (model prog w) A.in1 _ _ E { s1 with heap := s1.heap.push (seqObj "list" vs.toArray 0) }
  refine wpAny_bind (wpAny_holding (wpAny_call_entry slot_list_sort ⟨_, hL, rfl⟩ entry_list_sort (wu hL hms ?_ fun xs ns' a1 a2 a3 => ⟨_, rfl, wpAny_pure ⟨_, rfl, ?_⟩⟩) (args_list_sort _)))
  ·rw [hvl, ← hn]
   exact Nat.le_trans (Nat.le_of_lt hb) (by decide)
  ·obtain ⟨e, he⟩ := sortedHeap_at (out := xs) hL
   refine h _ _ xs.toList ns' e (by simpa using he) a1 (a2.trans (hmp.trans hkp)) (fun z => a3 (by rw [hvl]; exact z)) (fun c o x => ?_) hg1 ho1 hl1
   have lc : c < s1.heap.objs.size := Heap.lt_size (hk1 c o x)
   show (sortedHeap _ _ _ _).get? c = some o
   rw [sortedHeap_old (Nat.ne_of_lt lc) (by rw [size_push']; exact Nat.lt_succ_of_lt lc)]
   exact Heap.get?_push_of_some _ (hk1 c o x)
 ·rw [hp.length_eq, List.length_map, Array.length_toList]; exact hz
end
end SRT
set_option maxHeartbeats 4000000
namespace L2
open PySem PySem.Spec PyProof.Rows
theorem nM : ∀ {xs : List Int} {us : List Value}, Vals (xs.map V.int) us → IntsAre us xs
 | [], _, h => by cases h; exact .nil
 | x :: xs, _, h => by
  cases h with
  | cons r h =>
   obtain ⟨t, rfl⟩ := r
   exact .cons x t (nM h)
theorem qx : ∀ {us : List Value} {xs : List Int}, IntsAre us xs → Vals (xs.map V.int) us
 | _, _, .nil => .nil
 | _, _, .cons n t h => .cons ⟨t, rfl⟩ (qx h)
def tSS (K : PySem.W.Frag) (ta : TA) : TE := fun σ H Q => ta σ H fun vs H1 => ∃ (l : Addr) (xs : List Int), vs = [.ref l] ∧ SqL K H1 l (xs.map V.int) ∧ xs.length < 4000 ∧
 ∀ (p : Addr) (ys : List Int), H1 p = none → ys.Perm (SRT.ded xs) → ((SRT.ded xs).length < 64 → ys.Pairwise (· ≤ ·)) → Q (.ref p) (upd H1 p (.lst (ys.map V.int)))
section
variable {X : Cx} {pins : List (Addr × Obj)} {s : Shared} {σ : St} {H : Hp}
theorem Inv.drawn (I : Inv X pins σ H s) (d : Drawn) : Inv X pins σ H { s with drawn := d } :=
 I.step (g' := s.gens) (d' := d) (t' := s.toks) (h' := s.heap) (ch := []) (fun _ z => nomatch z) (fun b o _ _ _ e _ => e) (fun b o _ _ _ e _ => ⟨o.slots, e⟩) (fun _ _ _ _ n => n) (fun b o _ e => ⟨o, e⟩) (fun _ _ e => e) (fun _ _ _ e => e) (fun b ps e => ⟨#[], by rw [e]; simp⟩) (fun _ h => h) I.hok I.bare
theorem Jc {a : Expr} {ta : TA} {p p2 pos pos2 : Pos} (hc : X.calm = true) (hgl : Gl X "sorted") (hml : X.mg "sorted" = none) (hg : Gl X "set") (hm : X.mg "set" = none) (ha : PA X [a] ta)
  (hs : starEach [a] X.env = [(false, eval a X.env)] := by rfl)
  (he : starEach [.Call (.Name "set" p2) [a] [] pos2] X.env = [(false, eval (.Call (.Name "set" p2) [a] [] pos2) X.env)] := by rfl) :
  PE X (.Call (.Name "sorted" p) [.Call (.Name "set" p2) [a] [] pos2] [] pos) (tSS X.K ta) := by
 intro pins s σ H Q I h
 refine wpAny_Call_Name_kw (iC I hgl hml PyProof.Rows.boot_sorted ?_ (by decide) (by decide))
 refine PyProof.Rows.callWith_builtin1 ?_ he rfl
 rw [he]
 show wpAny _ _ (spliced ((false, eval (.Call (.Name "set" p2) [a] [] pos2) X.env) :: [])) _ _ s
 refine Calls.spliced_cons ?_
 refine Call_ (iC I hg hm PyProof.Rows.boot_set (PyProof.Rows.callWith_type1 (thA (ha pos2 pins s σ H _ I h) fun us s1 vs H1 I1 r1 q1 => ?_) hs rfl))
 obtain ⟨l, xs, rfl, sq, hn, q⟩ := q1
 cases r1 with
 | cons r rr =>
  cases rr
  cases r
  obtain ⟨its, rv, pl, hz⟩ := I1.list sq
  have hI := nM rv
  have hlen : its.length = xs.length := IntsAre.length hI
  refine SRT.Ac (I1.ok.hd hc) pl.isList (by simpa using hI) (by simp [hlen, scanBound]; omega) fun h2 t2 hS hk => Calls.spliced_nil ?_
  have eq : firstMet (fun i => xs.getD i 0) its.toArray.size = SRT.ded xs := by unfold SRT.ded; rw [List.size_toArray, hlen]
  rw [eq] at hS
  have hk2 : ∀ c o, s1.heap.get? c = some o → h2.get? c = some o := fun c o e => hk c o (Heap.lt_size e) e
  refine SRT.BW (s := { s1 with heap := h2, toks := t2 }) (I1.ok.hd hc) hS (SRT.zZ xs) fun s3 L ys ns k gL iL pL oL k3 g3 o3 l3 => ?_
  have le : s1.heap.objs.size ≤ L := by
   obtain ⟨o, _, _, _, e, _⟩ := hS
   exact Nat.le_trans (Nat.le_of_lt (Heap.lt_size e)) l3
  have hf : H1 L = none := I1.hok.fresh le
  obtain ⟨h3, g3', d3, t3, o3'⟩ := s3
  cases g3
  cases o3
  have hl : ns.length ≤ sizeLine := by
   rw [pL.length_eq]
   exact Nat.le_trans (SRT.yC xs) (Nat.le_trans (Nat.le_of_lt hn) (by decide))
  refine ⟨.ref L, _, ((I1.drawn d3).laid (t' := t3) (h' := h3) (fun c o e => k3 c o (hk2 c o e)) le (show cu X.prog X.w _ h3 _ (.lst (ns.map V.int)) from ⟨by simpa using hl, ys, k, qx iL, gL⟩)), rfl, q L ns hf pL oL⟩
theorem Ie {a : Expr} {ta : TA} {p p2 pos pos2 : Pos} (hc : X.calm = true) (hgl : Gl X "sorted") (hml : X.mg "sorted" = none) (hg : Gl X "set") (hm : X.mg "set" = none) (ha : QA X [a] ta)
  (hs : starEach [a] X.env = [(false, eval a X.env)] := by rfl)
  (he : starEach [.Call (.Name "set" p2) [a] [] pos2] X.env = [(false, eval (.Call (.Name "set" p2) [a] [] pos2) X.env)] := by rfl) :
  QE X (.Call (.Name "sorted" p) [.Call (.Name "set" p2) [a] [] pos2] [] pos) (tSS X.K ta) := ⟨Jc hc hgl hml hg hm ha.h hs he⟩
end
theorem jH {ok : Addr → Prop} {H : Hp} {x : V} {it : It1} (t : aR ok H x (itD it)) : ∃ p, x = .ref p ∧ ok p ∧ gK H p it := by
 cases it with
 | one a =>
  cases t with
  | tup o e z ts => cases ts with | cons t1 ts => cases t1; cases ts with | cons t2 ts => cases t2; cases ts; exact ⟨_, rfl, o, ⟨e⟩⟩
 | rng a b =>
  cases t with
  | tup o e z ts => cases ts with | cons t1 ts => cases t1; cases ts with | cons t2 ts => cases t2; cases ts with | cons t3 ts => cases t3; cases ts; exact ⟨_, rfl, o, ⟨e⟩⟩
 | bits m v =>
  cases t with
  | tup o e z ts => cases ts with | cons t1 ts => cases t1; cases ts with | cons t2 ts => cases t2; cases ts with | cons t3 ts => cases t3; cases ts; exact ⟨_, rfl, o, ⟨e⟩⟩
theorem iH {ok : Addr → Prop} {H : Hp} {x : V} {its : List It1} (t : aR ok H x (fP its)) : ∃ q us, x = .ref q ∧ ok q ∧ H q = some (.lst us) ∧ us.length ≤ 9000 ∧ aL ok H us (its.map itD) := by
 cases t with
 | lst o e z ts => exact ⟨_, _, rfl, o, e, z, ts⟩
theorem fJ {ok : Addr → Prop} {H : Hp} {x : V} {w s : Int} {css : List (List It1)} (t : aR ok H x (cJ w s css)) :
  ∃ p c vs, x = .ref p ∧ ok p ∧ H p = some (.tup [.int w, .int s, .ref c]) ∧ ok c ∧ H c = some (.lst vs) ∧ vs.length ≤ 9000 ∧ aL ok H vs (css.map fP) := by
 cases t with
 | tup o e z ts => cases ts with | cons t1 ts => cases t1; cases ts with | cons t2 ts => cases t2; cases ts with | cons t3 ts => cases ts; cases t3 with | lst o2 e2 z2 ts2 => exact ⟨_, _, _, rfl, o, e, o2, e2, z2, ts2⟩
theorem wX : ("from" : Str) ≠ "bits" := by decide +kernel
theorem JZ : ∀ {a b : It1}, itD a = itD b → a = b := by
 intro a b h
 cases a <;> cases b <;> simp only [itD, PyData.tuple.injEq, List.cons.injEq, PyData.str.injEq, PyData.int.injEq, and_true, true_and, reduceCtorEq, and_false] at h
 ·rw [h]
 ·rw [h.1, h.2]
 ·exact absurd h.1 wX
 ·exact absurd h.1.symm wX
 ·obtain ⟨h1, h2⟩ := h
  rw [Int.ofNat_inj.mp h1, Int.ofNat_inj.mp h2]
open Classical in
noncomputable def pickD (w n : Int) (d : PyData) : Bool := decide (∃ it, d = itD it ∧ bR w n it = true)
theorem uD (w n : Int) (it : It1) : pickD w n (itD it) = bR w n it := by
 unfold pickD
 cases h : bR w n it with
 | true => exact @decide_eq_true _ (_) ⟨it, rfl, h⟩
 | false => exact @decide_eq_false _ (_) fun ⟨it2, e, q⟩ => by rw [← JZ e, h] at q; cases q
theorem Gm (w n : Int) (its : List It1) : ((its.map itD).map (pickD w n)).any id = its.any (bR w n) := by
 rw [List.map_map, List.any_map]
 congr 1
 funext it
 exact uD w n it
def pH (w n : Int) : List (List It1) → Nat
 | [] => 0
 | its :: r => if its.any (bR w n) = true then 0 else pH w n r + 1
theorem uO {w n : Int} {its : List It1} : ∀ {css : List (List It1)} {i : Nat}, css[i]? = some its → (∀ (j : Nat) (cs : List It1), j < i → css[j]? = some cs → cs.any (bR w n) = false) → its.any (bR w n) = true → pH w n css = i
 | c :: css, 0, h, _, e => by
  simp only [List.getElem?_cons_zero, Option.some.injEq] at h
  subst h
  unfold pH
  rw [if_pos e]
 | c :: css, i + 1, h, hb, e => by
  unfold pH
  rw [if_neg (by rw [hb 0 c (by omega) rfl]; decide), uO (i := i) (by simpa using h) (fun j cs hj hc => hb (j + 1) cs (by omega) (by simpa using hc)) e]
theorem qw {w n : Int} : ∀ {css : List (List It1)}, (∀ (j : Nat) (cs : List It1), css[j]? = some cs → cs.any (bR w n) = false) → pH w n css = css.length
 | [], _ => rfl
 | c :: css, hb => by
  unfold pH
  rw [if_neg (by rw [hb 0 c rfl]; decide), qw fun j cs hc => hb (j + 1) cs (by simpa using hc)]
  rfl
def tO : Sp := fun vs H Q _ => ∃ (x : V) (n w s : Int) (ok : Addr → Prop) (css : List (List It1)), vs = [x, .int n] ∧ 1 ≤ w ∧ w ≤ 40 ∧ aR ok H x (cJ w s css) ∧ ∀ H', Same H H' → Q (.int (pH w n css : Nat)) H'
section
variable {prog : Program} {w : World} {A : Around} {R : Result → Shared → Prop} {s : Shared}
abbrev jF (elt tg iter tg2 iter2 : Expr) (scope : Scope) (pos : Pos) : Expr := .ListComp elt [⟨tg, iter, [], 0⟩, ⟨tg2, iter2, [], 0⟩] scope pos
theorem Bc (elt tg iter tg2 iter2 : Expr) (scope : Scope) (pos : Pos) (it acc : Value) (env : Env) :
  compTurn (jF elt tg iter tg2 iter2 scope pos) 0 it acc env = (standAt iter.pos >>= fun _ => pyNext it >>= fun r => match r with
   | none => pure (.done .next)
   | some v => letOwnedTupleGo tg it v >>= fun _ => assign tg env v >>= fun _ =>
    eval iter2 env >>= fun x => standAt iter2.pos >>= fun _ => foldedSetIterable iter2 env x >>= fun x => holding [x] (pyIter x) >>= fun it2 => runOwn (.compStart (jF elt tg iter tg2 iter2 scope pos) 1 it2 acc env) env >>= fun _ =>
     again (.compLoop (jF elt tg iter tg2 iter2 scope pos) 0 it acc env)) := by rfl
theorem Gy (elt tg iter tg2 iter2 : Expr) (scope : Scope) (pos : Pos) (it acc : Value) (env : Env) :
  compTurn (jF elt tg iter tg2 iter2 scope pos) 1 it acc env = (standAt iter2.pos >>= fun _ => pyNext it >>= fun r => match r with
   | none => pure (.done .next)
   | some v => letOwnedTupleGo tg2 it v >>= fun _ => assign tg2 env v >>= fun _ =>
    (eval elt env >>= fun x => call (.builtin "list.append") [acc, x] >>= fun _ => pure ()) >>= fun _ =>
     again (.compLoop (jF elt tg iter tg2 iter2 scope pos) 1 it acc env)) := by rfl
theorem Bw {elt tg iter tg2 iter2 : Expr} {scope : Scope} {pos : Pos} {it acc : Value} {env : Env}
  (h0 : codeAny (model prog w) A (.compLoop (jF elt tg iter tg2 iter2 scope pos) 1 it acc env) R s)
  (h : wpAny (model prog w) A (pyIter it) (fun it' s' => codeAny (model prog w) A (.compLoop (jF elt tg iter tg2 iter2 scope pos) 1 it' acc env) R s') (notedBy (model prog w) A env fun x s' => R (.error x) s') s) :
  codeAny (model prog w) A (.compStart (jF elt tg iter tg2 iter2 scope pos) 1 it acc env) R s := by
 refine codeAny_of_tree (show wpAny _ _ ((compStart (jF elt tg iter tg2 iter2 scope pos) 1 it acc env).onRaise (fun x => do noteFrame x env; standAt theWindowsPlace)) _ _ s from wpAny_notedAt ?_)
 unfold compStart
 show wpAny _ _ (ask >>= _) _ _ s
 refine wpAny_bind (wpAny_askSetting (wpAny_ite ?_))
 split
 ·exact wpAny_pure (And.intro rfl h0)
 ·refine wpAny_bind (wpAny_rule ?_)
  show wpAny _ _ (standAt iter2.pos >>= _) _ _ s
  exact wpAny_bind (wpAny_standAt (wpAny_bind (wpAny_mono h (fun it' s' h' => wpAny_pure (And.intro rfl h')) fun _ _ x => x)))
theorem Er {elt tg iter tg2 iter2 : Expr} {scope : Scope} {pos : Pos} {it acc : Value} {env : Env} (hs2 : ∀ x, foldedSetIterable iter2 env x = pure x) (J : Nat → Shared → Prop)
  (turn : ∀ n s, J n s → wpAny (model prog w) A (pyNext it) (fun r s1 => match r with
   | none => R (.ok .next) s1
   | some v => wpAny (model prog w) A (letOwnedTupleGo tg it v) (fun _ s1' => wpAny (model prog w) A (assign tg env v) (fun _ s2 =>
     wpAny (model prog w) A (eval iter2 env) (fun x s3 => wpAny (model prog w) A (pyIter x) (fun it2 s4 =>
      codeAny (model prog w) A (.compStart (jF elt tg iter tg2 iter2 scope pos) 1 it2 acc env) (fun r s5 => match r with | .ok _ => ∃ m, m < n ∧ J m s5 | .error _ => False) s4)
      (fun _ _ => False) s3) (fun _ _ => False) s2) (fun _ _ => False) s1') (fun _ _ => False) s1) (fun _ _ => False) s)
  (n : Nat) (h : J n s) : codeAny (model prog w) A (.compLoop (jF elt tg iter tg2 iter2 scope pos) 0 it acc env) R s := by
 refine codeAny_loop rfl J (fun n z hJ => ?_) n h
 show wpAny _ A ((compTurn (jF elt tg iter tg2 iter2 scope pos) 0 it acc env).onRaise (fun y => do noteFrame y env; theTreesLotGoes y)) _ _ z
 refine wpAny_noted ?_
 rw [Bc]
 refine wpAny_bind (wpAny_standAt (wpAny_bind (wpAny_mono (turn n z hJ) (fun r s1 h1 => ?_) fun _ _ q => q.elim)))
 cases r with
 | none => exact wpAny_pure h1
 | some v =>
  refine wpAny_bind (wpAny_mono h1 (fun _ s1' h1' => ?_) fun _ _ q => q.elim)
  refine wpAny_bind (wpAny_mono h1' (fun _ s2 h2 => wpAny_bind (wpAny_mono h2 (fun x s3 h3 => ?_) fun _ _ q => q.elim)) fun _ _ q => q.elim)
  refine wpAny_bind (wpAny_standAt (wpAny_bind (wpAny_of_eq (hs2 x) (wpAny_bind (wpAny_holding (wpAny_mono h3 (fun it2 s4 h4 => ?_) fun _ _ q => q.elim))))))
  refine wpAny_bind (wpAny_runOwn (codeAny_mono h4 fun r s5 h5 => ?_))
  cases r with
  | ok f => exact wpAny_pure ⟨rfl, h5⟩
  | error e => exact h5.elim
theorem JF {elt tg iter tg2 iter2 : Expr} {scope : Scope} {pos : Pos} {it acc : Value} {env : Env} (J : Nat → Shared → Prop)
  (turn : ∀ n s, J n s → wpAny (model prog w) A (pyNext it) (fun r s1 => match r with
   | none => R (.ok .next) s1
   | some v => wpAny (model prog w) A (letOwnedTupleGo tg2 it v) (fun _ s1' => wpAny (model prog w) A (assign tg2 env v) (fun _ s2 =>
     wpAny (model prog w) A (eval elt env) (fun x s4 => wpAny (model prog w) A (call (.builtin "list.append") [acc, x]) (fun _ s5 => ∃ m, m < n ∧ J m s5) (fun _ _ => False) s4) (fun _ _ => False) s2) (fun _ _ => False) s1') (fun _ _ => False) s1) (fun _ _ => False) s)
  (n : Nat) (h : J n s) : codeAny (model prog w) A (.compLoop (jF elt tg iter tg2 iter2 scope pos) 1 it acc env) R s := by
 refine codeAny_loop rfl J (fun n z hJ => ?_) n h
 show wpAny _ A ((compTurn (jF elt tg iter tg2 iter2 scope pos) 1 it acc env).onRaise (fun y => do noteFrame y env; theTreesLotGoes y)) _ _ z
 refine wpAny_noted ?_
 rw [Gy]
 refine wpAny_bind (wpAny_standAt (wpAny_bind (wpAny_mono (turn n z hJ) (fun r s1 h1 => ?_) fun _ _ q => q.elim)))
 cases r with
 | none => exact wpAny_pure h1
 | some v =>
  refine wpAny_bind (wpAny_mono h1 (fun _ s1' h1' => ?_) fun _ _ q => q.elim)
  refine wpAny_bind (wpAny_mono h1' (fun _ s2 h2 => wpAny_bind (wpAny_bind (wpAny_mono h2 (fun x s3 h3 => ?_) fun _ _ q => q.elim))) fun _ _ q => q.elim)
  exact wpAny_bind (wpAny_mono h3 (fun _ s5 h5 => wpAny_pure (wpAny_pure ⟨rfl, h5⟩)) fun _ _ q => q.elim)
end
end L2
set_option maxHeartbeats 8000000
namespace L2
open PySem PySem.Spec PyProof.Rows
def vB (mp : List (Option Nat)) (wi : TI) (g : TG) (wi2 : TI) (g2 : TG) (te : TE) : TE := fun σ H Q => wi σ H fun J H1 =>
 ∃ W : Nat → Nat → List V → St → Hp → Prop, (∃ m, W 0 m [] (fZ mp σ) H1) ∧ ∀ i m acc τ H2, W i m acc τ H2 →
  (J.stop i H2 ∧ ∀ d, H2 d = none → Q (.ref d) (upd H2 d (.lst acc))) ∨
  (J.go i H2 ∧ ∃ N : List V → St → Hp → Prop, (∀ acc' τ' H', N acc' τ' H' → ∃ m', m' < m ∧ W (i + 1) m' acc' τ' H') ∧ ∀ x H3, J.yld i H2 x H3 → g x τ H3 fun τ1 H4 => wi2 τ1 H4 fun J2 H5 =>
   ∃ W2 : Nat → Nat → List V → St → Hp → Prop, (∃ m2, W2 0 m2 acc τ1 H5) ∧ ∀ j m2 acc2 τ2 H6, W2 j m2 acc2 τ2 H6 →
    (J2.stop j H6 ∧ N acc2 τ2 H6) ∨
    (J2.go j H6 ∧ acc2.length < sizeLine ∧ ∃ N2 : List V → St → Hp → Prop, (∀ acc' τ' H', N2 acc' τ' H' → ∃ m', m' < m2 ∧ W2 (j + 1) m' acc' τ' H') ∧ ∀ x2 H7, J2.yld j H6 x2 H7 → g2 x2 τ2 H7 fun τ3 H8 => te τ3 H8 fun v H9 => N2 (acc2 ++ [v]) τ3 H9))
section
variable {X : Cx} {NX N : List Str} {kX : List (Str × NameKind)} {mp : List (Option Nat)} {scope : Scope}
theorem Dp {tg iter tg2 iter2 elt : Expr} {pos : Pos} {wi wi2 : TI} {g g2 : TG} {te : TE} (N : List Str) (mp : List (Option Nat)) (hNX : X.N = NX) (hkX : X.env.scope.names = kX) (S : mY NX kX N mp scope) (hc : X.calm = true)
  (hi : PI X tg iter wi) (hg : ∀ cl C s H fp, PG (aU X N scope cl C s H fp) tg g) (hi2 : ∀ cl C s H fp, PI (aU X N scope cl C s H fp) tg2 iter2 wi2) (hg2 : ∀ cl C s H fp, PG (aU X N scope cl C s H fp) tg2 g2) (he : ∀ cl C s H fp, PE (aU X N scope cl C s H fp) elt te)
  (hs : ∀ x, foldedSetIterable iter X.env x = pure x := by intro _; rfl) (hs2 : ∀ env x, foldedSetIterable iter2 env x = pure x := by intro _ _; rfl) : PE X (jF elt tg iter tg2 iter2 scope pos) (vB mp wi g wi2 g2 te) := by
 intro pins s σ H Q I h
 obtain ⟨cl, hcl, hsub, hhas⟩ := sY (env := X.env) (scope := scope) fun y hy hf => I.ok.has y.1 (by
  rcases S.fre y hy hf with q | q
  ·exact .inl (show X.env.scope.names.lookup y.1 = _ by rw [hkX]; exact q)
  ·exact .inr (show X.env.scope.names.lookup y.1 = _ by rw [hkX]; exact q))
 rw [eval_ListComp]
 refine wpAny_comprehension_free (use := none) rfl hs hcl S.kind S.locs ?_
 refine thn (hi pins s σ H _ I h) fun v s1 h1 => thn h1 fun itv s2 h2 => ?_
 obtain ⟨it, fp, tn, J, H2, e, I2, T, st2, f2, W, ⟨m0, w0⟩, turn⟩ := h2
 subst e
 refine wpAny_newObj_type (wpAny_newFunctionEnv S.nocell (by intro y hy; simp at hy) (fun h3 hns hsb => ?_) S.kind)
 dsimp only at hns hsb ⊢
 have hold : ∀ b ∈ fp, b < s2.heap.objs.size := fun b hb => by
  obtain ⟨o, q, _⟩ := T.obj _ _ st2 b hb
  exact Heap.lt_size q
 generalize hD : s2.heap.objs.size = D at hns hsb
 generalize hH2 : s2.heap.push { cls := .type "list", dict := none, data := .seq ([] : List Value).toArray } = P2 at hns hsb ⊢
 have hC : P2.objs.size = D + 1 := by rw [← hH2, Heap.size_push, hD]
 generalize hC' : P2.objs.size = C at hns hsb ⊢
 rw [hC'] at hC
 have old : ∀ b o, s2.heap.get? b = some o → h3.get? b = some o := fun b o q => by
  have hb := Heap.lt_size q
  exact hsb.extBut b o (na1 hb hD hC) (Heap.get?_push_of_some _ (hH2 ▸ Heap.get?_push_of_some _ q))
 have accD : h3.get? D = some { cls := .type "list", data := .seq ([] : List Value).toArray } :=
  hsb.extBut _ _ (na2 hC) (Heap.get?_push_of_some _ (by rw [← hH2, ← hD]; exact Heap.get?_push_size _ rfl))
 have hfr : D ∉ frs X.stack := fun z => by
  rcases List.mem_cons.mp (I2.lY D z) with q | q
  ·exact na0 I2.lt hD q.symm
  ·exact I2.Ju (na4 hD) q
 have I0 : Inv (aU X N scope cl C s2 H2 fp) [(D, { cls := .type "list", data := .seq ([] : List Value).toArray })] (fZ mp σ) H2 { s2 with heap := h3, toks := s2.toks + ([] : List (Str × Value)).length } :=
  sX (s' := { s2 with heap := h3, toks := s2.toks + ([] : List (Str × Value)).length }) hNX hkX S I2 f2 hold (na3 hD hC) hsub hhas rfl rfl ⟨_, hns⟩ old fun p hp => by
   have ep := List.mem_singleton.mp hp
   subst ep
   exact ⟨accD, I2.hok.fresh (na4 hD), na2 hC, hfr, fun v z => by cases z⟩
 have T0 : tn 0 h3 := T.keep _ _ _ st2 fun b _ o q => old b o q
 have no : ∀ {α : Type} {t : Sem α} {Q1 Q2 : α → Shared → Prop} {E : Value → Shared → Prop} {z : Shared}, wpAny (model X.prog X.w) X.A t Q1 (fun _ _ => False) z → (∀ a z, Q1 a z → Q2 a z) → wpAny (model X.prog X.w) X.A t Q2 E z :=
  fun q f => wpAny_mono q f fun _ _ z => z.elim
 have loop : ∀ z : Shared, z = { s2 with heap := h3, toks := s2.toks + ([] : List (Str × Value)).length } →
   codeAny (model X.prog X.w) X.A (.compLoop (jF elt tg iter tg2 iter2 scope pos) 0 (.ref it) (.ref D) (compEnvC scope cl C X.env))
    (compPost (model X.prog X.w) X.A X.xe none (EP X pins σ Q) (.ref D) C) z := by
  rintro z rfl
  have stat : ∀ {H' : Hp} {pl : List (Addr × Obj)}, (∀ b ∈ fp, H' b = none) → (∀ p ∈ pl, p.1 = D) → ∀ b ∈ fp, j9 (aU X N scope cl C s2 H2 fp) pl H' b := fun hn hp b hb => by
   have hb2 := hold b hb
   refine ⟨hn b hb, na1 hb2 hD hC, (sW hkX S I2 f2 hold (na3 hD hC) hsub hhas).exfs b hb, .inl hb, fun x c q => (f2 b hb).2.2.2.2.1 x c (hsub x c q), fun p hpp => ?_⟩
   have hpD := hp p (by simpa [aU] using hpp)
   rw [hpD]
   exact (na0 hb2 hD).symm
  refine Er (env := compEnvC scope cl C X.env) (hs2 _) (fun n z => ∃ i acc τ H' its k, Inv (aU X N scope cl C s2 H2 fp) [(D, { cls := .type "list", data := .seq (List.toArray its) k })] τ H' z ∧ tn i z.heap ∧ (∀ b ∈ fp, H' b = none) ∧ Vals acc its ∧ acc.length ≤ sizeLine ∧ W i n acc τ H')
   ?_ m0 ⟨0, [], _, H2, [], 0, I0, T0, fun b hb => (f2 b hb).1, .nil, Nat.zero_le _, w0⟩
  rintro n s5 ⟨i, acc, τ, H5, its, k, I5, st5, fr5, va, hz, w5⟩
  rcases turn i n acc τ H5 w5 with ⟨stop, qn⟩ | ⟨go, N9, hN9, step⟩
  ·refine no (T.done (aU X N scope cl C s2 H2 fp) rfl rfl rfl hc i _ s5 τ H5 _ I5 (stat fr5 (by simp)) st5 stop) fun r s6 ⟨hr, I6⟩ => ?_
   subst hr
   obtain ⟨m6, hn6, _⟩ := I6.loc
   refine ⟨m6, hn6, fun h' sb => ?_⟩
   obtain ⟨dD, nD, _, _, _⟩ := I6.pin (D, _) (List.mem_append_right _ (List.mem_singleton.mpr rfl))
   have U := I6.base
   have nC : H5 C = none := I6.free
   have ne : ∀ b o, s2.heap.get? b = some o → b ≠ C ∧ b ≠ D := fun b o q => by
    exact ⟨na1 (Heap.lt_size q) hD hC, na0 (Heap.lt_size q) hD⟩
   have keepC : ∀ b o, b ≠ C → s6.heap.get? b = some o → h'.get? b = some o := fun b o hb q => (sb.2 b hb).trans q
   have U' : Un (frs X.stack) fp H2 (upd H5 D (.lst acc)) s2.heap h' := by
    refine ⟨fun b o q n1 hb hx => keepC b o (ne b o q).1 (U.keep b o q n1 hb hx), fun b o q n1 hb hx => ?_, fun b o q n1 hx => ?_, fun b o q hx => ?_, fun b xs q => ?_, fun b o xs q => ?_, fun b ps q => ?_⟩
    ·obtain ⟨sl, z⟩ := U.slot b o q n1 hb hx
     exact ⟨sl, keepC b _ (ne b o q).1 z⟩
    ·rw [aJ (ne b o q).2]
     exact U.free b o q n1 hx
    ·obtain ⟨o', z⟩ := U.there b o q hx
     exact ⟨o', keepC b _ (ne b o q).1 z⟩
    ·have z := U.tups b xs q
     rw [aJ (aB z nD)]
     exact z
    ·have z := U.frzs b o xs q
     rw [aJ (aB z nD)]
     exact z
    ·obtain ⟨more, z⟩ := U.tbls b ps q
     exact ⟨more, by rw [aJ (aB z nD)]; exact z⟩
   have hok : HOk X.prog X.w (upd H5 D (.lst acc)) h' := fun b u q => by
    by_cases hb : b = D
    ·subst hb
     rw [aD] at q
     cases q
     exact ⟨hz, its, k, va, keepC _ _ (na2 hC) dD⟩
    ·rw [aJ hb] at q
     refine (I6.hok b u q).stay (fun c v hcc z => keepC c v ?_ z) (fun c z => by rw [aJ (aB z nD)]; exact z) fun c xs z => by rw [aJ (aB z nD)]; exact z
     rcases hcc with z1 | z1
     ·subst z1
      exact aB q nC
     ·exact aB z1 nC
   have I7 : Inv X pins σ (upd H5 D (.lst acc)) { s6 with heap := h' } := I2.call' (s' := { s6 with heap := h' }) (ch := fp) I6.os U' hok I6.bare fun b hb => by
    obtain ⟨_, a2, _, a4, a5, a6⟩ := f2 b hb
    exact ⟨a4, a2, a5, a6⟩
   exact ⟨.ref D, _, I7, rfl, qn D nD⟩
  ·refine no (T.item (aU X N scope cl C s2 H2 fp) rfl rfl rfl hc i _ s5 τ H5 _ I5 (stat fr5 (by simp)) st5 go) fun r s6 ⟨u, hr, h6⟩ => ?_
   subst hr
   refine no h6 fun _ s7 ⟨x, H7, I7, r7, y7, st7, fr7⟩ => ?_
   have I7' := I7.pinned (stat fr7 (by simp)) (T.obj _ _ st7)
   have again : ∀ {H' : Hp} {z : Shared} {its' : List Value} {k' : Nat} {τ1 : St}, Inv (aU X N scope cl C s2 H2 fp) ([(D, { cls := .type "list", data := .seq (List.toArray its') k' })] ++ dO fp s7.heap) τ1 H' z →
     tn (i + 1) z.heap ∧ (∀ b ∈ fp, H' b = none) ∧ Inv (aU X N scope cl C s2 H2 fp) [(D, { cls := .type "list", data := .seq (List.toArray its') k' })] τ1 H' z := fun {H' z its' k' τ1} Iz => by
    have get : ∀ b ∈ fp, ∀ o, s7.heap.get? b = some o → z.heap.get? b = some o ∧ H' b = none := fun b hb o q => by
     obtain ⟨a1, a2, _⟩ := Iz.pin (b, o) (List.mem_append_right _ (List.mem_append_right _ (fD hb q)))
     exact ⟨a1, a2⟩
    refine ⟨T.keep _ _ _ st7 fun b hb o q => (get b hb o q).1, fun b hb => ?_, Iz.gn⟩
    obtain ⟨o, q, _⟩ := T.obj _ _ st7 b hb
    exact (get b hb o q).2
   refine no (hg cl C s2 H2 fp _ s7 τ H7 x u _ I7' r7 (step x H7 y7)) fun _ s8 ⟨τ1, H8, I8, q8⟩ => ?_
   -- the second walk
   refine no (hi2 cl C s2 H2 fp _ s8 τ1 H8 _ I8 q8) fun v9 s9 h9 => no h9 fun itv2 s10 h10 => ?_
   obtain ⟨it2, fp2, tn2, J2, H10, e2, I10, T2, st10, f10, W2, ⟨m2, w10⟩, turn2⟩ := h10
   subst e2
   have stat2 : ∀ {H' : Hp} {its' : List Value} {k' : Nat}, (∀ b ∈ fp2, H' b = none) → ∀ b ∈ fp2, j9 (aU X N scope cl C s2 H2 fp) ([(D, { cls := .type "list", data := .seq (List.toArray its') k' })] ++ dO fp s7.heap) H' b := fun {H' its' k'} hn b hb => by
    obtain ⟨_, a2, a3, a4, a5, a6⟩ := f10 b hb
    refine ⟨hn b hb, a2, a3, a4, a5, fun p hp => ?_⟩
    rcases List.mem_append.mp hp with z | z
    ·exact a6 p (List.mem_append_left _ z)
    ·rcases List.mem_append.mp z with z | z
     ·have ep := List.mem_singleton.mp z
      subst ep
      exact a6 (D, { cls := .type "list", data := .seq (List.toArray its) k }) (List.mem_append_right _ (List.mem_append_left _ (List.mem_singleton.mpr rfl)))
     ·exact a6 p (List.mem_append_right _ (List.mem_append_right _ z))
   have nD2 : ∀ b ∈ fp2, b ≠ D := fun b hb => by
    obtain ⟨_, _, _, _, _, a6⟩ := f10 b hb
    exact (a6 (D, { cls := .type "list", data := .seq (List.toArray its) k }) (List.mem_append_right _ (List.mem_append_left _ (List.mem_singleton.mpr rfl)))).symm
   have inner : codeAny (model X.prog X.w) X.A (.compLoop (jF elt tg iter tg2 iter2 scope pos) 1 (.ref it2) (.ref D) (compEnvC scope cl C X.env))
     (fun r s5 => match r with | .ok _ => ∃ m, m < n ∧ ∃ i acc τ H' its k, Inv (aU X N scope cl C s2 H2 fp) [(D, { cls := .type "list", data := .seq (List.toArray its) k })] τ H' s5 ∧ tn i s5.heap ∧ (∀ b ∈ fp, H' b = none) ∧ Vals acc its ∧ acc.length ≤ sizeLine ∧ W i m acc τ H' | .error _ => False) s10 := by
    refine JF (env := compEnvC scope cl C X.env) (fun n z => ∃ j acc τ H' its k, Inv (aU X N scope cl C s2 H2 fp) ([(D, { cls := .type "list", data := .seq (List.toArray its) k })] ++ dO fp s7.heap) τ H' z ∧ tn2 j z.heap ∧ (∀ b ∈ fp2, H' b = none) ∧ Vals acc its ∧ acc.length ≤ sizeLine ∧ W2 j n acc τ H')
     ?_ m2 ⟨0, acc, τ1, H10, its, k, I10, st10, fun b hb => (f10 b hb).1, va, hz, w10⟩
    rintro n2 s11 ⟨j, acc2, τ2, H11, its2, k2, I11, st11, fr11, va2, hz2, w11⟩
    rcases turn2 j n2 acc2 τ2 H11 w11 with ⟨stop, qn⟩ | ⟨go2, hlt, N2, hN2, step2⟩
    ·refine no (T2.done (aU X N scope cl C s2 H2 fp) rfl rfl rfl hc j _ s11 τ2 H11 _ I11 (stat2 fr11) st11 stop) fun r s12 ⟨hr, I12⟩ => ?_
     subst hr
     obtain ⟨m', hm, w12⟩ := hN9 _ _ _ qn
     obtain ⟨a1, a2, a3⟩ := again I12
     exact ⟨m', hm, i + 1, acc2, τ2, H11, its2, k2, a3, a1, a2, va2, hz2, w12⟩
    ·refine no (T2.item (aU X N scope cl C s2 H2 fp) rfl rfl rfl hc j _ s11 τ2 H11 _ I11 (stat2 fr11) st11 go2) fun r s12 ⟨u2, hr, h12⟩ => ?_
     subst hr
     refine no h12 fun _ s13 ⟨x2, H13, I13, r13, y13, st13, fr13⟩ => ?_
     have I13' := I13.pinned (stat2 fr13) (T2.obj _ _ st13)
     refine no (hg2 cl C s2 H2 fp _ s13 τ2 H13 x2 u2 _ I13' r13 (step2 x2 H13 y13)) fun _ s14 ⟨τ3, H14, I14, q14⟩ => ?_
     refine no (he cl C s2 H2 fp _ s14 τ3 H14 _ I14 q14) fun y s15 ⟨v, H15, I15, rv, q15⟩ => ?_
     obtain ⟨m', hm, w15⟩ := hN2 _ _ _ q15
     have get2 : ∀ b ∈ fp2, ∀ o, s13.heap.get? b = some o → s15.heap.get? b = some o ∧ H15 b = none := fun b hb o q => by
      obtain ⟨a1, a2, _⟩ := I15.pin (b, o) (List.mem_append_right _ (List.mem_append_right _ (fD hb q)))
      exact ⟨a1, a2⟩
     have t15 : tn2 (j + 1) s15.heap := T2.keep _ _ _ st13 fun b hb o q => (get2 b hb o q).1
     have f15 : ∀ b ∈ fp2, H15 b = none := fun b hb => by
      obtain ⟨o, q, _⟩ := T2.obj _ _ st13 b hb
      exact (get2 b hb o q).2
     have I16 := I15.gn
     obtain ⟨dD, nD, _, _, _⟩ := I16.pin (D, _) (List.mem_append_right _ (List.mem_append_left _ (List.mem_singleton.mpr rfl)))
     have hlen := va2.length
     refine call_meets F.slot_list_append ⟨_, dD, rfl⟩ F.entry_list_append (F.args_list_append_2 _ _) (PySem.list_append D its2.toArray k2 y (by rw [List.size_toArray]; omega)) ⟨dD, ?_⟩
     obtain ⟨k', q⟩ : ∃ k', (s15.heap.update D (Obj.mapSeq fun a => a.push y)).get? D = some { cls := .type "list", data := .seq (its2 ++ [y]).toArray k' } := by
      have q := PySem.IsL.update dD (fun a => a.push y)
      rw [show its2.toArray.push y = (its2 ++ [y]).toArray by simp] at q
      exact ⟨_, q⟩
     have a4 : Inv (aU X N scope cl C s2 H2 fp) (dO fp s7.heap) τ3 H15 s15 := I16.gW fun p hp => I16.pin p (List.mem_append_right _ (List.mem_append_right _ hp))
     have a5 : Inv (aU X N scope cl C s2 H2 fp) (dO fp s7.heap) τ3 H15 { s15 with heap := s15.heap.update D (Obj.mapSeq fun a => a.push y), toks := s15.toks } :=
      a4.turned (it := D) (fun b o hb z => (Heap.get?_update_other _ _ (Ne.symm hb)).trans z) nD (na2 hC) (.inr (na4 hD))
       (fun x c z => by
        obtain ⟨_, o, h1, _⟩ := I2.cell x c (hsub x c z)
        exact na0 (Heap.lt_size h1) hD) fun p hp => by
        have hb := (jM (by simpa [aU] using hp)).1
        exact na0 (hold _ hb) hD
     refine ⟨m', hm, j + 1, acc2 ++ [v], τ3, H15, its2 ++ [y], k', a5.gW fun p hp => ?_, T2.keep _ _ _ t15 fun b hb o z => (Heap.get?_update_other _ _ (nD2 b hb).symm).trans z, f15, va2.append (.cons rv .nil), by rw [List.length_append, List.length_singleton]; omega, w15⟩
     rcases List.mem_append.mp hp with z | z
     ·have ep := List.mem_singleton.mp z
      subst ep
      exact ⟨q, nD, na2 hC, hfr, fun v z => by cases z⟩
     ·exact a5.pin p (List.mem_append_right _ z)
   exact Bw inner (T2.self _ 0 _ _ _ st10 inner)
 exact codeAny_compStart_list (loop _ rfl) (T.self _ 0 _ _ _ T0 (loop _ rfl))
end
end L2
set_option maxHeartbeats 4000000
namespace L2
open PySem PySem.Spec PyProof.Rows
def InW (g2 : TG) (te : TE) (N : List V → St → Hp → Prop) (acc : List V) (τ1 : St) (J2 : It) (H5 : Hp) : Prop :=
 ∃ W2 : Nat → Nat → List V → St → Hp → Prop, (∃ m2, W2 0 m2 acc τ1 H5) ∧ ∀ j m2 acc2 τ2 H6, W2 j m2 acc2 τ2 H6 →
  (J2.stop j H6 ∧ N acc2 τ2 H6) ∨
  (J2.go j H6 ∧ acc2.length < sizeLine ∧ ∃ N2 : List V → St → Hp → Prop, (∀ acc' τ' H', N2 acc' τ' H' → ∃ m', m' < m2 ∧ W2 (j + 1) m' acc' τ' H') ∧ ∀ x2 H7, J2.yld j H6 x2 H7 → g2 x2 τ2 H7 fun τ3 H8 => te τ3 H8 fun v H9 => N2 (acc2 ++ [v]) τ3 H9)
def K8 (mp : List (Option Nat)) (g : TG) (wi2 : TI) (g2 : TG) (te : TE) (σ : St) (Q : VK) (J : It) (H1 : Hp) : Prop :=
 ∃ W : Nat → Nat → List V → St → Hp → Prop, (∃ m, W 0 m [] (fZ mp σ) H1) ∧ ∀ i m acc τ H2, W i m acc τ H2 →
  (J.stop i H2 ∧ ∀ d, H2 d = none → Q (.ref d) (upd H2 d (.lst acc))) ∨
  (J.go i H2 ∧ ∃ N : List V → St → Hp → Prop, (∀ acc' τ' H', N acc' τ' H' → ∃ m', m' < m ∧ W (i + 1) m' acc' τ' H') ∧ ∀ x H3, J.yld i H2 x H3 → g x τ H3 fun τ1 H4 => wi2 τ1 H4 (InW g2 te N acc τ1))
section
variable {mp : List (Option Nat)} {wi wi2 : TI} {g g2 : TG} {te : TE} {σ τ1 : St} {H : Hp} {Q : VK} {R : It → Hp → Prop} {K : PySem.W.Frag} {a : Addr} {xs : List V}
theorem Kr (h : ∀ R : It → Hp → Prop, R = K8 mp g wi2 g2 te σ Q → wi σ H R) : vB mp wi g wi2 g2 te σ H Q := h _ rfl
theorem Kq (hR : R = K8 mp g wi2 g2 te σ Q) (Pv : Nat → List V → St → Hp → Prop) (h0 : Pv 0 [] (fZ mp σ) H)
  (hq : ∀ i acc τ H, Pv i acc τ H → SqL K H a xs)
  (hs : ∀ i x acc τ H, xs[i]? = some x → Pv i acc τ H → g x τ H fun τ1 H4 => ∀ R2 : It → Hp → Prop, R2 = InW g2 te (Pv (i + 1)) acc τ1 → wi2 τ1 H4 R2)
  (hg : ∀ x τ H k k', (∀ τ' H', k τ' H' → k' τ' H') → g x τ H k → g x τ H k')
  (hd : ∀ acc τ H d, Pv xs.length acc τ H → H d = none → Q (.ref d) (upd H d (.lst acc))) : R (Itl K a) H := by
 subst hR
 refine ⟨fun i m acc τ H2 => m = xs.length - i ∧ i ≤ xs.length ∧ Pv i acc τ H2, ⟨_, rfl, Nat.zero_le _, h0⟩, ?_⟩
 rintro i m acc τ H2 ⟨rfl, hi, p⟩
 by_cases hlt : i < xs.length
 ·refine .inr ⟨⟨xs, xs[i], hq i acc τ H2 p, List.getElem?_eq_getElem hlt⟩, Pv (i + 1), fun acc' τ' H' q => ⟨_, by omega, rfl, hlt, q⟩, fun x H3 y => ?_⟩
  obtain ⟨rfl, hx⟩ := y
  exact hg _ _ _ _ _ (fun τ' H' z => z _ rfl) (hs i x acc τ _ (hx xs (hq i acc τ _ p)) p)
 ·have e : i = xs.length := by omega
  subst e
  exact .inl ⟨⟨xs, hq _ acc τ H2 p, Nat.le_refl _⟩, fun d hd' => hd acc τ H2 d p hd'⟩
theorem QJ {N : List V → St → Hp → Prop} {acc0 : List V} (hR : R = InW g2 te N acc0 τ1) (Pw : Nat → List V → St → Hp → Prop) (h0 : Pw 0 acc0 τ1 H)
  (hl : ∀ j acc τ H, j < xs.length → Pw j acc τ H → acc.length < sizeLine) (hq : ∀ i acc τ H, Pw i acc τ H → SqL K H a xs)
  (hs : ∀ i x acc τ H, xs[i]? = some x → Pw i acc τ H → g2 x τ H fun τ3 H8 => te τ3 H8 fun v H9 => Pw (i + 1) (acc ++ [v]) τ3 H9)
  (hd : ∀ acc τ H, Pw xs.length acc τ H → N acc τ H) : R (Itl K a) H := by
 subst hR
 refine ⟨fun i m acc τ H2 => m = xs.length - i ∧ i ≤ xs.length ∧ Pw i acc τ H2, ⟨_, rfl, Nat.zero_le _, h0⟩, ?_⟩
 rintro i m acc τ H2 ⟨rfl, hi, p⟩
 by_cases hlt : i < xs.length
 ·refine .inr ⟨⟨xs, xs[i], hq i acc τ H2 p, List.getElem?_eq_getElem hlt⟩, hl i acc τ H2 hlt p, Pw (i + 1), fun acc' τ' H' q => ⟨_, by omega, rfl, hlt, q⟩, fun x H3 y => ?_⟩
  obtain ⟨rfl, hx⟩ := y
  exact hs i x acc τ _ (hx xs (hq i acc τ _ p)) p
 ·have e : i = xs.length := by omega
  subst e
  exact .inl ⟨⟨xs, hq _ acc τ H2 p, Nat.le_refl _⟩, hd acc τ H2 p⟩
end
section
variable {X : Cx}
theorem CZ {NX : List Str} {kX : List (Str × NameKind)} {scope : Scope} {tg iter tg2 iter2 elt : Expr} {pos : Pos} {wi wi2 : TI} {g g2 : TG} {te : TE} (N : List Str) (mp : List (Option Nat)) (hNX : X.N = NX) (hkX : X.env.scope.names = kX) (S : mY NX kX N mp scope) (hc : X.calm = true)
  (hi : QI X tg iter wi) (hg : ∀ cl C s H fp, QG (aU X N scope cl C s H fp) tg g) (hi2 : ∀ cl C s H fp, QI (aU X N scope cl C s H fp) tg2 iter2 wi2) (hg2 : ∀ cl C s H fp, QG (aU X N scope cl C s H fp) tg2 g2) (he : ∀ cl C s H fp, QE (aU X N scope cl C s H fp) elt te)
  (hs : ∀ x, foldedSetIterable iter X.env x = pure x := by intro _; rfl) (hs2 : ∀ env x, foldedSetIterable iter2 env x = pure x := by intro _ _; rfl) : QE X (.ListComp elt [⟨tg, iter, [], 0⟩, ⟨tg2, iter2, [], 0⟩] scope pos) (vB mp wi g wi2 g2 te) :=
 ⟨Dp N mp hNX hkX S hc hi.h (fun cl C s H fp => (hg cl C s H fp).h) (fun cl C s H fp => (hi2 cl C s H fp).h) (fun cl C s H fp => (hg2 cl C s H fp).h) (fun cl C s H fp => (he cl C s H fp).h) hs hs2⟩
end
section
variable {X : Cx} {o e : Expr} {p pos : Pos} {to ti : TE}
theorem Gi (o : Expr) (u) (e : Expr) (p pos : Pos) (env : Env) (v : Value) : assign (.Subscript o (.UnaryOp u e p) pos) env v = (do
   let ov ← holding [v] (eval o env)
   let iv ← holding [v, ov] (eval (.UnaryOp u e p) env)
   standAt pos
   holding [v, ov, iv] (setItem ov iv v)
   release [v, ov, iv] []) := rfl
theorem Ib {u} {t : Gp} (ho : QE X o to) (hi : QE X (.UnaryOp u e p) ti) (hs : Gr X t) : QG X (.Subscript o (.UnaryOp u e p) pos) (J9 to ti t) := ⟨Dk ho.h hi.h hs (fun v => Gi o u e p pos X.env v)⟩
end
def rP (w : Int) : It1 → List It1
 | .bits m v => [.bits m v]
 | .one a => [.one (a % 2 ^ w.toNat)]
 | .rng a b => if a < 0 ∧ 0 ≤ b then [.rng 0 b, .rng (a + 2 ^ w.toNat) (2 ^ w.toNat - 1)] else [.rng (a % 2 ^ w.toNat) (b % 2 ^ w.toNat)]
theorem uE {w a b : Int} (h : a < 0) (h2 : 0 ≤ b) : rP w (.rng a b) = [.rng 0 b, .rng (a + 2 ^ w.toNat) (2 ^ w.toNat - 1)] := if_pos ⟨h, h2⟩
theorem lu {w a b : Int} (h : ¬ (a < 0 ∧ 0 ≤ b)) : rP w (.rng a b) = [.rng (a % 2 ^ w.toNat) (b % 2 ^ w.toNat)] := if_neg h
theorem yr {H H' : Hp} {d : Addr} (s : Same H H') (h : H' d = none) : H d = none := by
 cases e : H d with
 | none => rfl
 | some o => rw [s _ _ e] at h; cases h
def jq (w : Int) (its : List It1) : List It1 := its.flatMap (rP w)
theorem n6 (w : Int) (it : It1) : (rP w it).length ≤ 2 := by
 cases it with
 | one a => exact Nat.le_succ 1
 | bits m v => exact Nat.le_succ 1
 | rng a b =>
  show (if a < 0 ∧ 0 ≤ b then [It1.rng 0 b, .rng (a + 2 ^ w.toNat) (2 ^ w.toNat - 1)] else [.rng (a % 2 ^ w.toNat) (b % 2 ^ w.toNat)]).length ≤ 2
  split
  ·exact Nat.le_refl 2
  ·exact Nat.le_succ 1
theorem iM (w : Int) : ∀ its : List It1, (jq w its).length ≤ 2 * its.length
 | [] => Nat.le_refl 0
 | it :: its => by
  have h1 := n6 w it
  have h2 := iM w its
  unfold jq at h2 ⊢
  rw [List.flatMap_cons, List.length_append, List.length_cons]
  omega
theorem qd {w : Int} {its : List It1} {i : Nat} {it : It1} (h : its[i]? = some it) : jq w (its.take (i + 1)) = jq w (its.take i) ++ rP w it := by
 unfold jq
 rw [List.take_add_one, h, List.flatMap_append]
 simp
theorem Ay {w s : Int} (hs : s = 0 ∨ s = 1) : wl w s = 0 ∨ wl w s = - 2 ^ (w - 1).toNat := by
 unfold wl
 rcases hs with rfl | rfl
 ·left; omega
 ·right; omega
theorem iQ {w s n : Int} (h1 : 1 ≤ w) (hs : s = 0 ∨ s = 1) (h : dm w s n) : n % 2 ^ w.toNat = if n < 0 then n + 2 ^ w.toNat else n := by
 have e := iT h1
 have p := two_pow_pos (w - 1).toNat
 obtain ⟨a, b⟩ := h
 have hw := Ay (w := w) hs
 split
 ·rw [← Int.add_emod_right]
  exact Int.emod_eq_of_lt (by omega) (by omega)
 ·exact Int.emod_eq_of_lt (by omega) (by omega)
theorem iK (w n a b : Int) : bR w n (.rng a b) = decide (a ≤ n ∧ n ≤ b) := by
 rw [Bool.decide_and]
 rfl
theorem Dh {w s n : Int} {it : It1} (h1 : 1 ≤ w) (hs : s = 0 ∨ s = 1) (h : dm w s n) (hok : it.Ok w s) : (rP w it).any (bR w (n % 2 ^ w.toNat)) = bR w n it := by
 have e := iT h1
 have p := two_pow_pos (w - 1).toNat
 have hw := Ay (w := w) hs
 have hn := iQ h1 hs h
 cases it with
 | bits m v =>
  show (bR w (n % 2 ^ w.toNat) (.bits m v) || false) = _
  rw [Bool.or_false]
  unfold bR
  rw [Int.emod_emod_of_dvd _ (Int.dvd_refl _)]
 | one a =>
  show (bR w (n % 2 ^ w.toNat) (.one (a % 2 ^ w.toNat)) || false) = _
  have ha := iQ h1 hs hok
  obtain ⟨a1, a2⟩ := hok
  obtain ⟨n1, n2⟩ := h
  rw [Bool.or_false]
  unfold bR
  rw [hn, ha]
  apply decide_eq_decide.mpr
  split <;> split <;> omega
 | rng a b =>
  obtain ⟨ka, kb, hab⟩ := hok
  have ha := iQ h1 hs ka
  have hb := iQ h1 hs kb
  obtain ⟨a1, a2⟩ := ka
  obtain ⟨b1, b2⟩ := kb
  obtain ⟨n1, n2⟩ := h
  show (if a < 0 ∧ 0 ≤ b then [It1.rng 0 b, .rng (a + 2 ^ w.toNat) (2 ^ w.toNat - 1)] else [.rng (a % 2 ^ w.toNat) (b % 2 ^ w.toNat)]).any _ = _
  split
  ·rename_i c
   show (bR w (n % 2 ^ w.toNat) (.rng 0 b) || (bR w (n % 2 ^ w.toNat) (.rng (a + 2 ^ w.toNat) (2 ^ w.toNat - 1)) || false)) = _
   rw [Bool.or_false]
   rw [iK, iK, iK, hn, ← Bool.decide_or]
   apply decide_eq_decide.mpr
   split <;> omega
  ·rename_i c
   show (bR w (n % 2 ^ w.toNat) (.rng (a % 2 ^ w.toNat) (b % 2 ^ w.toNat)) || false) = _
   rw [Bool.or_false]
   rw [iK, iK, hn, ha, hb]
   apply decide_eq_decide.mpr
   split <;> split <;> split <;> omega
theorem yL {w s n : Int} (h1 : 1 ≤ w) (hs : s = 0 ∨ s = 1) (h : dm w s n) : ∀ {its : List It1}, (∀ it ∈ its, it.Ok w s) → (jq w its).any (bR w (n % 2 ^ w.toNat)) = its.any (bR w n)
 | [], _ => rfl
 | it :: its, hok => by
  have ih := yL h1 hs h (its := its) fun it hi => hok it (List.mem_cons_of_mem _ hi)
  unfold jq at ih ⊢
  rw [List.flatMap_cons, List.any_append, List.any_cons, ih, Dh h1 hs h (hok it (List.mem_cons_self ..))]
theorem uN {w s n : Int} (h1 : 1 ≤ w) (hs : s = 0 ∨ s = 1) (h : dm w s n) : ∀ {css : List (List It1)}, (∀ its ∈ css, ∀ it ∈ its, it.Ok w s) → pH w (n % 2 ^ w.toNat) (css.map (jq w)) = pH w n css
 | [], _ => rfl
 | its :: css, hok => by
  have ih := uN h1 hs h (css := css) fun its hi => hok its (List.mem_cons_of_mem _ hi)
  rw [List.map_cons]
  unfold pH
  rw [yL h1 hs h (hok its (List.mem_cons_self ..)), ih]
theorem JD {w s pat : Int} (h1 : 1 ≤ w) (hs : s = 1) (hp : 0 ≤ pat) : wl w s ≤ pat - 2 ^ w.toNat * if pat / 2 ^ (w - 1).toNat = 1 then 1 else 0 := by
 have e := iT h1
 have p := two_pow_pos (w - 1).toNat
 subst hs
 unfold wl
 generalize (2 : Int) ^ (w - 1).toNat = P at e p ⊢
 rw [e]
 split
 ·rename_i c
  have h := Int.mul_ediv_add_emod pat P
  have h3 := Int.emod_nonneg pat (show P ≠ 0 by omega)
  rw [c] at h
  omega
 ·omega
theorem Ep {w s pat : Int} (h1 : 1 ≤ w) (h2 : w ≤ 40) (hs : s = 0 ∨ s = 1) (hp : 0 ≤ pat) : wl w s ≤ pat - 2 ^ w.toNat * 0 := by
 have := iG h1 h2 hs
 omega
def xj : Sp := fun vs H Q _ => ∃ (w : Int), vs = [.int w, .int 0] ∧ 1 ≤ w ∧ w ≤ 40 ∧ Q (.int (2 ^ w.toNat - 1)) H
def qX : Sp := fun vs H Q _ => ∃ (w s : Int) (x : V) (ok : Addr → Prop) (it : It1), vs = [.int w, x] ∧ 1 ≤ w ∧ w ≤ 40 ∧ (s = 0 ∨ s = 1) ∧ aR ok H x (itD it) ∧ it.Ok w s ∧ lX ok H ∧
 ∀ (p : Addr) (us : List V) H', Same H H' → H' p = some (.lst us) → aL ok H' us ((rP w it).map itD) → Q (.ref p) H'
def xr : Sp := fun vs H Q _ => ∃ (w s : Int) (x : V) (ok : Addr → Prop) (css : List (List It1)), vs = [x] ∧ 1 ≤ w ∧ w ≤ 40 ∧ (s = 0 ∨ s = 1) ∧ aR ok H x (cJ w s css) ∧ (∀ its ∈ css, its.length ≤ 31 ∧ ∀ it ∈ its, it.Ok w s) ∧ css.length ≤ 13 ∧ lX ok H ∧
 ∀ (p c : Addr) (ls : List Addr) H', Same H H' → H' p = some (.tup [.int w, .int 0, .ref c]) → H' c = some (.lst (ls.map V.ref)) → c ∉ ls → H c = none → (∀ q ∈ ls, H q = none) → ls.length = css.length → aR ok H' (.ref p) (cJ w 0 (css.map (jq w))) → Q (.ref p) H'
def K1 : Sp := fun vs H Q _ => ∃ (w s : Int) (m v : Nat), vs = [.int w, .int s, .int m, .int v] ∧ 9 ≤ w ∧ w ≤ 40 ∧ (s = 0 ∨ s = 1) ∧ m < 2 ^ w.toNat ∧ v < 2 ^ w.toNat ∧ (frees w.toNat m).length ≤ 4 ∧
 ∀ (p : Addr) H' (ns : List Int), H' p = some (.lst (ns.map V.int)) → ns.length ≤ 32 → (∀ n ∈ ns, wl w s ≤ n) → Same H H' → Q (.ref p) H'
def nT : Sp := fun vs H Q _ => ∃ (x : V) (w s : Int) (ok : Addr → Prop) (css : List (List It1)), vs = [x] ∧ 1 ≤ w ∧ w ≤ 40 ∧ (s = 0 ∨ s = 1) ∧ aR ok H x (cJ w s css) ∧ (∀ its ∈ css, ∀ it ∈ its, it.Ok w s) ∧ (css.map List.length).sum ≤ 110 ∧
 ∀ (p : Addr) H' (ns : List Int), Same H H' → H' p = some (.lst (ns.map V.int)) → ns.length ≤ 4000 → (∀ n ∈ ns, dm w s n) → Q (.ref p) H'
theorem new_one {ok : Addr → Prop} {H0 H : Hp} {it' : It1} {Q : VK} (n : lX ok H0) (s : Same H0 H) (q : ∀ (p : Addr) (us : List V) H', Same H0 H' → H' p = some (.lst us) → aL ok H' us [itD it'] → Q (.ref p) H') {m : Nat} (hm : m ≤ 9000) :
  m ≤ sizeLine ∧ ∀ p, H p = none → 1 ≤ sizeLine ∧ ∀ p2, upd H p (.tup (itV it')) p2 = none → Q (.ref p2) (upd (upd H p (.tup (itV it'))) p2 (.lst [.ref p])) :=
 ⟨aZ hm, fun p hp => ⟨aZ (by decide), fun p2 hp2 => q p2 _ _ (s.trans ((au hp).trans (au hp2))) aD (.cons ((gK.tree (it := it') ⟨aD⟩ (n H p s hp)).same (au hp2)) .nil)⟩⟩
theorem xX {ok : Addr → Prop} {H0 H : Hp} {i1 i2 : It1} {Q : VK} {p1 : Addr} (n : lX ok H0) (s : Same H0 H) (t1 : aR ok H (.ref p1) (itD i1)) (q : ∀ (p : Addr) (us : List V) H', Same H0 H' → H' p = some (.lst us) → aL ok H' us [itD i1, itD i2] → Q (.ref p) H') {m : Nat} (hm : m ≤ 9000) :
  m ≤ sizeLine ∧ ∀ p, H p = none → 2 ≤ sizeLine ∧ ∀ p2, upd H p (.tup (itV i2)) p2 = none → Q (.ref p2) (upd (upd H p (.tup (itV i2))) p2 (.lst [.ref p1, .ref p])) :=
 ⟨aZ hm, fun p hp => ⟨aZ (by decide), fun p2 hp2 => q p2 _ _ (s.trans ((au hp).trans (au hp2))) aD (.cons (t1.same ((au hp).trans (au hp2))) (.cons ((gK.tree (it := i2) ⟨aD⟩ (n H p s hp)).same (au hp2)) .nil))⟩⟩
theorem gh {k : Nat} : ∀ {ds : List PyData}, (∀ d ∈ ds, d.depth ≤ k) → PyData.depthAll ds ≤ k
 | [], _ => by rw [PyData.depthAll.eq_1]; exact Nat.zero_le _
 | d :: ds, h => by
  have h1 := h d (List.mem_cons_self ..)
  have h2 := gh (ds := ds) fun x hx => h x (List.mem_cons_of_mem _ hx)
  rw [PyData.depthAll.eq_2]
  omega
theorem FN (it : It1) : (itD it).depth ≤ 1 := by
 cases it <;> exact Nat.le_refl 1
theorem sU (w s : Int) (css : List (List It1)) : (cJ w s css).depth ≤ 4 := by
 have h1 : ∀ d ∈ css.map fP, d.depth ≤ 2 := fun d hd => by
  obtain ⟨its, _, rfl⟩ := List.mem_map.mp hd
  unfold fP
  rw [PyData.depth.eq_1]
  have := gh (k := 1) (ds := its.map itD) fun d hd => by
   obtain ⟨it, _, rfl⟩ := List.mem_map.mp hd
   exact FN it
  omega
 have h2 : (PyData.list (css.map fP)).depth ≤ 3 := by
  rw [PyData.depth.eq_1]
  have := gh h1
  omega
 unfold cJ
 rw [PyData.depth.eq_2]
 have := gh (k := 3) (ds := [.int w, .int s, .list (css.map fP)]) fun d hd => by
  simp only [List.mem_cons, List.not_mem_nil, or_false] at hd
  rcases hd with rfl | rfl | rfl
  ·exact Nat.zero_le _
  ·exact Nat.zero_le _
  ·exact h2
 omega
end L2
namespace K10
open PySem L2 PyProof.Rows
def top (i : Nat) : Stmt := PySem.Challenge.pw_caseways_k10_choices_by_patterns.main.body.getD i (.Pass ⟨0, 0, 0, 0⟩)
abbrev BLs : List Str := ["abs", "all", "any", "bool", "enumerate", "int", "isinstance", "len", "list", "max", "min", "range", "repr", "set", "sorted", "str", "sum", "tuple", "zip"]
theorem Em : ("abs" : Str) ∈ BLs := by decide +kernel
theorem NK : ("all" : Str) ∈ BLs := by decide +kernel
theorem Nz : ("any" : Str) ∈ BLs := by decide +kernel
theorem sH : ("bool" : Str) ∈ BLs := by decide +kernel
theorem lG : ("enumerate" : Str) ∈ BLs := by decide +kernel
theorem sG : ("int" : Str) ∈ BLs := by decide +kernel
theorem bD : ("isinstance" : Str) ∈ BLs := by decide +kernel
theorem mF : ("len" : Str) ∈ BLs := by decide +kernel
theorem nG : ("list" : Str) ∈ BLs := by decide +kernel
theorem Ny : ("max" : Str) ∈ BLs := by decide +kernel
theorem wk : ("min" : Str) ∈ BLs := by decide +kernel
theorem eN : ("range" : Str) ∈ BLs := by decide +kernel
theorem yc : ("repr" : Str) ∈ BLs := by decide +kernel
theorem Nx : ("set" : Str) ∈ BLs := by decide +kernel
theorem zM : ("sorted" : Str) ∈ BLs := by decide +kernel
theorem wj : ("str" : Str) ∈ BLs := by decide +kernel
theorem Nv : ("sum" : Str) ∈ BLs := by decide +kernel
theorem oF : ("tuple" : Str) ∈ BLs := by decide +kernel
theorem Nu : ("zip" : Str) ∈ BLs := by decide +kernel
abbrev fM : Stmt := top 7
theorem yZ : bJ ["_law_script", "_law_k"] ["_law_script", "_law_k"] (ak fM) := ⟨rfl, rfl, rfl, by decide +kernel, rfl, by decide +kernel, by decide +kernel⟩
theorem Ar : Bn "_law_cell_at" := ⟨by decide +kernel, by decide +kernel⟩
abbrev je : Stmt := top 8
theorem xJ : bJ ["_law_script", "_law_k", "_law_cell"] ["_law_script", "_law_k"] (ak je) := ⟨rfl, rfl, rfl, by decide +kernel, rfl, by decide +kernel, by decide +kernel⟩
theorem DG : Nm ["_law_script", "_law_k", "_law_cell"] (ak je) 2 "_law_cell" := .of (by decide +kernel)
theorem Ks : Bn "_law_tape" := ⟨by decide +kernel, by decide +kernel⟩
abbrev gB : Stmt := top 9
theorem kJ : bJ ["_law_tape_here", "_law_many", "_law_found", "_law_prime", "_law_once"] ["_law_tape_here", "_law_many"] (ak gB) := ⟨rfl, rfl, rfl, by decide +kernel, rfl, by decide +kernel, by decide +kernel⟩
theorem uI : Nm ["_law_tape_here", "_law_many", "_law_found", "_law_prime", "_law_once"] (ak gB) 2 "_law_found" := .of (by decide +kernel)
theorem DN : Nm ["_law_tape_here", "_law_many", "_law_found", "_law_prime", "_law_once"] (ak gB) 3 "_law_prime" := .of (by decide +kernel)
theorem DK : Nm ["_law_tape_here", "_law_many", "_law_found", "_law_prime", "_law_once"] (ak gB) 4 "_law_once" := .of (by decide +kernel)
theorem bV : Bn "_law_take" := ⟨by decide +kernel, by decide +kernel⟩
section
variable {P : Program} {w : World} {K : PySem.W.Frag} {mg : Str → Option Value} {base : Heap} {f : Addr} {fd : FuncData} {bs : List Str}
theorem Js (hB : ∀ x : Str, x ∈ BLs → mg x = none) (F : Fun K "_law_cell_at" "_law_cell_at" fM f fd) : dg P w K mg base CX0 1 f fd ["_law_script", "_law_k"] (BV K) := by
 refine F.okq yZ (fun vs H Q E h => ?_) (fun cdv A outer s H vs Q E hr h => ?_)
 ·obtain ⟨a, ns, k, rfl, _⟩ := h
  rfl
 ·obtain ⟨a, ns, k, rfl, hS, h0, q⟩ := h
  refine ⟨_, (aN (aQ (lg (aW jm (aG 1) (cB gj rfl (hB "len" mF) PySem.boot_len mO (aj (aG 0) aq)) (aP _)) (bA yh (aG 0) (aG 1) (fun _ _ => rfl)) ao))), ?_⟩
  simp only [rd0, rd1, rd2, rd3, rd4, rd5, rd6, rd7, rd8, rd9, reduceIte, reduceCtorEq, Nat.reduceAdd, Nat.reduceSub]
  refine ⟨_, .inl hS, ?_⟩
  split
  ·rename_i c
   rw [List.length_map] at c
   have hk : k.toNat < ns.length := by omega
   have ek : k = ((k.toNat : Nat) : Int) := by omega
   have z : atI (ns.map V.int) ((k.toNat : Nat) : Int) = some (.int ns[k.toNat]) := eV (by rw [List.getElem?_map, List.getElem?_eq_getElem hk]; rfl)
   rw [← ek] at z
   unfold O7
   exact ⟨a, _, k, _, rfl, rfl, hS, z, q _⟩
  ·exact q _
theorem Jm (hB : ∀ x : Str, x ∈ BLs → mg x = none) (CZCellAt : Cal P w K mg base "_law_cell_at" 1 ["_law_script", "_law_k"] (BV K)) (F : Fun K "_law_tape" "_law_tape" je f fd) : dg P w K mg base CX0 2 f fd ["_law_script", "_law_k"] (BJ K) := by
 refine F.okq xJ (fun vs H Q E h => ?_) (fun cdv A outer s H vs Q E hr h => ?_)
 ·obtain ⟨a, ns, k, rfl, _⟩ := h
  rfl
 ·obtain ⟨a, ns, k, rfl, hS, h0, h1, q⟩ := h
  refine ⟨_, (aA (bQ DG xJ.nd (bC CZCellAt (hr.mono (by decide)) rfl Ar (aj (aG 0) (aj (aG 1) aq))))
   (aN (aQ (cH (aj (aF eF (cB u5 rfl (hB "abs" Em) PyProof.Rows.Boot.«abs» Ga (aj (aG 2) aq)) (CW j4 rfl (hB "int" sG) boot_int tu (aj (fQ K4 (cB u5 rfl (hB "abs" Em) PyProof.Rows.Boot.«abs» Ga (aj (aG 2) aq)) (aF Ds ao ao) (aP _)) aq))) (aj (aF dj (aF eF (aF bh (aF bh (aF dj (aG 2) ao) (aF eF (aF eF ao (aG 1)) (aG 1))) ao) ao) ao) (aj ao aq))))))), ?_⟩
  simp only [rd0, rd1, rd2, rd3, rd4, rd5, rd6, rd7, rd8, rd9, reduceIte, reduceCtorEq, Nat.reduceAdd, Nat.reduceSub]
  refine ⟨a, ns, k, rfl, hS, h0, fun v => ?_⟩
  simp only [rd0, rd1, rd2, rd3, rd4, rd5, rd6, rd7, rd8, rd9, reduceIte, reduceCtorEq, Nat.reduceAdd, Nat.reduceSub]
  refine ⟨⟨by decide, by decide, by decide⟩, ?_, by decide, .inl (by decide), .inr (by omega), .inr (by decide), by decide, aZ (by decide), fun p hp => q p _ hp (au hp) ⟨_, _, _, aD, ?_, ?_, ?_, Int.le_refl _, Int.le_refl _⟩⟩
  ·right
   generalize (if v < 0 then -v else v) = u
   split <;> decide
  ·refine Int.mul_nonneg ?_ ?_
   ·split <;> omega
   ·generalize (if v < 0 then -v else v) = u
    split <;> decide
  ·exact Int.emod_nonneg _ (by decide)
  ·exact Int.emod_lt_of_pos _ (by decide)
theorem xV {n : Nat} (hB : ∀ x : Str, x ∈ BLs → mg x = none) (hn : n ≤ 10) (CZTake : Cal P w K mg base "_law_take" n ["_law_tape_here", "_law_many"] (dN n)) (F : Fun K "_law_take" "_law_take" gB f fd) : dg P w K mg base CX0 (n + 1) f fd ["_law_tape_here", "_law_many"] (dN (n + 1)) := by
 refine F.okq kJ (fun vs H Q E h => ?_) (fun cdv A outer s H vs Q E hr h => ?_)
 ·obtain ⟨p, m, B, rfl, _⟩ := h
  rfl
 ·obtain ⟨p, m, B, rfl, ⟨a, b, c, hp, ha, hb0, hb1, hc0, hc1⟩, hB0, hm0, hm1, hn1, hn2, q⟩ := h
  refine ⟨_, (aA (cI (aW Dt (bA bW (aG 0) ao (fun _ _ => rfl)) ao (aP _)) (aA (bQ uI kJ.nd (aF dj (bA bW (aG 0) ao (fun _ _ => rfl)) (aG 1)))
   (aA (iz (aF uF (bA bW (aG 0) ao (fun _ _ => rfl)) (aG 1)) (rK (aG 0) ao xG))
   (aN (aQ (aG 2))))) bO)
   (aA (iz (aF bh (bA bW (aG 0) ao (fun _ _ => rfl)) ao) (rK (aG 0) ao xG))
   (aA (bQ DN kJ.nd (bA bW (cH (aj ao (aj ao (aj ao (aj ao (aj ao (aj ao (aj ao aq)))))))) (aF dj (bA bW (aG 0) ao (fun _ _ => rfl)) ao) (fun _ _ => rfl)))
   (aA (bQ DK kJ.nd (aF dj (aF eF (aF bh (bA bW (aG 0) ao (fun _ _ => rfl)) (aF eF ao (bA bW (aG 0) ao (fun _ _ => rfl)))) (aF bh ao (bA bW (aG 0) ao (fun _ _ => rfl)))) (aG 3)))
   (aA (iz (aF dj (aF bh (aF eF (aG 4) (aF bh (aF dj (aG 4) ao) ao)) (bA bW (aG 0) ao (fun _ _ => rfl))) ao) (rK (aG 0) ao xG))
   (aA (bQ uI kJ.nd (aF uF (aF dj (aF eF (bA bW (aG 0) ao (fun _ _ => rfl)) (aF bh (aF dj (bA bW (aG 0) ao (fun _ _ => rfl)) ao) ao)) ao) ao))
   (aN (aQ (lg (aW jm (aG 1) (aF Ds ao ao) (aP _)) (aF dj (aG 2) (aG 1)) (aF dj (aF bh (aF eF (aG 2) ao) (bC CZTake (hr.mono (by omega)) rfl bV (aj (aG 0) (aj ao aq)))) (aG 1))))))))))), ?_⟩
  simp only [rd0, rd1, rd2, rd3, rd4, rd5, rd6, rd7, rd8, rd9, reduceIte, reduceCtorEq, Nat.reduceAdd, Nat.reduceSub, hp]
  split
  ·refine ⟨hm0, ⟨hm0, hm1⟩, ?_⟩
   refine q _ _ (Int.emod_nonneg _ (by omega)) (Int.emod_lt_of_pos _ hm0) bN.upd ⟨_, _, _, aD, Int.ediv_nonneg ha (by omega), hb0, hb1, hc0, by omega⟩
  ·refine ⟨aZ (by decide), fun p1 hp1 => ?_⟩
   have np : p ≠ p1 := fun z => by rw [← z, aD] at hp1; cases hp1
   simp only [rd0, rd1, rd2, rd3, rd4, rd5, rd6, rd7, rd8, rd9, reduceIte, reduceCtorEq, Nat.reduceAdd, Nat.reduceSub, hp, aJ np, ne_eq, np, not_false_eq_true]
   obtain ⟨v, hv, v0⟩ := Mw (c + 1)
   have m1 : ∀ x : Int, 0 ≤ x % 40009 ∧ x % 40009 < 40009 := fun x => ⟨Int.emod_nonneg _ (by decide), Int.emod_lt_of_pos _ (by decide)⟩
   have m2 : ∀ x : Int, 0 ≤ x % 1009 ∧ x % 1009 < 1009 := fun x => ⟨Int.emod_nonneg _ (by decide), Int.emod_lt_of_pos _ (by decide)⟩
   have m3 : ∀ x : Int, 0 ≤ x % 2147483629 ∧ x % 2147483629 < 2147483629 := fun x => ⟨Int.emod_nonneg _ (by decide), Int.emod_lt_of_pos _ (by decide)⟩
   refine ⟨by decide, _, hv, .inl (by decide), .inr (by omega), v, rfl, v0, by decide, .inr ?_, by decide, by decide, .inr ?_, by decide, by decide, by decide, ?_⟩
   ·have := m1 ((b + 39373 * (c + 1)) * (48271 + (c + 1)) % v)
    omega
   ·have := m2 (((b + 39373 * (c + 1)) * (48271 + (c + 1)) % v * ((b + 39373 * (c + 1)) * (48271 + (c + 1)) % v % 40009 + 7) + (c + 1)) % 2147483629)
    omega
   ·have e3 := m3 ((b + 39373 * (c + 1)) * (48271 + (c + 1)) % v * ((b + 39373 * (c + 1)) * (48271 + (c + 1)) % v % 40009 + 7) + (c + 1))
    generalize ((b + 39373 * (c + 1)) * (48271 + (c + 1)) % v * ((b + 39373 * (c + 1)) * (48271 + (c + 1)) % v % 40009 + 7) + (c + 1)) % 2147483629 = y at e3 ⊢
    have sx : bN p H (upd (upd (upd H p (HO.lst [V.int a, V.int b, V.int (c + 1)])) p1 (HO.lst [V.int 2147483587, V.int 2147483579, V.int 2147483563, V.int 2147483549, V.int 2147483543, V.int 2147483497, V.int 2147483489])) p (HO.lst [V.int a, V.int y, V.int (c + 1)])) :=
     (bN.upd.trans (au hp1).x).trans bN.upd
    have tp : bx (upd (upd (upd H p (HO.lst [V.int a, V.int b, V.int (c + 1)])) p1 (HO.lst [V.int 2147483587, V.int 2147483579, V.int 2147483563, V.int 2147483549, V.int 2147483543, V.int 2147483497, V.int 2147483489])) p (HO.lst [V.int a, V.int y, V.int (c + 1)])) p (B + 1) :=
     ⟨a, y, c + 1, aD, ha, e3.1, e3.2, by omega, by omega⟩
    generalize upd (upd (upd H p (HO.lst [V.int a, V.int b, V.int (c + 1)])) p1 (HO.lst [V.int 2147483587, V.int 2147483579, V.int 2147483563, V.int 2147483549, V.int 2147483543, V.int 2147483497, V.int 2147483489])) p (HO.lst [V.int a, V.int y, V.int (c + 1)]) = H2 at sx tp ⊢
    split
    ·refine ⟨hm0, q _ _ (Int.emod_nonneg _ (by omega)) (Int.emod_lt_of_pos _ hm0) sx ?_⟩
     obtain ⟨a', b', c', z1, z2, z3, z4, z5, z6⟩ := tp
     exact ⟨a', b', c', z1, z2, z3, z4, z5, by omega⟩
    ·rename_i hm
     have hm' : 1000000 ≤ m := by
      rw [show (10 : Int) ^ Int.toNat 6 = 1000000 from by decide] at hm
      omega
     have hn3 := hn2 hm'
     refine ⟨.inr (by decide), p, 99991, B + 1, rfl, tp, by omega, by decide, by decide, by omega, fun z => absurd z (by decide), fun r H3 r0 r1 s3 t3 => ?_⟩
     simp only [rd0, rd1, rd2, rd3, rd4, rd5, rd6, rd7, rd8, rd9, reduceIte, reduceCtorEq, Nat.reduceAdd, Nat.reduceSub]
     refine ⟨hm0, q _ _ (Int.emod_nonneg _ (by omega)) (Int.emod_lt_of_pos _ hm0) (sx.trans s3) ?_⟩
     obtain ⟨a', b', c', z1, z2, z3, z4, z5, z6⟩ := t3
     exact ⟨a', b', c', z1, z2, z3, z4, z5, by omega⟩
theorem yU : dg P w K mg base CX0 0 f fd ["_law_tape_here", "_law_many"] (dN 0) := by
 have no : ∀ vs H Q E, ¬ dN 0 vs H Q E := fun vs H Q E h => by
  obtain ⟨p, m, B, _, _, _, _, _, h1, _⟩ := h
  omega
 exact ⟨fun vs H Q E h => absurd h (no vs H Q E), fun A outer s H args us vs Q E _ _ _ _ h => absurd h (no vs H Q E)⟩
abbrev ju : Stmt := top 21
theorem Hj : bJ ["_law_found", "_law_due"] ["_law_found", "_law_due"] (ak ju) := ⟨rfl, rfl, rfl, by decide +kernel, rfl, by decide +kernel, by decide +kernel⟩
theorem yH : Bn "_law_same" := ⟨by decide +kernel, by decide +kernel⟩
theorem lz {n : Nat} (hB : ∀ x : Str, x ∈ BLs → mg x = none) (CZSame : Cal P w K mg base "_law_same" n ["_law_found", "_law_due"] (kj n)) (F : Fun K "_law_same" "_law_same" ju f fd) : dg P w K mg base CX0 (n + 1) f fd ["_law_found", "_law_due"] (kj (n + 1)) := by
 refine F.okq Hj (fun vs H Q E h => ?_) (fun cdv A outer s H vs Q E hr h => ?_)
 ·obtain ⟨x, y, ok, d, rfl, _⟩ := h
  rfl
 ·obtain ⟨x, y, ok, d, rfl, tx, ty, hd, q⟩ := h
  refine ⟨_, (aA (cI (jw (cB Ah rfl (hB "isinstance" bD) boot_isinstance bF (aj (aG 1) (aj (cQ (aj (iJ "list" rfl (hB "list" nG) boot_list sZ) (aj (iJ "tuple" rfl (hB "tuple" oF) boot_tuple oR) aq))) aq)))) (aA (cI (uo (qb (aW (jh hr.bw) (cB cN rfl (hB "isinstance" bD) boot_isinstance bF (aj (aG 0) (aj (iJ "list" rfl (hB "list" nG) boot_list sZ) aq))) (cB cN rfl (hB "isinstance" bD) boot_isinstance bF (aj (aG 1) (aj (iJ "list" rfl (hB "list" nG) boot_list sZ) aq))) (aP _)) (nY (aW (jh hr.bw) (cB cN rfl (hB "isinstance" bD) boot_isinstance bF (aj (aG 0) (aj (iJ "tuple" rfl (hB "tuple" oF) boot_tuple oR) aq))) (cB cN rfl (hB "isinstance" bD) boot_isinstance bF (aj (aG 1) (aj (iJ "tuple" rfl (hB "tuple" oF) boot_tuple oR) aq))) (aP _))))) (aN (aQ ux)) bO)
   (aA (cI (aW (jh hr.bw) (cB jj rfl (hB "len" mF) PySem.boot_len mO (aj (aG 0) aq)) (cB jj rfl (hB "len" mF) PySem.boot_len mO (aj (aG 1) aq)) (aP _)) (aN (aQ ux)) bO)
   (aN (aQ (cB (Al rfl) rfl (hB "all" NK) PyProof.Rows.Boot.«all» Ou (aj (jL (NX := ["_law_found", "_law_due"]) (kX := _) ["_law_one", "_law_other"] [none, none] rfl rfl ⟨rfl, by decide +kernel, by decide +kernel, by (intro y hy hf; repeat (first | (rcases List.mem_cons.mp hy with rfl | hy; (first | exact Or.inr rfl | exact Or.inl rfl | exact absurd hf (by decide))) | exact absurd hy List.not_mem_nil)), by decide +kernel⟩ rfl (Ia rfl (hB "zip" Nu) (aj (aG 0) (aj (aG 1) aq))) (fun _ _ _ _ _ => (jg (n := 2) rfl (bG (eE 0 (show List.Nodup (["_law_one", "_law_other"] : List Str) from by decide +kernel) rfl (Or.inl rfl)) (bG (eE 1 (show List.Nodup (["_law_one", "_law_other"] : List Str) from by decide +kernel) rfl (Or.inl rfl)) gb)))) (fun _ _ _ _ _ => vU) (fun _ _ _ _ _ => (bC CZSame (hr.mono (by omega)) rfl yH (aj (aG 0) (aj (aG 1) aq))))) aq)))))) bO)
   (aA (cI (uo (qb (aW Nb (aG 1) Mh (aP _)) (nY (jw (cB cN rfl (hB "isinstance" bD) boot_isinstance bF (aj (aG 1) (aj (iJ "str" rfl (hB "str" wj) boot_str wJ) aq))))))) (aN (aQ (nZ (fQ (bM hr.bw) (aG 0) (aG 1) (aP _)) (rM (fQ (bM hr.bw) (cB cN rfl (hB "isinstance" bD) boot_isinstance bF (aj (aG 0) (aj (iJ "str" rfl (hB "str" wj) boot_str wJ) aq))) (cB cN rfl (hB "isinstance" bD) boot_isinstance bF (aj (aG 1) (aj (iJ "str" rfl (hB "str" wj) boot_str wJ) aq))) (aP _)))))) bO)
   (aA (cI (jw (cB cN rfl (hB "isinstance" bD) boot_isinstance bF (aj (aG 1) (aj (iJ "bool" rfl (hB "bool" sH) boot_bool tD) aq)))) (aN (aQ (nZ (cB cN rfl (hB "isinstance" bD) boot_isinstance bF (aj (aG 0) (aj (iJ "bool" rfl (hB "bool" sH) boot_bool tD) aq))) (rM (fQ (bM hr.bw) (aG 0) (aG 1) (aP _)))))) bO)
   (aN (aQ (nZ (cB cN rfl (hB "isinstance" bD) boot_isinstance bF (aj (aG 0) (aj (iJ "int" rfl (hB "int" sG) boot_int tu) aq))) (nZ (Mg (cB cN rfl (hB "isinstance" bD) boot_isinstance bF (aj (aG 0) (aj (iJ "bool" rfl (hB "bool" sH) boot_bool tD) aq)))) (rM (fQ (bM hr.bw) (aG 0) (aG 1) (aP _)))))))))), ?_⟩
  cases tx with
  | non => cases ty; simp only [rd0, rd1, rd2, rd3, rd4, rd5, rd6, rd7, rd8, rd9, reduceIte, reduceCtorEq, Nat.reduceAdd, Nat.reduceSub]; exact ⟨aZ (by decide), fun t ht => q _ (au ht)⟩
  | bl b => cases ty; simp only [rd0, rd1, rd2, rd3, rd4, rd5, rd6, rd7, rd8, rd9, reduceIte, reduceCtorEq, Nat.reduceAdd, Nat.reduceSub]; exact ⟨aZ (by decide), fun t ht => q _ (au ht)⟩
  | int i => cases ty; simp only [rd0, rd1, rd2, rd3, rd4, rd5, rd6, rd7, rd8, rd9, reduceIte, reduceCtorEq, Nat.reduceAdd, Nat.reduceSub]; exact ⟨aZ (by decide), fun t ht => q _ (au ht)⟩
  | str x => cases ty; simp only [rd0, rd1, rd2, rd3, rd4, rd5, rd6, rd7, rd8, rd9, reduceIte, reduceCtorEq, Nat.reduceAdd, Nat.reduceSub]; exact ⟨aZ (by decide), fun t ht => q _ (au ht)⟩
  | lst o1 e1 z1 ts1 =>
   rename_i p1 xs1 ds
   cases ty with
   | lst o2 e2 z2 ts2 =>
    rename_i p2 xs2
    have l1 := ts1.length
    have l2 := ts2.length
    simp only [rd0, rd1, rd2, rd3, rd4, rd5, rd6, rd7, rd8, rd9, reduceIte, reduceCtorEq, Nat.reduceAdd, Nat.reduceSub, e1, e2]
    refine ⟨aZ (by decide), fun t ht => ?_⟩
    have s1 := au (o := HO.tup [V.ty "list", V.ty "tuple"]) ht
    have e1 := s1 _ _ e1
    have e2 := s1 _ _ e2
    generalize upd H t (HO.tup [V.ty "list", V.ty "tuple"]) = H1 at s1 e1 e2 ⊢
    simp only [rd0, rd1, rd2, rd3, rd4, rd5, rd6, rd7, rd8, rd9, reduceIte, reduceCtorEq, Nat.reduceAdd, Nat.reduceSub, e1, e2]
    rw [decide_eq_true (show (xs1.length : Int) = (xs2.length : Int) by omega), Bool.not_true, if_neg (by decide)]
    refine jE fun R hR => ?_
    simp only [rd0, rd1, rd2, rd3, rd4, rd5, rd6, rd7, rd8, rd9, reduceIte, reduceCtorEq, Nat.reduceAdd, Nat.reduceSub, e1, e2]
    obtain ⟨Pc, hPc⟩ : ∃ Pv : Nat → List V → L2.St → Hp → Prop, Pv = fun (i : Nat) acc τ H' => ∃ (o0 o1 : Option V), Same H1 H' ∧ acc = (List.replicate i true).map V.bl ∧ τ = [o0, o1] := ⟨_, rfl⟩
    refine Kp hR (xs := xs1) (ys := xs2) (aZ z1) (by omega) Pc (by rw [hPc]; exact ⟨_, _, Same.refl _, rfl, rfl⟩) ?_ ?_ ?_ ?_
    ·intro i acc τ H2 pc
     rw [hPc] at pc
     obtain ⟨_, _, _, rfl, _⟩ := pc
     simp
    ·intro i acc τ H2 pc
     rw [hPc] at pc
     obtain ⟨_, _, s2, _, _⟩ := pc
     exact ⟨s2 _ _ e1, s2 _ _ e2⟩
    ·intro i x y acc τ H2 r hx hy pc hr2
     rw [hPc] at pc
     obtain ⟨o0, o1, s2, rfl, rfl⟩ := pc
     obtain ⟨dx, hdx, tx⟩ := ts1.get hx
     obtain ⟨dy, hdy, ty⟩ := ts2.get hy
     rw [hdx] at hdy
     cases hdy
     have s3 := au (o := HO.tup [x, y]) hr2
     have s13 := (s1.trans s2).trans s3
     simp only [rd0, rd1, rd2, rd3, rd4, rd5, rd6, rd7, rd8, rd9, reduceIte, reduceCtorEq, Nat.reduceAdd, Nat.reduceSub]
     refine ⟨x, y, ok, dx, rfl, tx.same s13, ty.same s13, by have := (qH (List.mem_of_getElem? hdx)).1; omega, fun H4 s4 => ?_⟩
     rw [hPc]
     refine ⟨_, _, (s2.trans s3).trans s4, ?_, rfl⟩
     rw [List.replicate_succ', List.map_append]
     rfl
    ·intro acc τ H2 d2 pc hd2
     rw [hPc] at pc
     obtain ⟨o0, o1, s2, rfl, rfl⟩ := pc
     have s3 := s1.trans (s2.trans (au (o := HO.lst ((List.replicate xs1.length true).map V.bl)) hd2))
     have e3 : upd H2 d2 (HO.lst ((List.replicate xs1.length true).map V.bl)) d2 = _ := aD
     generalize upd H2 d2 (HO.lst ((List.replicate xs1.length true).map V.bl)) = H3 at s3 e3 ⊢
     simp only [rd0, rd1, rd2, rd3, rd4, rd5, rd6, rd7, rd8, rd9, reduceIte, reduceCtorEq, Nat.reduceAdd, Nat.reduceSub, e3]
     refine ⟨_, rfl, ?_⟩
     rw [show (List.replicate xs1.length true).all id = true by simp]
     exact q _ s3
  | tup o1 e1 z1 ts1 =>
   rename_i p1 xs1 ds
   cases ty with
   | tup o2 e2 z2 ts2 =>
    rename_i p2 xs2
    have l1 := ts1.length
    have l2 := ts2.length
    simp only [rd0, rd1, rd2, rd3, rd4, rd5, rd6, rd7, rd8, rd9, reduceIte, reduceCtorEq, Nat.reduceAdd, Nat.reduceSub, e1, e2]
    refine ⟨aZ (by decide), fun t ht => ?_⟩
    have s1 := au (o := HO.tup [V.ty "list", V.ty "tuple"]) ht
    have e1 := s1 _ _ e1
    have e2 := s1 _ _ e2
    generalize upd H t (HO.tup [V.ty "list", V.ty "tuple"]) = H1 at s1 e1 e2 ⊢
    simp only [rd0, rd1, rd2, rd3, rd4, rd5, rd6, rd7, rd8, rd9, reduceIte, reduceCtorEq, Nat.reduceAdd, Nat.reduceSub, e1, e2]
    rw [decide_eq_true (show (xs1.length : Int) = (xs2.length : Int) by omega), Bool.not_true, if_neg (by decide)]
    refine jE fun R hR => ?_
    simp only [rd0, rd1, rd2, rd3, rd4, rd5, rd6, rd7, rd8, rd9, reduceIte, reduceCtorEq, Nat.reduceAdd, Nat.reduceSub, e1, e2]
    obtain ⟨Pc, hPc⟩ : ∃ Pv : Nat → List V → L2.St → Hp → Prop, Pv = fun (i : Nat) acc τ H' => ∃ (o0 o1 : Option V), Same H1 H' ∧ acc = (List.replicate i true).map V.bl ∧ τ = [o0, o1] := ⟨_, rfl⟩
    refine Ko hR (xs := xs1) (ys := xs2) (aZ z1) (by omega) Pc (by rw [hPc]; exact ⟨_, _, Same.refl _, rfl, rfl⟩) ?_ ?_ ?_ ?_
    ·intro i acc τ H2 pc
     rw [hPc] at pc
     obtain ⟨_, _, _, rfl, _⟩ := pc
     simp
    ·intro i acc τ H2 pc
     rw [hPc] at pc
     obtain ⟨_, _, s2, _, _⟩ := pc
     exact ⟨s2 _ _ e1, s2 _ _ e2⟩
    ·intro i x y acc τ H2 r hx hy pc hr2
     rw [hPc] at pc
     obtain ⟨o0, o1, s2, rfl, rfl⟩ := pc
     obtain ⟨dx, hdx, tx⟩ := ts1.get hx
     obtain ⟨dy, hdy, ty⟩ := ts2.get hy
     rw [hdx] at hdy
     cases hdy
     have s3 := au (o := HO.tup [x, y]) hr2
     have s13 := (s1.trans s2).trans s3
     simp only [rd0, rd1, rd2, rd3, rd4, rd5, rd6, rd7, rd8, rd9, reduceIte, reduceCtorEq, Nat.reduceAdd, Nat.reduceSub]
     refine ⟨x, y, ok, dx, rfl, tx.same s13, ty.same s13, by have := (qH (List.mem_of_getElem? hdx)).2; omega, fun H4 s4 => ?_⟩
     rw [hPc]
     refine ⟨_, _, (s2.trans s3).trans s4, ?_, rfl⟩
     rw [List.replicate_succ', List.map_append]
     rfl
    ·intro acc τ H2 d2 pc hd2
     rw [hPc] at pc
     obtain ⟨o0, o1, s2, rfl, rfl⟩ := pc
     have s3 := s1.trans (s2.trans (au (o := HO.lst ((List.replicate xs1.length true).map V.bl)) hd2))
     have e3 : upd H2 d2 (HO.lst ((List.replicate xs1.length true).map V.bl)) d2 = _ := aD
     generalize upd H2 d2 (HO.lst ((List.replicate xs1.length true).map V.bl)) = H3 at s3 e3 ⊢
     simp only [rd0, rd1, rd2, rd3, rd4, rd5, rd6, rd7, rd8, rd9, reduceIte, reduceCtorEq, Nat.reduceAdd, Nat.reduceSub, e3]
     refine ⟨_, rfl, ?_⟩
     rw [show (List.replicate xs1.length true).all id = true by simp]
     exact q _ s3
theorem same_none : dg P w K mg base CX0 0 f fd ["_law_found", "_law_due"] (kj 0) := by
 have no : ∀ vs H Q E, ¬ kj 0 vs H Q E := fun vs H Q E h => by
  obtain ⟨x, y, ok, d, _, _, _, h1, _⟩ := h
  omega
 exact ⟨fun vs H Q E h => absurd h (no vs H Q E), fun A outer s H args us vs Q E _ _ _ _ h => absurd h (no vs H Q E)⟩
abbrev iy : Stmt := top 10
theorem qZ : bJ ["_law_tape_here", "_law_great", "_law_width"] ["_law_tape_here"] (ak iy) := ⟨rfl, rfl, rfl, by decide +kernel, rfl, by decide +kernel, by decide +kernel⟩
theorem DR : Nm ["_law_tape_here", "_law_great", "_law_width"] (ak iy) 1 "_law_great" := .of (by decide +kernel)
theorem DQ : Nm ["_law_tape_here", "_law_great", "_law_width"] (ak iy) 2 "_law_width" := .of (by decide +kernel)
theorem Kv : Bn "_law_kind" := ⟨by decide +kernel, by decide +kernel⟩
abbrev gU : Stmt := top 11
theorem Ck : bJ ["_law_width", "_law_sign"] ["_law_width", "_law_sign"] (ak gU) := ⟨rfl, rfl, rfl, by decide +kernel, rfl, by decide +kernel, by decide +kernel⟩
theorem oU : Bn "_law_least" := ⟨by decide +kernel, by decide +kernel⟩
abbrev fL : Stmt := top 14
theorem lZ : bJ ["_law_tape_here", "_law_width", "_law_sign", "_law_other", "_law_least_here", "_law_many", "_law_way", "_law_far"] ["_law_tape_here", "_law_width", "_law_sign", "_law_other"] (ak fL) := ⟨rfl, rfl, rfl, by decide +kernel, rfl, by decide +kernel, by decide +kernel⟩
theorem qK : Bn "_law_number" := ⟨by decide +kernel, by decide +kernel⟩
theorem Jp (hB : ∀ x : Str, x ∈ BLs → mg x = none) (CZTake : Cal P w K mg base "_law_take" 2 ["_law_tape_here", "_law_many"] (dN 2)) (F : Fun K "_law_kind" "_law_kind" iy f fd) : dg P w K mg base CX0 3 f fd ["_law_tape_here"] BL := by
 refine F.okq qZ (fun vs H Q E h => ?_) (fun cdv A outer s H vs Q E hr h => ?_)
 ·obtain ⟨p, B, rfl, _⟩ := h
  rfl
 ·obtain ⟨p, B, rfl, tp, hB0, hB1, q⟩ := h
  refine ⟨_, (aA (bQ DR qZ.nd (fQ (bM hr.bw) (bC CZTake (hr.mono (by decide)) rfl bV (aj (aG 0) (aj ao aq))) ao (aP _)))
   (aA (bQ DQ qZ.nd (lg (jw (aG 1)) (aF bh ao (bC CZTake (hr.mono (by decide)) rfl bV (aj (aG 0) (aj ao aq)))) (aF bh ao (bC CZTake (hr.mono (by decide)) rfl bV (aj (aG 0) (aj ao aq))))))
   (aN (aQ (cQ (aj (aG 2) (aj (bC CZTake (hr.mono (by decide)) rfl bV (aj (aG 0) (aj ao aq))) aq))))))), ?_⟩
  have fin : ∀ (gr : Bool) (w : Int) (H1 : Hp), 1 ≤ w → w ≤ 40 → bN p H H1 → bx H1 p (B + 4) →
    yV (GJ (gR (jc 2) (gR (kh (dN 2) [] E0 (gR (jc 0) (gR (tC (V.int 2)) qR))) qR))) { nx := fun x H' => Q V.non H', rt := Q } [some (.ref p), some (.bl gr), some (.int w)] H1 := by
   intro gr w H1 h1 h2 s1 t1
   simp only [rd0, rd1, rd2, rd3, rd4, rd5, rd6, rd7, rd8, rd9, reduceIte, reduceCtorEq, Nat.reduceAdd, Nat.reduceSub]
   refine ⟨p, 2, B + 4, rfl, t1, by show B + 4 + 2 ≤ 1000100; omega, by decide, by decide, by decide, fun z => absurd z (by decide), fun r H2 r0 r1 s2 t2 => ?_⟩
   simp only [rd0, rd1, rd2, rd3, rd4, rd5, rd6, rd7, rd8, rd9, reduceIte, reduceCtorEq, Nat.reduceAdd, Nat.reduceSub]
   refine ⟨aZ (by decide), fun t ht => q w r t _ h1 h2 (by omega) ((s1.trans s2).trans (au ht).x) ((t2.same (au ht)).le (by show B + 4 + 2 ≤ B + 10; omega)) aD⟩
  refine aY fun k hk => ?_
  simp only [rd0, rd1, rd2, rd3, rd4, rd5, rd6, rd7, rd8, rd9, reduceIte, reduceCtorEq, Nat.reduceAdd, Nat.reduceSub]
  refine ⟨p, 8, B, rfl, tp, by show B + 2 ≤ 1000100; omega, by decide, by decide, by decide, fun z => absurd z (by decide), fun r1 H1 r10 r11 s1 t1 => ?_⟩
  simp only [rd0, rd1, rd2, rd3, rd4, rd5, rd6, rd7, rd8, rd9, reduceIte, reduceCtorEq, Nat.reduceAdd, Nat.reduceSub]
  subst hk
  refine aY fun k hk => ?_
  simp only [rd0, rd1, rd2, rd3, rd4, rd5, rd6, rd7, rd8, rd9, reduceIte, reduceCtorEq, Nat.reduceAdd, Nat.reduceSub]
  have u1 : bx H1 p (B + 2) := t1
  split
  ·refine ⟨p, 33, B + 2, rfl, u1, by show B + 2 + 2 ≤ 1000100; omega, by decide, by decide, by decide, fun z => absurd z (by decide), fun r2 H2 r20 r21 s2 t2 => ?_⟩
   simp only [rd0, rd1, rd2, rd3, rd4, rd5, rd6, rd7, rd8, rd9, reduceIte, reduceCtorEq, Nat.reduceAdd, Nat.reduceSub]
   subst hk
   exact fin _ _ _ (by omega) (by omega) (s1.trans s2) (t2.le (by show B + 2 + 2 ≤ B + 4; omega))
  ·refine ⟨p, 7, B + 2, rfl, u1, by show B + 2 + 2 ≤ 1000100; omega, by decide, by decide, by decide, fun z => absurd z (by decide), fun r2 H2 r20 r21 s2 t2 => ?_⟩
   simp only [rd0, rd1, rd2, rd3, rd4, rd5, rd6, rd7, rd8, rd9, reduceIte, reduceCtorEq, Nat.reduceAdd, Nat.reduceSub]
   subst hk
   exact fin _ _ _ (by omega) (by omega) (s1.trans s2) (t2.le (by show B + 2 + 2 ≤ B + 4; omega))
theorem Du (F : Fun K "_law_least" "_law_least" gU f fd) : dg P w K mg base CX0 1 f fd ["_law_width", "_law_sign"] kE := by
 refine F.okq Ck (fun vs H Q E h => ?_) (fun cdv A outer s H vs Q E hr h => ?_)
 ·obtain ⟨w, s, rfl, _⟩ := h
  rfl
 ·obtain ⟨w, s, rfl, h1, h2, hs, q⟩ := h
  refine ⟨_, (aN (aQ (aF dh ao (aF eF (aF cM ao (aF dh (aG 0) ao)) (aG 1))))), ?_⟩
  unfold wl at q
  simp only [rd0, rd1, rd2, rd3, rd4, rd5, rd6, rd7, rd8, rd9, reduceIte, reduceCtorEq, Nat.reduceAdd, Nat.reduceSub]
  refine ⟨⟨by omega, by omega, by decide⟩, .inr (by omega), ?_⟩
  rw [Int.one_mul]
  exact q
theorem Ni (hB : ∀ x : Str, x ∈ BLs → mg x = none) (CZTake : Cal P w K mg base "_law_take" 2 ["_law_tape_here", "_law_many"] (dN 2)) (CZLeast : Cal P w K mg base "_law_least" 1 ["_law_width", "_law_sign"] kE) (F : Fun K "_law_number" "_law_number" fL f fd) : dg P w K mg base CX0 3 f fd ["_law_tape_here", "_law_width", "_law_sign", "_law_other"] KZ := by
 refine F.okq lZ (fun vs H Q E h => ?_) (fun cdv A outer s H vs Q E hr h => ?_)
 ·obtain ⟨p, w, s, o, B, rfl, _⟩ := h
  rfl
 ·obtain ⟨p, w, s, o, B, rfl, tp, hB0, hB1, hw1, hw2, hs, q⟩ := h
  refine ⟨_, (aA (vR (i := 4) (j := 5) rfl lZ.nd rfl rfl (by decide) rfl rfl (aj (bC CZLeast (hr.mono (by decide)) rfl oU (aj (aG 1) (aj (aG 2) aq))) (aj (aF cM ao (aG 1)) aq)) (by rfl))
   (aA (vR (i := 6) (j := 7) rfl lZ.nd rfl rfl (by decide) rfl rfl (aj (bC CZTake (hr.mono (by decide)) rfl bV (aj (aG 0) (aj ao aq))) (aj (bC CZTake (hr.mono (by decide)) rfl bV (aj (aG 0) (aj (cB (mL rfl) rfl (hB "min" wk) boot_min wK (aj (aG 5) (aj ao aq))) aq))) aq)) (by rfl))
   (aA (cI (aW (bM hr.bw) (aG 6) ao (aP _)) (aN (aQ (aF bh (aG 4) (aG 7)))) bO)
   (aA (cI (aW (bM hr.bw) (aG 6) ao (aP _)) (aN (aQ (aF dh (aF dh (aF bh (aG 4) (aG 5)) ao) (aG 7)))) bO)
   (aA (cI (uo (rJ (aW (bM hr.bw) (aG 6) ao (aP _)) (rH (uq xU jm (aG 4) (aF bh (aG 3) (aG 7)) (aF bh (aG 4) (aG 5)))))) (aN (aQ (aF bh (aG 3) (aG 7)))) bO)
   (aN (aQ (aF bh (aG 4) (bC CZTake (hr.mono (by decide)) rfl bV (aj (aG 0) (aj (aG 5) aq))))))))))), ?_⟩
  have p1 := two_pow_pos w.toNat
  have p2 := dW (k := w.toNat) (by omega)
  have p3 : (2 : Int) ≤ 2 ^ w.toNat := by
   have e := iT hw1
   have := two_pow_pos (w - 1).toNat
   omega
  have b1 := iG hw1 hw2 hs
  refine aY fun k hk => ?_
  simp only [rd0, rd1, rd2, rd3, rd4, rd5, rd6, rd7, rd8, rd9, reduceIte, reduceCtorEq, Nat.reduceAdd, Nat.reduceSub]
  refine ⟨w, s, rfl, hw1, hw2, hs, ?_⟩
  simp only [rd0, rd1, rd2, rd3, rd4, rd5, rd6, rd7, rd8, rd9, reduceIte, reduceCtorEq, Nat.reduceAdd, Nat.reduceSub]
  refine ⟨⟨by omega, by omega, by decide⟩, ?_⟩
  subst hk
  rw [Int.one_mul]
  refine aY fun k hk => ?_
  simp only [rd0, rd1, rd2, rd3, rd4, rd5, rd6, rd7, rd8, rd9, reduceIte, reduceCtorEq, Nat.reduceAdd, Nat.reduceSub]
  refine ⟨p, 5, B, rfl, tp, by show B + 2 ≤ 1000100; omega, by decide, by decide, by decide, fun z => absurd z (by decide), fun r1 H1 r10 r11 s1 t1 => ?_⟩
  simp only [rd0, rd1, rd2, rd3, rd4, rd5, rd6, rd7, rd8, rd9, reduceIte, reduceCtorEq, Nat.reduceAdd, Nat.reduceSub]
  have m6 : (0 : Int) < (if (6 : Int) < (2 : Int) ^ w.toNat then (6 : Int) else (2 : Int) ^ w.toNat) ∧ (if (6 : Int) < (2 : Int) ^ w.toNat then (6 : Int) else (2 : Int) ^ w.toNat) ≤ (2 : Int) ^ w.toNat := by
   split <;> omega
  refine ⟨p, (if (6 : Int) < (2 : Int) ^ w.toNat then (6 : Int) else (2 : Int) ^ w.toNat), B + 2, rfl, t1, by show B + 2 + 2 ≤ 1000100; omega, m6.1, by omega, by decide, fun _ => by decide, fun r2 H2 r20 r21 s2 t2 => ?_⟩
  simp only [rd0, rd1, rd2, rd3, rd4, rd5, rd6, rd7, rd8, rd9, reduceIte, reduceCtorEq, Nat.reduceAdd, Nat.reduceSub]
  subst hk
  have s12 := s1.trans s2
  have t12 : bx H2 p (B + 10) := t2.le (by show B + 2 + 2 ≤ B + 10; omega)
  have fin : yV (tOp um (jc 4) (kh (dN 2) [] E0 (gR (jc 0) (gR (jc 5) qR)))) { nx := fun x H' => Q V.non H', rt := Q } [some (.ref p), some (.int w), some (.int s), some (.int o), some (.int (wl w s)), some (.int (2 ^ w.toNat)), some (.int r1), some (.int r2)] H2 := by
   simp only [rd0, rd1, rd2, rd3, rd4, rd5, rd6, rd7, rd8, rd9, reduceIte, reduceCtorEq, Nat.reduceAdd, Nat.reduceSub]
   refine ⟨p, 2 ^ w.toNat, B + 2 + 2, rfl, t2, by show B + 2 + 2 + 2 ≤ 1000100; omega, p1, by omega, by decide, fun _ => by decide, fun r3 H3 r30 r31 s3 t3 => ?_⟩
   simp only [rd0, rd1, rd2, rd3, rd4, rd5, rd6, rd7, rd8, rd9, reduceIte, reduceCtorEq, Nat.reduceAdd, Nat.reduceSub]
   exact q _ _ (by omega) (by omega) (s12.trans s3) (t3.le (by show B + 2 + 2 + 2 ≤ B + 10; omega))
  refine aY fun k hk => ?_
  simp only [rd0, rd1, rd2, rd3, rd4, rd5, rd6, rd7, rd8, rd9, reduceIte, reduceCtorEq, Nat.reduceAdd, Nat.reduceSub]
  split
  ·exact q _ _ (by omega) (by omega) s12 t12
  subst hk
  refine aY fun k hk => ?_
  simp only [rd0, rd1, rd2, rd3, rd4, rd5, rd6, rd7, rd8, rd9, reduceIte, reduceCtorEq, Nat.reduceAdd, Nat.reduceSub]
  split
  ·exact q _ _ (by omega) (by omega) s12 t12
  subst hk
  refine aY fun k hk => ?_
  simp only [rd0, rd1, rd2, rd3, rd4, rd5, rd6, rd7, rd8, rd9, reduceIte, reduceCtorEq, Nat.reduceAdd, Nat.reduceSub]
  split
  ·split
   ·split
    ·exact q _ _ (by omega) (by omega) s12 t12
    ·subst hk
     exact fin
   ·subst hk
    exact fin
  ·subst hk
   exact fin
abbrev iw : Stmt := top 15
theorem kO : bJ ["_law_tape_here", "_law_width", "_law_way", "_law_top", "_law_mask_here", "_law_turn"] ["_law_tape_here", "_law_width"] (ak iw) := ⟨rfl, rfl, rfl, by decide +kernel, rfl, by decide +kernel, by decide +kernel⟩
theorem uJ : Nm ["_law_tape_here", "_law_width", "_law_way", "_law_top", "_law_mask_here", "_law_turn"] (ak iw) 4 "_law_mask_here" := .of (by decide +kernel)
theorem DP : Nm ["_law_tape_here", "_law_width", "_law_way", "_law_top", "_law_mask_here", "_law_turn"] (ak iw) 5 "_law_turn" := .of (by decide +kernel)
theorem Ku : Bn "_law_mask" := ⟨by decide +kernel, by decide +kernel⟩
abbrev eZ : Stmt := top 16
theorem jJ : bJ ["_law_tape_here", "_law_width", "_law_sign", "_law_other", "_law_way", "_law_one", "_law_two", "_law_mask_here", "_law_value"] ["_law_tape_here", "_law_width", "_law_sign", "_law_other"] (ak eZ) := ⟨rfl, rfl, rfl, by decide +kernel, rfl, by decide +kernel, by decide +kernel⟩
theorem Eb : Nm ["_law_tape_here", "_law_width", "_law_sign", "_law_other", "_law_way", "_law_one", "_law_two", "_law_mask_here", "_law_value"] (ak eZ) 4 "_law_way" := .of (by decide +kernel)
theorem Ea : Nm ["_law_tape_here", "_law_width", "_law_sign", "_law_other", "_law_way", "_law_one", "_law_two", "_law_mask_here", "_law_value"] (ak eZ) 5 "_law_one" := .of (by decide +kernel)
theorem DY : Nm ["_law_tape_here", "_law_width", "_law_sign", "_law_other", "_law_way", "_law_one", "_law_two", "_law_mask_here", "_law_value"] (ak eZ) 6 "_law_two" := .of (by decide +kernel)
theorem DX : Nm ["_law_tape_here", "_law_width", "_law_sign", "_law_other", "_law_way", "_law_one", "_law_two", "_law_mask_here", "_law_value"] (ak eZ) 7 "_law_mask_here" := .of (by decide +kernel)
theorem DW : Nm ["_law_tape_here", "_law_width", "_law_sign", "_law_other", "_law_way", "_law_one", "_law_two", "_law_mask_here", "_law_value"] (ak eZ) 8 "_law_value" := .of (by decide +kernel)
theorem Kw : Bn "_law_item" := ⟨by decide +kernel, by decide +kernel⟩
theorem xW (hB : ∀ x : Str, x ∈ BLs → mg x = none) (CZTake : Cal P w K mg base "_law_take" 2 ["_law_tape_here", "_law_many"] (dN 2)) (F : Fun K "_law_mask" "_law_mask" iw f fd) : dg P w K mg base CX0 3 f fd ["_law_tape_here", "_law_width"] BK := by
 refine F.okq kO (fun vs H Q E h => ?_) (fun cdv A outer s H vs Q E hr h => ?_)
 ·obtain ⟨p, w, B, rfl, _⟩ := h
  rfl
 ·obtain ⟨p, w, B, rfl, tp, hB0, hB1, hw1, hw2, q⟩ := h
  refine ⟨_, (aA (cI (aW jm (aG 1) ao (aP _)) (aN (aQ (bC CZTake (hr.mono (by decide)) rfl bV (aj (aG 0) (aj (aF cM ao (aG 1)) aq))))) bO)
   (aA (vR (i := 2) (j := 3) rfl kO.nd rfl rfl (by decide) rfl rfl (aj (bC CZTake (hr.mono (by decide)) rfl bV (aj (aG 0) (aj ao aq))) (aj (aF bh ao (bC CZTake (hr.mono (by decide)) rfl bV (aj (aG 0) (aj ao aq)))) aq)) (by rfl))
   (aA (cI (aW (bM hr.bw) (aG 2) ao (aP _)) (aN (aQ (aF cM (bC CZTake (hr.mono (by decide)) rfl bV (aj (aG 0) (aj ao aq))) (aF dh (aG 1) ao)))) bO)
   (aA (bQ uJ kO.nd (lg (aW (bM hr.bw) (aG 2) ao (aP _)) (aF cM (aF dh (aF cM ao (aG 3)) ao) (aF dh (aG 1) (aG 3))) (aF dh (aF cM ao (aG 1)) ao)))
   (aA (fu PassesOwn.never rfl (dU rfl (hB "range" eN) (aj (bC CZTake (hr.mono (by decide)) rfl bV (aj (aG 0) (aj ao aq))) aq)) (cj DP kO.nd)
   (aN (bQ uJ kO.nd (aF dh (aG 4) (aF jx (aG 4) (aF cM ao (bC CZTake (hr.mono (by decide)) rfl bV (aj (aG 0) (aj (aG 1) aq)))))))))
   (aN (aQ (aG 4)))))))), ?_⟩
  have p1 := two_pow_pos w.toNat
  have p2 := dW (k := w.toNat) (by omega)
  refine aY fun k hk => ?_
  simp only [rd0, rd1, rd2, rd3, rd4, rd5, rd6, rd7, rd8, rd9, reduceIte, reduceCtorEq, Nat.reduceAdd, Nat.reduceSub, Int.one_mul]
  split
  ·rename_i c
   refine ⟨⟨by omega, by omega, by decide⟩, p, 2 ^ w.toNat, B, rfl, tp, by show B + 2 ≤ 1000100; omega, p1, by omega, by decide, fun _ => by decide, fun r H1 r0 r1 s1 t1 => ?_⟩
   obtain ⟨n, rfl⟩ := Int.eq_ofNat_of_zero_le r0
   exact q n H1 (En r1) (fun z => by omega) s1 (t1.le (by show B + 2 ≤ B + 20; omega))
  rename_i c
  subst hk
  refine aY fun k hk => ?_
  simp only [rd0, rd1, rd2, rd3, rd4, rd5, rd6, rd7, rd8, rd9, reduceIte, reduceCtorEq, Nat.reduceAdd, Nat.reduceSub]
  refine ⟨p, 3, B, rfl, tp, by show B + 2 ≤ 1000100; omega, by decide, by decide, by decide, fun z => absurd z (by decide), fun r1 H1 r10 r11 s1 t1 => ?_⟩
  simp only [rd0, rd1, rd2, rd3, rd4, rd5, rd6, rd7, rd8, rd9, reduceIte, reduceCtorEq, Nat.reduceAdd, Nat.reduceSub]
  refine ⟨p, 4, B + 2, rfl, t1, by show B + 2 + 2 ≤ 1000100; omega, by decide, by decide, by decide, fun z => absurd z (by decide), fun r2 H2 r20 r21 s2 t2 => ?_⟩
  simp only [rd0, rd1, rd2, rd3, rd4, rd5, rd6, rd7, rd8, rd9, reduceIte, reduceCtorEq, Nat.reduceAdd, Nat.reduceSub]
  subst hk
  have s12 := s1.trans s2
  refine aY fun k hk => ?_
  simp only [rd0, rd1, rd2, rd3, rd4, rd5, rd6, rd7, rd8, rd9, reduceIte, reduceCtorEq, Nat.reduceAdd, Nat.reduceSub]
  split
  ·refine ⟨p, 16, B + 2 + 2, rfl, t2, by show B + 2 + 2 + 2 ≤ 1000100; omega, by decide, by decide, by decide, fun z => absurd z (by decide), fun r3 H3 r30 r31 s3 t3 => ?_⟩
   obtain ⟨n, rfl⟩ := Int.eq_ofNat_of_zero_le r30
   simp only [rd0, rd1, rd2, rd3, rd4, rd5, rd6, rd7, rd8, rd9, reduceIte, reduceCtorEq, Nat.reduceAdd, Nat.reduceSub]
   refine ⟨⟨by omega, by omega, by omega⟩, ?_⟩
   obtain ⟨m, e, hm⟩ := Jz (W := w.toNat) (r := n) (by omega) (by omega)
   rw [show (w - 4).toNat = w.toNat - 4 by omega, e]
   exact q m H3 hm.1 (fun _ => hm.frees) (s12.trans s3) (t3.le (by show B + 2 + 2 + 2 ≤ B + 20; omega))
  subst hk
  have go : ∀ (b m : Nat), nA w.toNat b m 0 → Bj
     (GQ (jA (gR (kh (dN 2) [] E0 (gR (jc 0) (gR (tC (V.int 4)) qR))) qR)) (iV 5)
      (oZ (tOp (rI0 fun i j => V.int (i - j)) (jc 4)
        (tOp (rI0 fun i j => V.int (Builtin.bitAnd i j)) (jc 4)
         (tOp (rI KQ fun i j => V.int (i * 2 ^ j.toNat)) (tC (V.int 1))
          (kh (dN 2) [] E0 (gR (jc 0) (gR (jc 1) qR)))))) (iV 4)))
     (yV (jc 4)) { nx := fun x H' => Q V.non H', rt := Q } [some (V.ref p), some (V.int w), some (V.int r1), some (V.int (5 + r2)), some (V.int m), none] H2 := by
   intro b m hm
   refine aY fun k hk => ?_
   refine iW fun R hR => ?_
   simp only [rd0, rd1, rd2, rd3, rd4, rd5, rd6, rd7, rd8, rd9, reduceIte, reduceCtorEq, Nat.reduceAdd, Nat.reduceSub, jA]
   refine ⟨p, 4, B + 2 + 2, rfl, t2, by show B + 2 + 2 + 2 ≤ 1000100; omega, by decide, by decide, by decide, fun z => absurd z (by decide), fun r3 H3 r30 r31 s3 t3 => ?_⟩
   simp only [rd0, rd1, rd2, rd3, rd4, rd5, rd6, rd7, rd8, rd9, reduceIte, reduceCtorEq, Nat.reduceAdd, Nat.reduceSub]
   have u3 : bx H3 p (B + 6) := t3.le (by show B + 2 + 2 + 2 ≤ B + 6; omega)
   obtain ⟨Pv, hPv⟩ : ∃ Pv : Nat → L2.St → Hp → Prop, Pv = fun (i : Nat) σ H' => ∃ (m : Nat) (o5 : Option V), bN p H H' ∧ bx H' p (B + 6 + 2 * (i : Int)) ∧ nA w.toNat b m i ∧ σ = [some (V.ref p), some (V.int w), some (V.int r1), some (V.int (5 + r2)), some (V.int m), o5] := ⟨_, rfl⟩
   refine ⟨by omega, by omega, qF hR Pv (by rw [hPv]; exact ⟨m, none, s12.trans s3, by simpa using u3, hm, rfl⟩) ?_ ?_⟩
   ·intro i σ H4 hi pv
    rw [hPv] at pv
    obtain ⟨m4, o5, s4, t4, hm4, rfl⟩ := pv
    simp only [rd0, rd1, rd2, rd3, rd4, rd5, rd6, rd7, rd8, rd9, reduceIte, reduceCtorEq, Nat.reduceAdd, Nat.reduceSub]
    refine ⟨p, w, B + 6 + 2 * (i : Int), rfl, t4, by show B + 6 + 2 * (i : Int) + 2 ≤ 1000100; omega, by omega, by omega, by decide, fun _ => by decide, fun r5 H5 r50 r51 s5 t5 => ?_⟩
    simp only [rd0, rd1, rd2, rd3, rd4, rd5, rd6, rd7, rd8, rd9, reduceIte, reduceCtorEq, Nat.reduceAdd, Nat.reduceSub, Int.one_mul]
    obtain ⟨m5, e5, hm5⟩ := Nq hm4 r5.toNat
    refine ⟨⟨by omega, by omega, by decide⟩, ?_⟩
    rw [e5, hPv]
    exact ⟨m5, _, s4.trans s5, t5.le (by show B + 6 + 2 * (i : Int) + 2 ≤ B + 6 + 2 * ((i + 1 : Nat) : Int); omega), hm5, rfl⟩
   ·intro σ H4 pv
    rw [hPv] at pv
    obtain ⟨m4, o5, s4, t4, hm4, rfl⟩ := pv
    show k _ _
    subst hk
    simp only [rd0, rd1, rd2, rd3, rd4, rd5, rd6, rd7, rd8, rd9, reduceIte, reduceCtorEq, Nat.reduceAdd, Nat.reduceSub]
    have hm9 := hm4.le (j := 4) (by omega)
    exact q m4 H4 hm9.1 (fun _ => hm9.frees) s4 (t4.le (by omega))
  refine aY fun k hk => ?_
  simp only [rd0, rd1, rd2, rd3, rd4, rd5, rd6, rd7, rd8, rd9, reduceIte, reduceCtorEq, Nat.reduceAdd, Nat.reduceSub, Int.one_mul]
  split
  ·refine ⟨⟨by omega, by omega, by decide⟩, ⟨by omega, by omega, ?_⟩, ?_⟩
   ·have a1 := dW (k := (5 + r2).toNat) (by omega)
    have a2 := two_pow_pos (5 + r2).toNat
    omega
   obtain ⟨m, e, hm⟩ := Np (W := w.toNat) (T := (5 + r2).toNat) (by omega)
   rw [show (w - (5 + r2)).toNat = w.toNat - (5 + r2).toNat by omega, e]
   subst hk
   exact go _ m hm
  ·refine ⟨⟨by omega, by omega, by decide⟩, ?_⟩
   obtain ⟨m, e, hm⟩ := Nr w.toNat
   rw [e]
   subst hk
   exact go _ m hm
theorem Jq (hB : ∀ x : Str, x ∈ BLs → mg x = none) (CZTake : Cal P w K mg base "_law_take" 2 ["_law_tape_here", "_law_many"] (dN 2)) (CZNumber : Cal P w K mg base "_law_number" 3 ["_law_tape_here", "_law_width", "_law_sign", "_law_other"] KZ) (CZMask : Cal P w K mg base "_law_mask" 3 ["_law_tape_here", "_law_width"] BK) (F : Fun K "_law_item" "_law_item" eZ f fd) : dg P w K mg base CX0 4 f fd ["_law_tape_here", "_law_width", "_law_sign", "_law_other"] BP := by
 refine F.okq jJ (fun vs H Q E h => ?_) (fun cdv A outer s H vs Q E hr h => ?_)
 ·obtain ⟨p, w, s, o, B, rfl, _⟩ := h
  rfl
 ·obtain ⟨p, w, s, o, B, rfl, tp, hB0, hB1, hw1, hw2, hs, q⟩ := h
  refine ⟨_, (aA (bQ Eb jJ.nd (bC CZTake (hr.mono (by decide)) rfl bV (aj (aG 0) (aj ao aq))))
   (aA (bQ Ea jJ.nd (bC CZNumber (hr.mono (by decide)) rfl qK (aj (aG 0) (aj (aG 1) (aj (aG 2) (aj (aG 3) aq))))))
   (aA (cI (aW jm (aG 4) ao (aP _)) (aN (aQ (cQ (aj b8 (aj (aG 5) aq))))) bO)
   (aA (bQ DY jJ.nd (bC CZNumber (hr.mono (by decide)) rfl qK (aj (aG 0) (aj (aG 1) (aj (aG 2) (aj (aG 5) aq))))))
   (aA (cI (aW jm (aG 4) ao (aP _)) (aN (aQ (cQ (aj b8 (aj (cB (mL rfl) rfl (hB "min" wk) boot_min wK (aj (aG 5) (aj (aG 6) aq))) (aj (cB (Ae rfl) rfl (hB "max" Ny) boot_max Oq (aj (aG 5) (aj (aG 6) aq))) aq)))))) bO)
   (aA (bQ DX jJ.nd (bC CZMask (hr.mono (by decide)) rfl Ku (aj (aG 0) (aj (aG 1) aq))))
   (aA (bQ DW jJ.nd (bC CZTake (hr.mono (by decide)) rfl bV (aj (aG 0) (aj (aF cM ao (aG 1)) aq))))
   (aN (aQ (cQ (aj b8 (aj (aG 7) (aj (lg (aW Dt (bC CZTake (hr.mono (by decide)) rfl bV (aj (aG 0) (aj ao aq))) ao (aP _)) (aF jx (aG 8) (aG 7)) (aG 8)) aq))))))))))))), ?_⟩
  have p1 := two_pow_pos w.toNat
  have p2 := dW (k := w.toNat) (by omega)
  refine aY fun k hk => ?_
  simp only [rd0, rd1, rd2, rd3, rd4, rd5, rd6, rd7, rd8, rd9, reduceIte, reduceCtorEq, Nat.reduceAdd, Nat.reduceSub]
  refine ⟨p, 5, B, rfl, tp, by show B + 2 ≤ 1000100; omega, by decide, by decide, by decide, fun z => absurd z (by decide), fun r1 H1 r10 r11 s1 t1 => ?_⟩
  simp only [rd0, rd1, rd2, rd3, rd4, rd5, rd6, rd7, rd8, rd9, reduceIte, reduceCtorEq, Nat.reduceAdd, Nat.reduceSub]
  subst hk
  refine aY fun k hk => ?_
  simp only [rd0, rd1, rd2, rd3, rd4, rd5, rd6, rd7, rd8, rd9, reduceIte, reduceCtorEq, Nat.reduceAdd, Nat.reduceSub]
  have u1 : bx H1 p (B + 2) := t1
  refine ⟨p, w, s, o, B + 2, rfl, u1, by omega, by omega, hw1, hw2, hs, fun a H2 a0 a1 s2 t2 => ?_⟩
  simp only [rd0, rd1, rd2, rd3, rd4, rd5, rd6, rd7, rd8, rd9, reduceIte, reduceCtorEq, Nat.reduceAdd, Nat.reduceSub]
  subst hk
  have s12 := s1.trans s2
  refine aY fun k hk => ?_
  simp only [rd0, rd1, rd2, rd3, rd4, rd5, rd6, rd7, rd8, rd9, reduceIte, reduceCtorEq, Nat.reduceAdd, Nat.reduceSub]
  split
  ·refine ⟨aZ (by decide), fun t ht => q (.one a) t _ ⟨a0, a1⟩ (s12.trans (au ht).x) ((t2.same (au ht)).le (by omega)) ⟨aD⟩⟩
  subst hk
  refine aY fun k hk => ?_
  simp only [rd0, rd1, rd2, rd3, rd4, rd5, rd6, rd7, rd8, rd9, reduceIte, reduceCtorEq, Nat.reduceAdd, Nat.reduceSub]
  refine ⟨p, w, s, a, B + 2 + 10, rfl, t2, by omega, by omega, hw1, hw2, hs, fun b H3 b0 b1 s3 t3 => ?_⟩
  simp only [rd0, rd1, rd2, rd3, rd4, rd5, rd6, rd7, rd8, rd9, reduceIte, reduceCtorEq, Nat.reduceAdd, Nat.reduceSub]
  subst hk
  have s123 := s12.trans s3
  refine aY fun k hk => ?_
  simp only [rd0, rd1, rd2, rd3, rd4, rd5, rd6, rd7, rd8, rd9, reduceIte, reduceCtorEq, Nat.reduceAdd, Nat.reduceSub]
  split
  ·refine ⟨aZ (by decide), fun t ht => q (.rng (if b < a then b else a) (if b > a then b else a)) t _ ⟨?_, ?_, ?_⟩ (s123.trans (au ht).x) ((t3.same (au ht)).le (by omega)) ⟨aD⟩⟩
   ·unfold dm; split <;> omega
   ·unfold dm; split <;> omega
   ·split <;> split <;> omega
  subst hk
  refine aY fun k hk => ?_
  simp only [rd0, rd1, rd2, rd3, rd4, rd5, rd6, rd7, rd8, rd9, reduceIte, reduceCtorEq, Nat.reduceAdd, Nat.reduceSub]
  refine ⟨p, w, B + 2 + 10 + 10, rfl, t3, by omega, by omega, hw1, hw2, fun m H4 hm hf s4 t4 => ?_⟩
  simp only [rd0, rd1, rd2, rd3, rd4, rd5, rd6, rd7, rd8, rd9, reduceIte, reduceCtorEq, Nat.reduceAdd, Nat.reduceSub]
  subst hk
  refine aY fun k hk => ?_
  simp only [rd0, rd1, rd2, rd3, rd4, rd5, rd6, rd7, rd8, rd9, reduceIte, reduceCtorEq, Nat.reduceAdd, Nat.reduceSub, Int.one_mul]
  refine ⟨⟨by omega, by omega, by decide⟩, p, 2 ^ w.toNat, B + 2 + 10 + 10 + 20, rfl, t4, by show B + 2 + 10 + 10 + 20 + 2 ≤ 1000100; omega, p1, by omega, by decide, fun _ => by decide, fun r5 H5 r50 r51 s5 t5 => ?_⟩
  obtain ⟨v, rfl⟩ := Int.eq_ofNat_of_zero_le r50
  have hv := En r51
  subst hk
  simp only [rd0, rd1, rd2, rd3, rd4, rd5, rd6, rd7, rd8, rd9, reduceIte, reduceCtorEq, Nat.reduceAdd, Nat.reduceSub]
  refine ⟨p, 5, B + 2 + 10 + 10 + 20 + 2, rfl, t5, by show B + 2 + 10 + 10 + 20 + 2 + 2 ≤ 1000100; omega, by decide, by decide, by decide, fun z => absurd z (by decide), fun r6 H6 r60 r61 s6 t6 => ?_⟩
  simp only [rd0, rd1, rd2, rd3, rd4, rd5, rd6, rd7, rd8, rd9, reduceIte, reduceCtorEq, Nat.reduceAdd, Nat.reduceSub]
  have s456 := ((s123.trans s4).trans s5).trans s6
  split
  ·refine ⟨aZ (by decide), fun t ht => ?_⟩
   refine q (.bits m (v &&& m)) t _ ⟨hm, Nat.lt_of_le_of_lt Nat.and_le_right hm, hf⟩ (s456.trans (au ht).x) ((t6.same (au ht)).le (by show B + 2 + 10 + 10 + 20 + 2 + 2 ≤ B + 60; omega)) ⟨?_⟩
   rw [aD, j6]
   rfl
  ·refine ⟨aZ (by decide), fun t ht => ?_⟩
   exact q (.bits m v) t _ ⟨hm, hv, hf⟩ (s456.trans (au ht).x) ((t6.same (au ht)).le (by show B + 2 + 10 + 10 + 20 + 2 + 2 ≤ B + 60; omega)) ⟨aD⟩
abbrev fj : Stmt := top 18
theorem xK : bJ ["_law_width", "_law_mask_here", "_law_places"] ["_law_width", "_law_mask_here"] (ak fj) := ⟨rfl, rfl, rfl, by decide +kernel, rfl, by decide +kernel, by decide +kernel⟩
theorem uK : Nm ["_law_width", "_law_mask_here", "_law_places"] (ak fj) 0 "_law_width" := .of (by decide +kernel)
theorem Ec : Nm ["_law_width", "_law_mask_here", "_law_places"] (ak fj) 2 "_law_places" := .of (by decide +kernel)
theorem lM : (ak fj).names.lookup ("range" : Str) = some .globalImplicit := by decide +kernel
theorem Ky : Bn "_law_free" := ⟨by decide +kernel, by decide +kernel⟩
abbrev aK : Stmt := top 19
theorem b7 : bJ ["_law_width", "_law_sign", "_law_mask_here", "_law_value", "_law_low", "_law_free_here", "_law_found", "_law_number_here", "_law_pattern", "_law_begin"] ["_law_width", "_law_sign", "_law_mask_here", "_law_value"] (ak aK) := ⟨rfl, rfl, rfl, by decide +kernel, rfl, by decide +kernel, by decide +kernel⟩
theorem fY : Nm ["_law_width", "_law_sign", "_law_mask_here", "_law_value", "_law_low", "_law_free_here", "_law_found", "_law_number_here", "_law_pattern", "_law_begin"] (ak aK) 0 "_law_width" := .of (by decide +kernel)
theorem ni : Nm ["_law_width", "_law_sign", "_law_mask_here", "_law_value", "_law_low", "_law_free_here", "_law_found", "_law_number_here", "_law_pattern", "_law_begin"] (ak aK) 1 "_law_sign" := .of (by decide +kernel)
theorem dI : Nm ["_law_width", "_law_sign", "_law_mask_here", "_law_value", "_law_low", "_law_free_here", "_law_found", "_law_number_here", "_law_pattern", "_law_begin"] (ak aK) 2 "_law_mask_here" := .of (by decide +kernel)
theorem fX : Nm ["_law_width", "_law_sign", "_law_mask_here", "_law_value", "_law_low", "_law_free_here", "_law_found", "_law_number_here", "_law_pattern", "_law_begin"] (ak aK) 3 "_law_value" := .of (by decide +kernel)
theorem dH : Nm ["_law_width", "_law_sign", "_law_mask_here", "_law_value", "_law_low", "_law_free_here", "_law_found", "_law_number_here", "_law_pattern", "_law_begin"] (ak aK) 4 "_law_low" := .of (by decide +kernel)
theorem jn : Nm ["_law_width", "_law_sign", "_law_mask_here", "_law_value", "_law_low", "_law_free_here", "_law_found", "_law_number_here", "_law_pattern", "_law_begin"] (ak aK) 5 "_law_free_here" := .of (by decide +kernel)
theorem fW : Nm ["_law_width", "_law_sign", "_law_mask_here", "_law_value", "_law_low", "_law_free_here", "_law_found", "_law_number_here", "_law_pattern", "_law_begin"] (ak aK) 6 "_law_found" := .of (by decide +kernel)
theorem m9 : Nm ["_law_width", "_law_sign", "_law_mask_here", "_law_value", "_law_low", "_law_free_here", "_law_found", "_law_number_here", "_law_pattern", "_law_begin"] (ak aK) 7 "_law_number_here" := .of (by decide +kernel)
theorem fV : Nm ["_law_width", "_law_sign", "_law_mask_here", "_law_value", "_law_low", "_law_free_here", "_law_found", "_law_number_here", "_law_pattern", "_law_begin"] (ak aK) 8 "_law_pattern" := .of (by decide +kernel)
theorem fU : Nm ["_law_width", "_law_sign", "_law_mask_here", "_law_value", "_law_low", "_law_free_here", "_law_found", "_law_number_here", "_law_pattern", "_law_begin"] (ak aK) 9 "_law_begin" := .of (by decide +kernel)
theorem jQ : (ak aK).names.lookup ("_law_free" : Str) = some .globalImplicit := by decide +kernel
theorem iU : (ak aK).names.lookup ("enumerate" : Str) = some .globalImplicit := by decide +kernel
theorem lQ : (ak aK).names.lookup ("int" : Str) = some .globalImplicit := by decide +kernel
theorem lO : (ak aK).names.lookup ("len" : Str) = some .globalImplicit := by decide +kernel
theorem jP : (ak aK).names.lookup ("range" : Str) = some .globalImplicit := by decide +kernel
theorem lN : (ak aK).names.lookup ("sum" : Str) = some .globalImplicit := by decide +kernel
theorem oV : Bn "_law_bits_borders" := ⟨by decide +kernel, by decide +kernel⟩
theorem Jr (hB : ∀ x : Str, x ∈ BLs → mg x = none) (F : Fun K "_law_free" "_law_free" fj f fd) : dg P w K mg base CX0 1 f fd ["_law_width", "_law_mask_here"] BR := by
 refine F.okq xK (fun vs H Q E h => ?_) (fun cdv A outer s H vs Q E hr h => ?_)
 ·obtain ⟨w, m, rfl, _⟩ := h
  rfl
 ·obtain ⟨w, m, rfl, hw1, hw2, hm, q⟩ := h
  refine ⟨_, (aA (bQ Ec xK.nd (jL (NX := ["_law_width", "_law_mask_here", "_law_places"]) (kX := (ak fj).names) ["_law_k", "_law_mask_here"] [none, some 1] rfl rfl ⟨rfl, by decide +kernel, by decide +kernel, by decide +kernel, by decide +kernel⟩ rfl (dU lM (hB "range" eN) (aj (aH uK) aq)) (fun _ _ _ _ _ => (eE 0 (show List.Nodup (["_law_k", "_law_mask_here"] : List Str) from by decide +kernel) rfl (Or.inl rfl))) (fun _ _ _ _ _ => (rN (aW (bM hr.bw) (aF jx (aF rQ (aG 1) (aG 0)) ao) ao (aP _)))) (fun _ _ _ _ _ => (aG 0))))
   (aN (aQ (jL (NX := ["_law_width", "_law_mask_here", "_law_places"]) (kX := (ak fj).names) ["_law_k", "_law_places"] [none, some 2] rfl rfl ⟨rfl, by decide +kernel, by decide +kernel, by decide +kernel, by decide +kernel⟩ rfl (dU lM (hB "range" eN) (aj (aH uK) aq)) (fun _ _ _ _ _ => (eE 0 (show List.Nodup (["_law_k", "_law_places"] : List Str) from by decide +kernel) rfl (Or.inl rfl))) (fun _ _ _ _ _ => (rN (uo (rJ (aW (jh hr.bw) (aG 1) (cH aq) (aP _)) (rJ (aW Dt (aG 0) (bA bW (aG 1) ao (fun _ _ => rfl)) (aP _)) (rH (aW zx (aG 0) (aG 1) (by with_unfolding_all rfl)))))))) (fun _ _ _ _ _ => (aG 0)))))), ?_⟩
  refine aY fun k hk => ?_
  simp only [rd0, rd1, rd2, rd3, rd4, rd5, rd6, rd7, rd8, rd9, reduceIte, reduceCtorEq, Nat.reduceAdd, Nat.reduceSub]
  refine jE fun R hR => ?_
  simp only [rd0, rd1, rd2, rd3, rd4, rd5, rd6, rd7, rd8, rd9, reduceIte, reduceCtorEq, Nat.reduceAdd, Nat.reduceSub, jA]
  refine ⟨by omega, by omega, ?_⟩
  obtain ⟨Pv, hPv⟩ : ∃ Pv : Nat → List V → L2.St → Hp → Prop, Pv = fun (i : Nat) acc τ H' => ∃ (o1 : Option V), H' = H ∧ acc = gO (places i m) ∧ τ = [o1, some (V.int m)] := ⟨_, rfl⟩
  refine FQ hR (aZ (by omega)) Pv (by rw [hPv]; exact ⟨none, rfl, rfl, rfl⟩) ?_ ?_ ?_
  ·intro i acc τ H1 pv
   rw [hPv] at pv
   obtain ⟨o1, rfl, rfl, rfl⟩ := pv
   rw [n8]
   exact iY _ _
  ·intro i acc τ H1 hi pv
   rw [hPv] at pv
   obtain ⟨o1, rfl, rfl, rfl⟩ := pv
   simp only [rd0, rd1, rd2, rd3, rd4, rd5, rd6, rd7, rd8, rd9, reduceIte, reduceCtorEq, Nat.reduceAdd, Nat.reduceSub, Int.zero_add]
   refine ⟨by omega, ?_⟩
   rw [Int.toNat_natCast, xu]
   have e : places (i + 1) m = places i m ++ if m.testBit i then [i] else [] := gZ _ _
   cases hb : m.testBit i with
   | true =>
    rw [hb, if_pos rfl] at e
    simp only [if_true]
    rw [hPv]
    exact ⟨_, rfl, by rw [e, qg], rfl⟩
   | false =>
    rw [hb, if_neg (by decide), List.append_nil] at e
    simp only [Bool.false_eq_true, if_false]
    rw [hPv]
    exact ⟨_, rfl, by rw [e], rfl⟩
  ·intro acc τ H1 d pv hd
   rw [hPv] at pv
   obtain ⟨o1, rfl, rfl, rfl⟩ := pv
   subst hk
   simp only [rd0, rd1, rd2, rd3, rd4, rd5, rd6, rd7, rd8, rd9, reduceIte, reduceCtorEq, Nat.reduceAdd, Nat.reduceSub]
   refine jE fun R2 hR2 => ?_
   simp only [rd0, rd1, rd2, rd3, rd4, rd5, rd6, rd7, rd8, rd9, reduceIte, reduceCtorEq, Nat.reduceAdd, Nat.reduceSub, jA]
   refine ⟨by omega, by omega, ?_⟩
   have h0 : upd H1 d (HO.lst (gO (places w.toNat m))) d = _ := aD
   have s0 : Same H1 _ := au (o := HO.lst (gO (places w.toNat m))) hd
   generalize upd H1 d (HO.lst (gO (places w.toNat m))) = H2 at h0 s0
   obtain ⟨Pv2, hPv2⟩ : ∃ Pv : Nat → List V → L2.St → Hp → Prop, Pv = fun (i : Nat) acc τ H' => ∃ (o1 : Option V), Same H2 H' ∧ acc = gO (frees i m) ∧ τ = [o1, some (V.ref d)] := ⟨_, rfl⟩
   refine FQ hR2 (aZ (by omega)) Pv2 (by rw [hPv2]; exact ⟨none, Same.refl _, rfl, rfl⟩) ?_ ?_ ?_
   ·intro i acc τ H3 pv
    rw [hPv2] at pv
    obtain ⟨o1, _, rfl, rfl⟩ := pv
    rw [n8]
    exact iY _ _
   ·intro i acc τ H3 hi pv
    rw [hPv2] at pv
    obtain ⟨o1, s3, rfl, rfl⟩ := pv
    have h3 := s3 _ _ h0
    have e : frees (i + 1) m = frees i m ++ if isFree m i then [i] else [] := gZ _ _
    simp only [rd0, rd1, rd2, rd3, rd4, rd5, rd6, rd7, rd8, rd9, reduceIte, reduceCtorEq, Nat.reduceAdd, Nat.reduceSub, Int.zero_add]
    refine ⟨aZ (by decide), fun t ht => ?_⟩
    have n1 : d ≠ t := aB h3 ht
    have s4 : Same H2 (upd H3 t (HO.lst [])) := s3.trans (au ht)
    cases hp : places w.toNat m with
    | nil =>
     have hf := zU hp hi
     rw [hf, if_neg (by decide), List.append_nil] at e
     rw [hp] at h3
     simp only [rd0, rd1, rd2, rd3, rd4, rd5, rd6, rd7, rd8, rd9, reduceIte, reduceCtorEq, Nat.reduceAdd, Nat.reduceSub, aJ n1, h3]
     refine ⟨rfl, rfl, ?_⟩
     show Pv2 _ _ _ _
     rw [hPv2]
     exact ⟨_, s4, by rw [e], rfl⟩
    | cons a r =>
     have hf := zT hp hi
     have h4 : H3 d = some (HO.lst (V.int a :: gO r)) := by rw [h3, hp]; rfl
     simp only [rd0, rd1, rd2, rd3, rd4, rd5, rd6, rd7, rd8, rd9, reduceIte, reduceCtorEq, Nat.reduceAdd, Nat.reduceSub, aJ n1, h4]
     refine ⟨qi (a :: r), rfl, ?_⟩
     rw [Ol]
     simp only [rd0, rd1, rd2, rd3, rd4, rd5, rd6, rd7, rd8, rd9, reduceIte, reduceCtorEq, Nat.reduceAdd, Nat.reduceSub, aJ n1, h4, K7]
     by_cases hak : a < i
     ·rw [decide_eq_true hak, Bool.true_and] at hf
      rw [if_pos (show (a : Int) < (i : Int) by omega)]
      refine ⟨rfl, qi (a :: r), ?_⟩
      rw [show inV (V.int (i : Nat)) (V.int a :: gO r) = (a :: r).contains i from J4 i (a :: r)]
      cases hc : (a :: r).contains i with
      | true =>
       rw [hc] at hf
       rw [hf] at e
       simp only [Bool.not_true, Bool.false_eq_true, if_false, if_true, List.append_nil] at e ⊢
       rw [hPv2]
       exact ⟨_, s4, by rw [e], rfl⟩
      | false =>
       rw [hc] at hf
       rw [hf] at e
       simp only [Bool.not_false, if_true] at e ⊢
       rw [hPv2]
       exact ⟨_, s4, by rw [e, qg], rfl⟩
     ·rw [decide_eq_false hak, Bool.false_and] at hf
      rw [if_neg (show ¬ (a : Int) < (i : Int) by omega)]
      rw [hf, if_neg (by decide), List.append_nil] at e
      rw [hPv2]
      exact ⟨_, s4, by rw [e], rfl⟩
   ·intro acc τ H3 d2 pv hd2
    rw [hPv2] at pv
    obtain ⟨o1, s3, rfl, rfl⟩ := pv
    exact q d2 _ aD (s0.trans (s3.trans (au hd2)))
theorem PX (hB : ∀ x : Str, x ∈ BLs → mg x = none) (CZFree : Cal P w K mg base "_law_free" 1 ["_law_width", "_law_mask_here"] BR) (F : Fun K "_law_bits_borders" "_law_bits_borders" aK f fd) : dg P w K mg base CX0 2 f fd ["_law_width", "_law_sign", "_law_mask_here", "_law_value"] K1 := by
 refine F.okq b7 (fun vs H Q E h => ?_) (fun cdv A outer s H vs Q E hr h => ?_)
 ·obtain ⟨w, s, m, v, rfl, _⟩ := h
  rfl
 ·obtain ⟨w, s, m, v, rfl, hw1, hw2, hs, hm, hv, hf, q⟩ := h
  refine ⟨_, (aA (cI (uo (qb (aW (bM hr.bw) (aH dI) ao (aP _)) (nY (aW (jh hr.bw) (aF jx (aH fX) (aH dI)) (aH fX) (aP _))))) (aN (aQ (cH aq))) bO)
   (aA (xP (i := 4) (j := 5) (k := 6) rfl b7.nd rfl rfl rfl (by decide) (by decide) (by decide) rfl rfl rfl (aj ao (aj (bC CZFree (hr.mono (by decide)) jQ Ky (aj (aH fY) (aj (aH dI) aq))) (aj (cH aq) aq))) (by rfl))
   (aA (CV PassesOwn.never (aW (bM hr.bw) (aF jx (aF rQ (aH dI) (aH dH)) ao) ao (aP _)) (aN (bQ dH b7.nd (aF bh (aH dH) ao))))
   (aA (fu PassesOwn.never rfl (dU jP (hB "range" eN) (aj (aF cM ao (cB jj lO (hB "len" mF) PySem.boot_len mO (aj (aH jn) aq))) aq)) (cj m9 b7.nd)
   (aA (bQ fV b7.nd (aF bh (aH fX) (cB (Ab rfl) lN (hB "sum" Nv) boot_sum Oo (aj (jL (NX := ["_law_width", "_law_sign", "_law_mask_here", "_law_value", "_law_low", "_law_free_here", "_law_found", "_law_number_here", "_law_pattern", "_law_begin"]) (kX := (ak aK).names) ["_law_k", "_law_place", "_law_number_here"] [none, none, some 7] rfl rfl ⟨rfl, by decide +kernel, by decide +kernel, by decide +kernel, by decide +kernel⟩ rfl (ur iU (hB "enumerate" lG) (aj (aH jn) aq)) (fun _ _ _ _ _ => (jg (n := 2) rfl (bG (eE 0 (show List.Nodup (["_law_k", "_law_place", "_law_number_here"] : List Str) from by decide +kernel) rfl (Or.inl rfl)) (bG (eE 1 (show List.Nodup (["_law_k", "_law_place", "_law_number_here"] : List Str) from by decide +kernel) rfl (Or.inl rfl)) gb)))) (fun _ _ _ _ _ => (rN (aW (bM hr.bw) (aF jx (aF rQ (aG 2) (aG 0)) ao) ao (aP _)))) (fun _ _ _ _ _ => (aF cM ao (aG 1)))) aq))))
   (aA (bQ fU b7.nd (aF dh (aH fV) (aF eF (aF cM ao (aH fY)) (CW j4 lQ (hB "int" sG) boot_int tu (aj (nZ (fQ (bM hr.bw) (aH ni) ao (aP _)) (rM (fQ (bM hr.bw) (aF rQ (aH fV) (aF dh (aH fY) ao)) ao (aP _)))) aq)))))
   (aN (bQ fW b7.nd (aF bh (aH fW) (cH (aj (aH fU) (aj (aF bh (aH fU) (aF cM ao (aH dH))) aq)))))))))
   (aN (aQ (aH fW))))))), ?_⟩
  have p1 := two_pow_pos w.toNat
  have p2 := dW (k := w.toNat) (by omega)
  refine aY fun k hk => ?_
  simp only [rd0, rd1, rd2, rd3, rd4, rd5, rd6, rd7, rd8, rd9, reduceIte, reduceCtorEq, Nat.reduceAdd, Nat.reduceSub]
  have ret : 0 ≤ sizeLine ∧ ∀ (p : Addr), H p = none → Q (V.ref p) (upd H p (HO.lst [])) := ⟨Nat.zero_le _, fun p hp => q p _ [] aD (Nat.zero_le _) (fun _ h => (nomatch h)) (au hp)⟩
  split
  ·exact ret
  rename_i hm0
  split
  ·exact ret
  subst hk
  refine aY fun k hk => ?_
  simp only [rd0, rd1, rd2, rd3, rd4, rd5, rd6, rd7, rd8, rd9, reduceIte, reduceCtorEq, Nat.reduceAdd, Nat.reduceSub]
  refine ⟨w, m, rfl, by omega, by omega, hm, fun fr H1 hfr s1 => ?_⟩
  simp only [rd0, rd1, rd2, rd3, rd4, rd5, rd6, rd7, rd8, rd9, reduceIte, reduceCtorEq, Nat.reduceAdd, Nat.reduceSub]
  refine ⟨aZ (by decide), fun fo hfo => ?_⟩
  have s2 : Same H (upd H1 fo (HO.lst [])) := s1.trans (au hfo)
  have hfr2 : upd H1 fo (HO.lst []) fr = some (HO.lst (gO (frees w.toNat m))) := au hfo _ _ hfr
  have hfo2 : upd H1 fo (HO.lst []) fo = some (HO.lst []) := aD
  generalize upd H1 fo (HO.lst []) = H2 at s2 hfr2 hfo2
  subst hk
  -- the lowest place
  refine aY fun k hk => ?_
  obtain ⟨L, hL⟩ : ∃ L, m.testBit L = true := Nat.exists_testBit_of_ne_zero (by omega)
  have hLw : L < w.toNat := by
   rcases Nat.lt_or_ge L w.toNat with z | z
   ·exact z
   ·rw [Nat.testBit_lt_two_pow (Nat.lt_of_lt_of_le hm (Nat.pow_le_pow_right (by decide) z))] at hL
    cases hL
  obtain ⟨Wv, hWv⟩ : ∃ Wv : Nat → L2.St → Hp → Prop, Wv = fun (i : Nat) σ H' => ∃ (lo : Nat), H' = H2 ∧ lo + i = L ∧ σ = [some (V.int w), some (V.int s), some (V.int m), some (V.int v), some (V.int (lo : Nat)), some (V.ref fr), some (V.ref fo), none, none, none] := ⟨_, rfl⟩
  refine Gu Wv L (by rw [hWv]; exact ⟨0, rfl, by omega, rfl⟩) ?_
  intro i σ H3 wv
  rw [hWv] at wv
  obtain ⟨lo, rfl, hlo, rfl⟩ := wv
  simp only [rd0, rd1, rd2, rd3, rd4, rd5, rd6, rd7, rd8, rd9, reduceIte, reduceCtorEq, Nat.reduceAdd, Nat.reduceSub]
  refine ⟨by omega, ?_⟩
  rw [Int.toNat_natCast, xu]
  by_cases hb : m.testBit lo = true
  ·rw [if_pos hb, if_neg (by decide)]
   subst hk
   clear hWv
   -- the numbers of free places
   refine aY fun k hk => ?_
   refine iW fun R hR => ?_
   simp only [rd0, rd1, rd2, rd3, rd4, rd5, rd6, rd7, rd8, rd9, reduceIte, reduceCtorEq, Nat.reduceAdd, Nat.reduceSub, jA, hfr2, Int.one_mul]
   have hl4 : (gO (frees w.toNat m)).length ≤ 4 := by rw [n8]; exact hf
   refine ⟨⟨by omega, by omega, by decide⟩, ?_⟩
   have l16 : (2 : Int) ^ (((gO (frees w.toNat m)).length : Nat) : Int).toNat ≤ 16 := by
    rw [Int.toNat_natCast, iZ]
    have : 2 ^ (gO (frees w.toNat m)).length ≤ 2 ^ 4 := Nat.pow_le_pow_right (by decide) hl4
    omega
   have l0 := two_pow_pos (((gO (frees w.toNat m)).length : Nat) : Int).toNat
   generalize (2 : Int) ^ (((gO (frees w.toNat m)).length : Nat) : Int).toNat = N at l16 l0 ⊢
   refine ⟨by omega, by omega, ?_⟩
   obtain ⟨Pv, hPv⟩ : ∃ Pv : Nat → L2.St → Hp → Prop, Pv = fun (i : Nat) σ H' => ∃ (ns : List Int) (fo : Addr) (o7 o8 o9 : Option V), Same H3 H' ∧ H' fo = some (HO.lst (ns.map V.int)) ∧ ns.length = 2 * i ∧ (∀ n ∈ ns, wl w s ≤ n) ∧
    σ = [some (V.int w), some (V.int s), some (V.int m), some (V.int v), some (V.int (lo : Nat)), some (V.ref fr), some (V.ref fo), o7, o8, o9] := ⟨_, rfl⟩
   refine qF hR Pv (by rw [hPv]; exact ⟨[], fo, none, none, none, Same.refl _, hfo2, rfl, (fun _ h => (nomatch h)), rfl⟩) ?_ ?_
   ·intro j σ H4 hj pv
    rw [hPv] at pv
    obtain ⟨ns, fo4, o7, o8, o9, s4, hfo4, hns, hlow, rfl⟩ := pv
    have hfr4 := s4 _ _ hfr2
    simp only [rd0, rd1, rd2, rd3, rd4, rd5, rd6, rd7, rd8, rd9, reduceIte, reduceCtorEq, Nat.reduceAdd, Nat.reduceSub]
    refine jE fun R2 hR2 => ?_
    simp only [rd0, rd1, rd2, rd3, rd4, rd5, rd6, rd7, rd8, rd9, reduceIte, reduceCtorEq, Nat.reduceAdd, Nat.reduceSub, qz, yp, hfr4, yo]
    obtain ⟨Pc, hPc⟩ : ∃ Pv : Nat → List V → L2.St → Hp → Prop, Pv = fun (i : Nat) acc τ H' => ∃ (ns : List Int) (o1 o2 : Option V), Same H4 H' ∧ acc = ns.map V.int ∧ (ns.length ≤ i ∧ 0 ≤ ns.sum) ∧ τ = [o1, o2, some (V.int (0 + (j : Int)))] := ⟨_, rfl⟩
    refine Om hR2 (xs := gO (frees w.toNat m)) (aZ (by omega)) Pc (by rw [hPc]; exact ⟨[], none, none, Same.refl _, rfl, ⟨Nat.le_refl _, Int.le_refl _⟩, rfl⟩) ?_ ?_ ?_ ?_
    ·intro i acc τ H5 pc
     rw [hPc] at pc
     obtain ⟨ns5, o1, o2, s5, rfl, ⟨h5, h6⟩, rfl⟩ := pc
     rw [List.length_map]
     exact h5
    ·intro i acc τ H5 pc
     rw [hPc] at pc
     obtain ⟨ns5, o1, o2, s5, rfl, ⟨h5, h6⟩, rfl⟩ := pc
     exact SqL.of (s5 _ _ hfr4)
    ·intro i x acc τ H5 t hx pc ht
     rw [hPc] at pc
     obtain ⟨ns5, o1, o2, s5, rfl, ⟨h5, h6⟩, rfl⟩ := pc
     obtain ⟨pl, hpl, rfl⟩ : ∃ pl : Nat, pl < w.toNat ∧ x = V.int (pl : Nat) := by
      have mem := List.mem_of_getElem? hx
      obtain ⟨pl, hp, rfl⟩ := List.mem_map.mp mem
      exact ⟨pl, Ft hp, rfl⟩
     simp only [rd0, rd1, rd2, rd3, rd4, rd5, rd6, rd7, rd8, rd9, reduceIte, reduceCtorEq, Nat.reduceAdd, Nat.reduceSub]
     refine ⟨by omega, ?_⟩
     have s6 := s5.trans (au (o := HO.tup [V.int (i : Nat), V.int (pl : Nat)]) ht)
     split
     ·refine ⟨⟨by omega, by omega, by decide⟩, ?_⟩
      rw [hPc]
      exact ⟨ns5 ++ [1 * 2 ^ (pl : Int).toNat], _, _, s6, by simp, ⟨by simp; omega, by
       have := two_pow_pos (pl : Int).toNat
       rw [List.sum_append, List.sum_singleton]
       omega⟩, rfl⟩
     ·rw [hPc]
      exact ⟨ns5, _, _, s6, rfl, ⟨by omega, h6⟩, rfl⟩
    ·intro acc τ H5 d pc hd
     rw [hPc] at pc
     obtain ⟨ns5, o1, o2, s5, rfl, ⟨h5, h6⟩, rfl⟩ := pc
     simp only [rd0, rd1, rd2, rd3, rd4, rd5, rd6, rd7, rd8, rd9, reduceIte, reduceCtorEq, Nat.reduceAdd, Nat.reduceSub]
     refine ⟨ns5, rfl, ?_⟩
     simp only [rd0, rd1, rd2, rd3, rd4, rd5, rd6, rd7, rd8, rd9, reduceIte, reduceCtorEq, Nat.reduceAdd, Nat.reduceSub, Int.one_mul]
     have s6 := s5.trans (au (o := HO.lst (ns5.map V.int)) hd)
     generalize upd H5 d (HO.lst (ns5.map V.int)) = H6 at s6
     have hfo6 := s6 _ _ hfo4
     have hpat : 0 ≤ (v : Int) + ns5.sum := by omega
     generalize (v : Int) + ns5.sum = pat at hpat ⊢
     have fin : ∀ a b : Int, wl w s ≤ a → wl w s ≤ b → 2 ≤ sizeLine ∧ ∀ (p : Addr), H6 p = none → adq (upd H6 p (HO.lst [V.int a, V.int b]) fo4) (some (HO.lst [V.int a, V.int b])) (upd H6 p (HO.lst [V.int a, V.int b])) fun x H1 =>
       Pv (j + 1) [some (V.int w), some (V.int s), some (V.int m), some (V.int v), some (V.int (lo : Nat)), some (V.ref fr), some x, some (V.int (0 + (j : Int))), some (V.int pat), some (V.int a)] H1 := by
      intro a b ha hb2
      refine ⟨aZ (by decide), fun p hp => ?_⟩
      rw [aJ (aB hfo6 hp), hfo6, wQ]
      refine ⟨aZ (by simp only [List.length_map, List.length_cons, List.length_nil]; omega), fun p2 hp2 => ?_⟩
      rw [hPv]
      exact ⟨ns ++ [a, b], p2, _, _, _, s4.trans (s6.trans ((au hp).trans (au hp2))), by rw [aD]; simp, by simp only [List.length_append, List.length_cons, List.length_nil]; omega, (fun n hn => by
       rcases List.mem_append.mp hn with h | h
       ·exact hlow n h
       ·simp only [List.mem_cons, List.not_mem_nil, or_false] at h
        rcases h with rfl | rfl
        ·exact ha
        ·exact hb2), rfl⟩
     refine ⟨⟨by omega, by omega, by decide⟩, ?_⟩
     split
     ·rename_i hs1
      have l1 := JD (w := w) (by omega) hs1 hpat
      have l2 := two_pow_pos (lo : Int).toNat
      exact ⟨by omega, .inl ⟨by omega, by omega⟩, ⟨by omega, by omega, by decide⟩, fin _ _ l1 (by omega)⟩
     ·have l1 := Ep (w := w) (by omega) hw2 hs hpat
      have l2 := two_pow_pos (lo : Int).toNat
      exact ⟨.inl ⟨by omega, by omega⟩, ⟨by omega, by omega, by decide⟩, fin _ _ l1 (by omega)⟩
   ·intro σ H4 pv
    rw [hPv] at pv
    obtain ⟨ns, fo4, o7, o8, o9, s4, hfo4, hns, hlow, rfl⟩ := pv
    show k _ _
    subst hk
    simp only [rd0, rd1, rd2, rd3, rd4, rd5, rd6, rd7, rd8, rd9, reduceIte, reduceCtorEq, Nat.reduceAdd, Nat.reduceSub]
    exact q _ _ ns hfo4 (by omega) hlow (s2.trans s4)
  ·rw [if_neg hb, if_pos rfl]
   have hne : lo ≠ L := fun z => hb (by rw [z]; exact hL)
   refine ⟨Wv (i - 1), fun σ' H' z => ⟨i - 1, by omega, z⟩, ?_⟩
   rw [hWv]
   exact ⟨lo + 1, rfl, by omega, by rw [Int.natCast_add]; rfl⟩
abbrev cF : Stmt := top 2
theorem tR : bJ ["number", "width"] ["number", "width"] (ak cF) := ⟨rfl, rfl, rfl, by decide +kernel, rfl, by decide +kernel, by decide +kernel⟩
theorem rW : Nm ["number", "width"] (ak cF) 0 "number" := .of (by decide +kernel)
theorem rT : Nm ["number", "width"] (ak cF) 1 "width" := .of (by decide +kernel)
theorem ig : Bn "pattern_of" := ⟨by decide +kernel, by decide +kernel⟩
abbrev fG : Stmt := top 1
theorem Cm : bJ ["width", "sign"] ["width", "sign"] (ak fG) := ⟨rfl, rfl, rfl, by decide +kernel, rfl, by decide +kernel, by decide +kernel⟩
theorem qm : Nm ["width", "sign"] (ak fG) 0 "width" := .of (by decide +kernel)
theorem zK : Nm ["width", "sign"] (ak fG) 1 "sign" := .of (by decide +kernel)
theorem Ge : Bn "most_of" := ⟨by decide +kernel, by decide +kernel⟩
abbrev bf : Stmt := top 4
theorem gw : bJ ["width", "item", "low", "high"] ["width", "item"] (ak bf) := ⟨rfl, rfl, rfl, by decide +kernel, rfl, by decide +kernel, by decide +kernel⟩
theorem cT : Nm ["width", "item", "low", "high"] (ak bf) 0 "width" := .of (by decide +kernel)
theorem cA : Nm ["width", "item", "low", "high"] (ak bf) 1 "item" := .of (by decide +kernel)
theorem dM : Nm ["width", "item", "low", "high"] (ak bf) 2 "low" := .of (by decide +kernel)
theorem dJ : Nm ["width", "item", "low", "high"] (ak bf) 3 "high" := .of (by decide +kernel)
theorem jC : (ak bf).names.lookup ("most_of" : Str) = some .globalImplicit := by decide +kernel
theorem bU : (ak bf).names.lookup ("pattern_of" : Str) = some .globalImplicit := by decide +kernel
theorem oW : Bn "pattern_items" := ⟨by decide +kernel, by decide +kernel⟩
abbrev bL : Stmt := top 5
theorem fK : bJ ["choice", "width", "sign", "cases", "told"] ["choice"] (ak bL) := ⟨rfl, rfl, rfl, by decide +kernel, rfl, by decide +kernel, by decide +kernel⟩
theorem sE : Nm ["choice", "width", "sign", "cases", "told"] (ak bL) 0 "choice" := .of (by decide +kernel)
theorem lF : Nm ["choice", "width", "sign", "cases", "told"] (ak bL) 1 "width" := .of (by decide +kernel)
theorem sy : Nm ["choice", "width", "sign", "cases", "told"] (ak bL) 2 "sign" := .of (by decide +kernel)
theorem lE : Nm ["choice", "width", "sign", "cases", "told"] (ak bL) 3 "cases" := .of (by decide +kernel)
theorem lD : Nm ["choice", "width", "sign", "cases", "told"] (ak bL) 4 "told" := .of (by decide +kernel)
theorem u9 : Bn "by_pattern" := ⟨by decide +kernel, by decide +kernel⟩
abbrev d8 : Stmt := top 22
theorem tQ : bJ ["_law_width", "_law_item_here", "_law_span"] ["_law_width", "_law_item_here"] (ak d8) := ⟨rfl, rfl, rfl, by decide +kernel, rfl, by decide +kernel, by decide +kernel⟩
theorem zJ : Nm ["_law_width", "_law_item_here", "_law_span"] (ak d8) 0 "_law_width" := .of (by decide +kernel)
theorem cU : Nm ["_law_width", "_law_item_here", "_law_span"] (ak d8) 1 "_law_item_here" := .of (by decide +kernel)
theorem gm : Nm ["_law_width", "_law_item_here", "_law_span"] (ak d8) 2 "_law_span" := .of (by decide +kernel)
theorem Gd : Bn "_law_items" := ⟨by decide +kernel, by decide +kernel⟩
theorem vY (F : Fun K "pattern_of" "pattern_of" cF f fd) : dg P w K mg base CX0 1 f fd ["number", "width"] pX := by
 refine F.okq tR (fun vs H Q E h => ?_) (fun cdv A outer s H vs Q E hr h => ?_)
 ·obtain ⟨w, s, rfl, _⟩ := h
  rfl
 ·obtain ⟨n, w, rfl, h1, h2, q⟩ := h
  refine ⟨_, (aN (aQ (aF jx (aH rW) (aF dh (aF cM ao (aH rT)) ao)))), ?_⟩
  simp only [rd0, rd1, rd2, rd3, rd4, rd5, rd6, rd7, rd8, rd9, reduceIte, reduceCtorEq, Nat.reduceAdd, Nat.reduceSub]
  refine ⟨⟨by omega, by omega, by decide⟩, ?_⟩
  rw [Int.one_mul, PySem.W.kbt_mask]
  exact q
theorem Jo (F : Fun K "most_of" "most_of" fG f fd) : dg P w K mg base CX0 1 f fd ["width", "sign"] xj := by
 refine F.okq Cm (fun vs H Q E h => ?_) (fun cdv A outer s H vs Q E hr h => ?_)
 ·obtain ⟨w, rfl, _⟩ := h
  rfl
 ·obtain ⟨w, rfl, h1, h2, q⟩ := h
  refine ⟨_, (aA (cI (aW (bM hr.bw) (aH zK) ao (aP _)) (aN (aQ (aF dh (aF cM ao (aH qm)) ao))) bO)
   (aN (aQ (aF dh (aF cM ao (aF dh (aH qm) ao)) ao)))), ?_⟩
  simp only [rd0, rd1, rd2, rd3, rd4, rd5, rd6, rd7, rd8, rd9, reduceIte, reduceCtorEq, Nat.reduceAdd, Nat.reduceSub]
  refine ⟨⟨by omega, by omega, by decide⟩, ?_⟩
  rw [Int.one_mul]
  exact q
theorem uG (hB : ∀ x : Str, x ∈ BLs → mg x = none) (CPatternOf : Cal P w K mg base "pattern_of" 1 ["number", "width"] pX) (CMostOf : Cal P w K mg base "most_of" 1 ["width", "sign"] xj) (F : Fun K "pattern_items" "pattern_items" bf f fd) : dg P w K mg base CX0 2 f fd ["width", "item"] qX := by
 refine F.okq gw (fun vs H Q E h => ?_) (fun cdv A outer s H vs Q E hr h => ?_)
 ·obtain ⟨w, s, x, ok, it, rfl, _⟩ := h
  rfl
 ·obtain ⟨w, s, x, ok, it, rfl, h1, h2, hs, t, hok, hn, q⟩ := h
  refine ⟨_, (aA (cI (aW (bM hr.bw) (bA bW (aH cA) ao (fun _ _ => rfl)) b8 (aP _)) (aN (aQ (cH (aj (aH cA) aq)))) bO)
   (aA (cI (aW (bM hr.bw) (bA bW (aH cA) ao (fun _ _ => rfl)) b8 (aP _)) (aN (aQ (cH (aj (cQ (aj b8 (aj (bC CPatternOf (hr.mono (by decide)) bU ig (aj (bA bW (aH cA) ao (fun _ _ => rfl)) (aj (aH cT) aq))) aq))) aq)))) bO)
   (aA (bQ dM gw.nd (bA bW (aH cA) ao (fun _ _ => rfl)))
   (aA (bQ dJ gw.nd (bA bW (aH cA) ao (fun _ _ => rfl)))
   (aA (cI (uq jm xU (aH dM) ao (aH dJ)) (aN (aQ (cH (aj (cQ (aj b8 (aj ao (aj (aH dJ) aq)))) (aj (cQ (aj b8 (aj (bC CPatternOf (hr.mono (by decide)) bU ig (aj (aH dM) (aj (aH cT) aq))) (aj (bC CMostOf (hr.mono (by decide)) jC Ge (aj (aH cT) (aj ao aq))) aq)))) aq))))) bO)
   (aN (aQ (cH (aj (cQ (aj b8 (aj (bC CPatternOf (hr.mono (by decide)) bU ig (aj (aH dM) (aj (aH cT) aq))) (aj (bC CPatternOf (hr.mono (by decide)) bU ig (aj (aH dJ) (aj (aH cT) aq))) aq)))) aq))))))))), ?_⟩
  obtain ⟨t0, rfl, o0, ⟨hi⟩⟩ := jH t
  cases it with
  | bits m v =>
   simp only [rd0, rd1, rd2, rd3, rd4, rd5, rd6, rd7, rd8, rd9, reduceIte, reduceCtorEq, Nat.reduceAdd, Nat.reduceSub, hi]
   exact ⟨aZ (by decide), fun p hp => q p _ _ (au hp) aD (.cons (t.same (au hp)) .nil)⟩
  | one a =>
   simp only [rd0, rd1, rd2, rd3, rd4, rd5, rd6, rd7, rd8, rd9, reduceIte, reduceCtorEq, Nat.reduceAdd, Nat.reduceSub, hi]
   refine ⟨a, w, rfl, h1, h2, ?_⟩
   exact new_one (it' := .one (a % 2 ^ w.toNat)) hn (Same.refl _) q (by decide)
  | rng a b =>
   obtain ⟨ka, kb, hab⟩ := hok
   have ma := iQ h1 hs ka
   simp only [rd0, rd1, rd2, rd3, rd4, rd5, rd6, rd7, rd8, rd9, reduceIte, reduceCtorEq, Nat.reduceAdd, Nat.reduceSub, hi]
   split
   ·rename_i ca
    split
    ·rename_i cb
     rw [uE ca cb] at q
     rw [if_pos ca] at ma
     refine ⟨aZ (by decide), fun p hp => ⟨a, w, rfl, h1, h2, w, rfl, h1, h2, ?_⟩⟩
     rw [ma]
     exact xX (i1 := .rng 0 b) (i2 := .rng (a + 2 ^ w.toNat) (2 ^ w.toNat - 1)) hn (au hp) (gK.tree (it := .rng 0 b) ⟨aD⟩ (hn H p (Same.refl _) hp)) q (by decide)
    ·rename_i cb
     rw [lu (fun z => cb z.2)] at q
     exact ⟨a, w, rfl, h1, h2, b, w, rfl, h1, h2, new_one (it' := .rng (a % 2 ^ w.toNat) (b % 2 ^ w.toNat)) hn (Same.refl _) q (by decide)⟩
   ·rename_i ca
    rw [lu (fun z => ca z.1)] at q
    exact ⟨a, w, rfl, h1, h2, b, w, rfl, h1, h2, new_one (it' := .rng (a % 2 ^ w.toNat) (b % 2 ^ w.toNat)) hn (Same.refl _) q (by decide)⟩
theorem zA (hB : ∀ x : Str, x ∈ BLs → mg x = none) (F : Fun K "_law_items" "_law_items" d8 f fd) : dg P w K mg base CX0 1 f fd ["_law_width", "_law_item_here"] qX := by
 refine F.okq tQ (fun vs H Q E h => ?_) (fun cdv A outer s H vs Q E hr h => ?_)
 ·obtain ⟨w, s, x, ok, it, rfl, _⟩ := h
  rfl
 ·obtain ⟨w, s, x, ok, it, rfl, h1, h2, hs, t, hok, hn, q⟩ := h
  refine ⟨_, (aA (bQ gm tQ.nd (aF cM ao (aH zJ)))
   (aA (cI (aW (bM hr.bw) (bA bW (aH cU) ao (fun _ _ => rfl)) b8 (aP _)) (aN (aQ (cH (aj (aH cU) aq)))) bO)
   (aA (cI (aW (bM hr.bw) (bA bW (aH cU) ao (fun _ _ => rfl)) b8 (aP _)) (aN (aQ (cH (aj (cQ (aj b8 (aj (aF dj (bA bW (aH cU) ao (fun _ _ => rfl)) (aH gm)) aq))) aq)))) bO)
   (aA (cI (uo (rJ (aW jm (bA bW (aH cU) ao (fun _ _ => rfl)) ao (aP _)) (rH (aW K4 (bA bW (aH cU) ao (fun _ _ => rfl)) ao (aP _))))) (aN (aQ (cH (aj (cQ (aj b8 (aj ao (aj (bA bW (aH cU) ao (fun _ _ => rfl)) aq)))) (aj (cQ (aj b8 (aj (aF bh (bA bW (aH cU) ao (fun _ _ => rfl)) (aH gm)) (aj (aF dh (aH gm) ao) aq)))) aq))))) bO)
   (aN (aQ (cH (aj (cQ (aj b8 (aj (aF dj (bA bW (aH cU) ao (fun _ _ => rfl)) (aH gm)) (aj (aF dj (bA bW (aH cU) ao (fun _ _ => rfl)) (aH gm)) aq)))) aq)))))))), ?_⟩
  obtain ⟨t0, rfl, o0, ⟨hi⟩⟩ := jH t
  have p1 := two_pow_pos w.toNat
  refine aY fun k hk => ?_
  simp only [rd0, rd1, rd2, rd3, rd4, rd5, rd6, rd7, rd8, rd9, reduceIte, reduceCtorEq, Nat.reduceAdd, Nat.reduceSub]
  refine ⟨⟨by omega, by omega, by decide⟩, ?_⟩
  rw [Int.one_mul]
  subst hk
  cases it with
  | bits m v =>
   simp only [rd0, rd1, rd2, rd3, rd4, rd5, rd6, rd7, rd8, rd9, reduceIte, reduceCtorEq, Nat.reduceAdd, Nat.reduceSub, hi]
   exact ⟨aZ (by decide), fun p hp => q p _ _ (au hp) aD (.cons (t.same (au hp)) .nil)⟩
  | one a =>
   simp only [rd0, rd1, rd2, rd3, rd4, rd5, rd6, rd7, rd8, rd9, reduceIte, reduceCtorEq, Nat.reduceAdd, Nat.reduceSub, hi]
   refine ⟨by omega, ?_⟩
   exact new_one (it' := .one (a % 2 ^ w.toNat)) hn (Same.refl _) q (by decide)
  | rng a b =>
   obtain ⟨ka, kb, hab⟩ := hok
   have ma := iQ h1 hs ka
   simp only [rd0, rd1, rd2, rd3, rd4, rd5, rd6, rd7, rd8, rd9, reduceIte, reduceCtorEq, Nat.reduceAdd, Nat.reduceSub, hi]
   split
   ·rename_i ca
    split
    ·rename_i cb
     rw [uE ca cb] at q
     refine ⟨aZ (by decide), fun p hp => ?_⟩
     rw [au hp _ _ hi]
     have o1 := hn H p (Same.refl _) hp
     have t1 : aR ok (upd H p (.tup (itV (.rng 0 b)))) (.ref p) (itD (.rng 0 b)) := gK.tree (it := .rng 0 b) ⟨aD⟩ o1
     have s1 := au (o := HO.tup (itV (.rng 0 b))) hp
     change ixq (some (HO.tup (itV (.rng a b)))) 1 (upd H p (.tup (itV (.rng 0 b)))) _
     generalize upd H p (.tup (itV (.rng 0 b))) = H1 at t1 s1 ⊢
     simp only [rd0, rd1, rd2, rd3, rd4, rd5, rd6, rd7, rd8, rd9, reduceIte, reduceCtorEq, Nat.reduceAdd, Nat.reduceSub]
     exact xX (i1 := .rng 0 b) (i2 := .rng (a + 2 ^ w.toNat) (2 ^ w.toNat - 1)) hn s1 t1 q (by decide)
    ·rename_i cb
     rw [lu (fun z => cb z.2)] at q
     exact ⟨p1, p1, new_one (it' := .rng (a % 2 ^ w.toNat) (b % 2 ^ w.toNat)) hn (Same.refl _) q (by decide)⟩
   ·rename_i ca
    rw [lu (fun z => ca z.1)] at q
    exact ⟨p1, p1, new_one (it' := .rng (a % 2 ^ w.toNat) (b % 2 ^ w.toNat)) hn (Same.refl _) q (by decide)⟩
theorem Dw (hB : ∀ x : Str, x ∈ BLs → mg x = none) (CPatternItems : Cal P w K mg base "pattern_items" 2 ["width", "item"] qX) (F : Fun K "by_pattern" "by_pattern" bL f fd) : dg P w K mg base CX0 3 f fd ["choice"] xr := by
 refine F.okq fK (fun vs H Q E h => ?_) (fun cdv A outer s H vs Q E hr h => ?_)
 ·obtain ⟨w, s, x, ok, css, rfl, _⟩ := h
  rfl
 ·obtain ⟨w, s, x, ok, css, rfl, h1, h2, hs, t, hok, hl, hn, q⟩ := h
  refine ⟨_, (aA (iz (aH sE) (jg (n := 3) rfl (bG (cj lF fK.nd) (bG (cj sy fK.nd) (bG (cj lE fK.nd) gb)))))
   (aA (HY (NX := ["choice", "width", "sign", "cases", "told"]) (kX := (ak bL).names) ["items", "width"] [none, some 1] lD fK.nd rfl rfl ⟨rfl, by decide +kernel, by decide +kernel, by decide +kernel, by decide +kernel⟩ rfl (fH (aH lE)) (fun _ _ _ _ _ => (eE 0 (show List.Nodup (["items", "width"] : List Str) from by decide +kernel) rfl (Or.inl rfl))) (fun _ _ _ _ _ => vU) (fun _ _ _ _ _ => (CZ (NX := ["items", "width"]) (kX := _) ["item", "part", "width"] [none, none, some 1] rfl rfl ⟨rfl, by decide +kernel, by decide +kernel, by (intro y hy hf; repeat (first | (rcases List.mem_cons.mp hy with rfl | hy; (first | exact Or.inr rfl | exact Or.inl rfl | exact absurd hf (by decide))) | exact absurd hy List.not_mem_nil)), by decide +kernel⟩ rfl (xQ K (aG 0)) (fun _ _ _ _ _ => (eE 0 (show List.Nodup (["item", "part", "width"] : List Str) from by decide +kernel) rfl (Or.inl rfl))) (fun _ _ _ _ _ => (xQ K (bC CPatternItems (hr.mono (by decide)) rfl oW (aj (aG 2) (aj (aG 0) aq))))) (fun _ _ _ _ _ => (eE 1 (show List.Nodup (["item", "part", "width"] : List Str) from by decide +kernel) rfl (Or.inl rfl))) (fun _ _ _ _ _ => (aG 1)))))
   (aN (aQ (cQ (aj (aH lF) (aj ao (aj (aH lD) aq)))))))), ?_⟩
  obtain ⟨p, c, xs, rfl, op, ep, oc, ec, z, ts⟩ := fJ t
  have hlen := ts.length
  rw [List.length_map] at hlen
  refine aY fun k hk => ?_
  simp only [rd0, rd1, rd2, rd3, rd4, rd5, rd6, rd7, rd8, rd9, reduceIte, reduceCtorEq, Nat.reduceAdd, Nat.reduceSub, ep]
  subst hk
  refine aY fun k hk => ?_
  simp only [rd0, rd1, rd2, rd3, rd4, rd5, rd6, rd7, rd8, rd9, reduceIte, reduceCtorEq, Nat.reduceAdd, Nat.reduceSub]
  refine jE fun R hR => ?_
  simp only [rd0, rd1, rd2, rd3, rd4, rd5, rd6, rd7, rd8, rd9, reduceIte, reduceCtorEq, Nat.reduceAdd, Nat.reduceSub, ec]
  obtain ⟨Pc, hPc⟩ : ∃ Pv : Nat → List V → L2.St → Hp → Prop, Pv = fun (i : Nat) acc τ H' => ∃ (ls : List Addr) (o1 : Option V), Same H H' ∧ acc = ls.map V.ref ∧ ls.length = i ∧ (∀ q ∈ ls, H q = none ∧ H' q ≠ none) ∧ aL ok H' acc ((css.take i).map fun its => fP (jq w its)) ∧ τ = [o1, some (.int w)] := ⟨_, rfl⟩
  refine wH hR (xs := xs) (aZ z) Pc (by rw [hPc]; exact ⟨[], none, Same.refl _, rfl, rfl, fun _ h => (nomatch h), .nil, rfl⟩) ?_ ?_ ?_ ?_
  ·intro i acc τ H2 pc
   rw [hPc] at pc
   obtain ⟨ls, o1, _, rfl, hl2, _⟩ := pc
   rw [List.length_map]
   omega
  ·intro i acc τ H2 pc
   rw [hPc] at pc
   obtain ⟨ls, o1, s2, _⟩ := pc
   exact SqL.of (s2 _ _ ec)
  ·intro i x acc τ H2 hx pc
   rw [hPc] at pc
   obtain ⟨ls, o1, s2, rfl, hl2, hnew, ts2, rfl⟩ := pc
   obtain ⟨d, hd, td⟩ := (ts.same s2).get hx
   rw [List.getElem?_map] at hd
   obtain ⟨its, hits, rfl⟩ := Option.map_eq_some_iff.mp hd
   obtain ⟨q0, us, rfl, o3, eq, z3, ts3⟩ := iH td
   have hoks := hok its (List.mem_of_getElem? hits)
   have hul := ts3.length
   rw [List.length_map] at hul
   simp only [rd0, rd1, rd2, rd3, rd4, rd5, rd6, rd7, rd8, rd9, reduceIte, reduceCtorEq, Nat.reduceAdd, Nat.reduceSub]
   refine Kr fun R2 hR2 => ?_
   simp only [rd0, rd1, rd2, rd3, rd4, rd5, rd6, rd7, rd8, rd9, reduceIte, reduceCtorEq, Nat.reduceAdd, Nat.reduceSub, eq]
   obtain ⟨Pd, hPd⟩ : ∃ Pv : Nat → List V → L2.St → Hp → Prop, Pv = fun (j : Nat) acc2 τ H' => ∃ (o1 o2 : Option V), Same H2 H' ∧ aL ok H' acc2 ((jq w (its.take j)).map itD) ∧ τ = [o1, o2, some (.int w)] := ⟨_, rfl⟩
   refine Kq hR2 (xs := us) Pd (by rw [hPd]; exact ⟨none, none, Same.refl _, .nil, rfl⟩) ?_ ?_ (fun x τ H k k' m h => m _ _ h) ?_
   ·intro j acc2 τ H3 pd
    rw [hPd] at pd
    obtain ⟨_, _, s3, _⟩ := pd
    exact SqL.of (s3 _ _ eq)
   ·intro j x acc2 τ H3 hx3 pd
    rw [hPd] at pd
    obtain ⟨o1, o2, s3, ta, rfl⟩ := pd
    obtain ⟨d, hd, td⟩ := (ts3.same s3).get hx3
    rw [List.getElem?_map] at hd
    obtain ⟨it, hit, rfl⟩ := Option.map_eq_some_iff.mp hd
    have hla := ta.length
    rw [List.length_map] at hla
    have hlp := iM w (its.take j)
    have hlt : (its.take j).length ≤ its.length := by rw [List.length_take]; omega
    show ∀ R3 : It → Hp → Prop, _ → _
    intro R3 hR3
    simp only [rd0, rd1, rd2, rd3, rd4, rd5, rd6, rd7, rd8, rd9, reduceIte, reduceCtorEq, Nat.reduceAdd, Nat.reduceSub]
    refine ⟨w, s, x, ok, it, rfl, h1, h2, hs, td, hoks.2 it (List.mem_of_getElem? hit), hn.same (s2.trans s3), fun p4 ws H4 s4 e4 t4 => ?_⟩
    simp only [rd0, rd1, rd2, rd3, rd4, rd5, rd6, rd7, rd8, rd9, reduceIte, reduceCtorEq, Nat.reduceAdd, Nat.reduceSub, e4]
    have hlw := t4.length
    rw [List.length_map] at hlw
    have hli := n6 w it
    obtain ⟨Pe, hPe⟩ : ∃ Pv : Nat → List V → L2.St → Hp → Prop, Pv = fun (l : Nat) acc3 τ H' => ∃ (o2 : Option V), Same H4 H' ∧ aL ok H' acc3 ((jq w (its.take j)).map itD ++ ((rP w it).map itD).take l) ∧ τ = [some x, o2, some (.int w)] := ⟨_, rfl⟩
    refine QJ hR3 (xs := ws) Pe (by rw [hPe]; exact ⟨o2, Same.refl _, by rw [List.take_zero, List.append_nil]; exact ta.same s4, rfl⟩) ?_ ?_ ?_ ?_
    ·intro l acc3 τ H5 hl5 pe
     rw [hPe] at pe
     obtain ⟨_, s5, t5, _⟩ := pe
     have := t5.length
     rw [List.length_append, List.length_map, List.length_take, List.length_map] at this
     exact aZ (show acc3.length + 1 ≤ 9000 by omega)
    ·intro l acc3 τ H5 pe
     rw [hPe] at pe
     obtain ⟨_, s5, _⟩ := pe
     exact SqL.of (s5 _ _ e4)
    ·intro l y acc3 τ H5 hy pe
     rw [hPe] at pe
     obtain ⟨o2', s5, t5, rfl⟩ := pe
     obtain ⟨d, hd, td⟩ := (t4.same s5).get hy
     simp only [rd0, rd1, rd2, rd3, rd4, rd5, rd6, rd7, rd8, rd9, reduceIte, reduceCtorEq, Nat.reduceAdd, Nat.reduceSub]
     rw [hPe]
     refine ⟨_, s5, ?_, rfl⟩
     rw [List.take_add_one, hd, ← List.append_assoc]
     exact t5.append (.cons td .nil)
    ·intro acc3 τ H5 pe
     rw [hPe] at pe
     obtain ⟨o2', s5, t5, rfl⟩ := pe
     rw [hPd]
     refine ⟨_, _, s3.trans (s4.trans s5), ?_, rfl⟩
     rw [qd hit, List.map_append]
     rw [List.take_of_length_le (l := (rP w it).map itD) (by rw [List.length_map]; omega)] at t5
     exact t5
   ·intro acc2 τ H3 d2 pd hd2
    rw [hPd] at pd
    obtain ⟨o1', o2', s3, ta, rfl⟩ := pd
    rw [List.take_of_length_le (by omega)] at ta
    have hla := ta.length
    rw [List.length_map] at hla
    have hlp := iM w its
    have s4 := s3.trans (au (o := HO.lst acc2) hd2)
    have hd0 := yr (s2.trans s3) hd2
    have e4 : upd H3 d2 (HO.lst acc2) d2 = _ := aD
    have tn : aR ok (upd H3 d2 (HO.lst acc2)) (.ref d2) (fP (jq w its)) := .lst (hn H3 d2 (s2.trans s3) hd2) aD (by omega) (ta.same (au hd2))
    generalize upd H3 d2 (HO.lst acc2) = H4 at s4 e4 tn ⊢
    rw [hPc]
    refine ⟨ls ++ [d2], _, s2.trans s4, by rw [List.map_append]; rfl, by rw [List.length_append, List.length_singleton]; omega, fun q hq => ?_, ?_, rfl⟩
    ·rcases List.mem_append.mp hq with h | h
     ·refine ⟨(hnew q h).1, ?_⟩
      cases e : H2 q with
      | none => exact absurd e (hnew q h).2
      | some o => rw [s4 _ _ e]; exact fun z => (nomatch z)
     ·rw [List.mem_singleton.mp h]
      exact ⟨hd0, by rw [e4]; exact fun z => (nomatch z)⟩
    ·rw [List.take_add_one, hits, List.map_append]
     exact (ts2.same s4).append (.cons tn .nil)
  ·intro acc τ H2 d2 pc hd2
   rw [hPc] at pc
   obtain ⟨ls, o1, s2, rfl, hl2, hnew, ts2, rfl⟩ := pc
   rw [List.take_of_length_le (by omega)] at ts2
   have hd0 := yr s2 hd2
   have o2 := hn H2 d2 s2 hd2
   have hni : d2 ∉ ls := fun h => (hnew d2 h).2 hd2
   have s3 := s2.trans (au (o := HO.lst (ls.map V.ref)) hd2)
   have e3 : upd H2 d2 (HO.lst (ls.map V.ref)) d2 = _ := aD
   have ts3 := ts2.same (au (o := HO.lst (ls.map V.ref)) hd2)
   generalize upd H2 d2 (HO.lst (ls.map V.ref)) = H3 at s3 e3 ts3 ⊢
   subst hk
   simp only [rd0, rd1, rd2, rd3, rd4, rd5, rd6, rd7, rd8, rd9, reduceIte, reduceCtorEq, Nat.reduceAdd, Nat.reduceSub]
   refine ⟨aZ (by decide), fun p4 hp4 => ?_⟩
   have s4 := au (o := HO.tup [V.int w, V.int 0, V.ref d2]) hp4
   refine q p4 d2 ls _ (s3.trans s4) aD (s4 _ _ e3) hni hd0 (fun q hq => (hnew q hq).1) (by omega) ?_
   refine .tup (hn H3 p4 s3 hp4) aD (by show 3 ≤ 9000; decide) (.cons (.int _) (.cons (.int _) (.cons (.lst o2 (s4 _ _ e3) (by rw [List.length_map]; omega) ?_) .nil)))
   rw [List.map_map]
   exact ts3.same s4
abbrev aM : Stmt := top 17
theorem bI : bJ ["_law_tape_here", "_law_width", "_law_sign", "_law_great", "_law_cases", "_law_other", "_law_many", "_law_k", "_law_items_here", "_law_turn", "_law_item_here"] ["_law_tape_here"] (ak aM) := ⟨rfl, rfl, rfl, by decide +kernel, rfl, by decide +kernel, by decide +kernel⟩
theorem cZ : Nm ["_law_tape_here", "_law_width", "_law_sign", "_law_great", "_law_cases", "_law_other", "_law_many", "_law_k", "_law_items_here", "_law_turn", "_law_item_here"] (ak aM) 0 "_law_tape_here" := .of (by decide +kernel)
theorem cY : Nm ["_law_tape_here", "_law_width", "_law_sign", "_law_great", "_law_cases", "_law_other", "_law_many", "_law_k", "_law_items_here", "_law_turn", "_law_item_here"] (ak aM) 1 "_law_width" := .of (by decide +kernel)
theorem eH : Nm ["_law_tape_here", "_law_width", "_law_sign", "_law_great", "_law_cases", "_law_other", "_law_many", "_law_k", "_law_items_here", "_law_turn", "_law_item_here"] (ak aM) 2 "_law_sign" := .of (by decide +kernel)
theorem gD : Nm ["_law_tape_here", "_law_width", "_law_sign", "_law_great", "_law_cases", "_law_other", "_law_many", "_law_k", "_law_items_here", "_law_turn", "_law_item_here"] (ak aM) 3 "_law_great" := .of (by decide +kernel)
theorem jy : Nm ["_law_tape_here", "_law_width", "_law_sign", "_law_great", "_law_cases", "_law_other", "_law_many", "_law_k", "_law_items_here", "_law_turn", "_law_item_here"] (ak aM) 4 "_law_cases" := .of (by decide +kernel)
theorem eG : Nm ["_law_tape_here", "_law_width", "_law_sign", "_law_great", "_law_cases", "_law_other", "_law_many", "_law_k", "_law_items_here", "_law_turn", "_law_item_here"] (ak aM) 5 "_law_other" := .of (by decide +kernel)
theorem gC : Nm ["_law_tape_here", "_law_width", "_law_sign", "_law_great", "_law_cases", "_law_other", "_law_many", "_law_k", "_law_items_here", "_law_turn", "_law_item_here"] (ak aM) 6 "_law_many" := .of (by decide +kernel)
theorem ou : Nm ["_law_tape_here", "_law_width", "_law_sign", "_law_great", "_law_cases", "_law_other", "_law_many", "_law_k", "_law_items_here", "_law_turn", "_law_item_here"] (ak aM) 7 "_law_k" := .of (by decide +kernel)
theorem cX : Nm ["_law_tape_here", "_law_width", "_law_sign", "_law_great", "_law_cases", "_law_other", "_law_many", "_law_k", "_law_items_here", "_law_turn", "_law_item_here"] (ak aM) 8 "_law_items_here" := .of (by decide +kernel)
theorem oh : Nm ["_law_tape_here", "_law_width", "_law_sign", "_law_great", "_law_cases", "_law_other", "_law_many", "_law_k", "_law_items_here", "_law_turn", "_law_item_here"] (ak aM) 9 "_law_turn" := .of (by decide +kernel)
theorem dG : Nm ["_law_tape_here", "_law_width", "_law_sign", "_law_great", "_law_cases", "_law_other", "_law_many", "_law_k", "_law_items_here", "_law_turn", "_law_item_here"] (ak aM) 10 "_law_item_here" := .of (by decide +kernel)
theorem jZ : (ak aM).names.lookup ("_law_item" : Str) = some .globalImplicit := by decide +kernel
theorem jY : (ak aM).names.lookup ("_law_kind" : Str) = some .globalImplicit := by decide +kernel
theorem jO : (ak aM).names.lookup ("_law_least" : Str) = some .globalImplicit := by decide +kernel
theorem dR : (ak aM).names.lookup ("_law_take" : Str) = some .globalImplicit := by decide +kernel
theorem mG : (ak aM).names.lookup ("int" : Str) = some .globalImplicit := by decide +kernel
theorem gG : (ak aM).names.lookup ("range" : Str) = some .globalImplicit := by decide +kernel
theorem pN : Bn "_law_wild_choice" := ⟨by decide +kernel, by decide +kernel⟩
theorem Jl (hB : ∀ x : Str, x ∈ BLs → mg x = none) (CZTake : Cal P w K mg base "_law_take" 2 ["_law_tape_here", "_law_many"] (dN 2)) (CZKind : Cal P w K mg base "_law_kind" 3 ["_law_tape_here"] BL) (CZLeast : Cal P w K mg base "_law_least" 1 ["_law_width", "_law_sign"] kE) (CZItem : Cal P w K mg base "_law_item" 4 ["_law_tape_here", "_law_width", "_law_sign", "_law_other"] BP)
  (F : Fun K "_law_wild_choice" "_law_wild_choice" aM f fd) : dg P w K mg base CX0 5 f fd ["_law_tape_here"] Bx := by
 refine F.okq bI (fun vs H Q E h => ?_) (fun cdv A outer s H vs Q E hr h => ?_)
 ·obtain ⟨p, B, rfl, _⟩ := h
  rfl
 ·obtain ⟨p, B, rfl, tp, hB0, hB1, q⟩ := h
  refine ⟨_, (aA (iz (bC CZKind (hr.mono (by decide)) jY Kv (aj (aH cZ) aq)) (jg (n := 2) rfl (bG (cj cY bI.nd) (bG (cj eH bI.nd) gb))))
   (aA (bQ gD bI.nd (fQ (bM hr.bw) (bC CZTake (hr.mono (by decide)) dR bV (aj (aH cZ) (aj ao aq))) ao (aP _)))
   (aA (xP (i := 4) (j := 5) (k := 6) rfl bI.nd rfl rfl rfl (by decide) (by decide) (by decide) rfl rfl rfl (aj (cH aq) (aj (bC CZLeast (hr.mono (by decide)) jO oU (aj (aH cY) (aj (aH eH) aq))) (aj ao aq))) (by rfl))
   (aA (fu PassesOwn.never rfl (dU gG (hB "range" eN) (aj (bC CZTake (hr.mono (by decide)) dR bV (aj (aH cZ) (aj (lg (jw (aH gD)) ao ao) aq))) aq)) (cj ou bI.nd)
   (aA (bQ cX bI.nd (cH aq))
   (aA (fu PassesOwn.never rfl (dU gG (hB "range" eN) (aj (bC CZTake (hr.mono (by decide)) dR bV (aj (aH cZ) (aj (lg (jw (aH gD)) ao ao) aq))) aq)) (cj oh bI.nd)
   (aA (bQ dG bI.nd (bC CZItem (hr.mono (by decide)) jZ Kw (aj (aH cZ) (aj (aH cY) (aj (aH eH) (aj (aH eG) aq))))))
   (aA (bQ gC bI.nd (aF bh (aH gC) (CW j4 mG (hB "int" sG) boot_int tu (aj (fQ (bM hr.bw) (bA bW (aH dG) ao (fun _ _ => rfl)) b8 (aP _)) aq))))
   (aA (kZ (lq (aH cX) (lg (uo (qb (aW jm (aH cY) ao (aP _)) (qb (aW jm (aH gC) ao (aP _)) (nY (aW (jh hr.bw) (bA bW (aH dG) ao (fun _ _ => rfl)) b8 (aP _)))))) (aH dG) (cQ (aj b8 (aj (aH eG) aq))))))
   (aN (bQ eG bI.nd (lg (aW (jh hr.bw) (bA bW (bA bW (aH cX) (uw nP ao) (fun _ _ => rfl)) ao (fun _ _ => rfl)) b8 (aP _)) (bA bW (bA bW (aH cX) (uw nP ao) (fun _ _ => rfl)) ao (fun _ _ => rfl)) (aH eG))))))))
   (aN (kZ (lq (aH jy) (aH cX)))))))
   (aN (aQ (cQ (aj (aH cY) (aj (aH eH) (aj (aH jy) aq)))))))))), ?_⟩
  refine aY fun k hk => ?_
  simp only [rd0, rd1, rd2, rd3, rd4, rd5, rd6, rd7, rd8, rd9, reduceIte, reduceCtorEq, Nat.reduceAdd, Nat.reduceSub]
  refine ⟨p, B, rfl, tp, by omega, by omega, fun w s t H1 hw1 hw2 hs s1 tp1 ht => ?_⟩
  simp only [rd0, rd1, rd2, rd3, rd4, rd5, rd6, rd7, rd8, rd9, reduceIte, reduceCtorEq, Nat.reduceAdd, Nat.reduceSub, ht]
  subst hk
  refine aY fun k hk => ?_
  simp only [rd0, rd1, rd2, rd3, rd4, rd5, rd6, rd7, rd8, rd9, reduceIte, reduceCtorEq, Nat.reduceAdd, Nat.reduceSub]
  refine ⟨p, 8, B + 10, rfl, tp1, by show B + 10 + 2 ≤ 1000100; omega, by decide, by decide, by decide, fun z => absurd z (by decide), fun r1 H2 r10 r11 s2 tp2 => ?_⟩
  simp only [rd0, rd1, rd2, rd3, rd4, rd5, rd6, rd7, rd8, rd9, reduceIte, reduceCtorEq, Nat.reduceAdd, Nat.reduceSub]
  subst hk
  generalize decide (r1 = 0) = great
  refine aY fun k hk => ?_
  simp only [rd0, rd1, rd2, rd3, rd4, rd5, rd6, rd7, rd8, rd9, reduceIte, reduceCtorEq, Nat.reduceAdd, Nat.reduceSub]
  refine ⟨aZ (by decide), fun c hc => ?_⟩
  refine ⟨w, s, rfl, hw1, hw2, hs, ?_⟩
  simp only [rd0, rd1, rd2, rd3, rd4, rd5, rd6, rd7, rd8, rd9, reduceIte, reduceCtorEq, Nat.reduceAdd, Nat.reduceSub]
  subst hk
  obtain ⟨cp, Hc⟩ := oK (s1.trans s2) tp2 hc
  have s3 := jK (o := HO.lst []) (s1.trans s2) Hc
  have tp3 : bx _ p (B + 12) := (tp2.same (au (o := HO.lst []) hc)).le (by show B + 10 + 2 ≤ B + 12; omega)
  have hc3 : upd H2 c (HO.lst []) c = some (HO.lst []) := aD
  generalize upd H2 c (HO.lst []) = H3 at s3 tp3 hc3 ⊢
  refine aY fun k hk => ?_
  refine iW fun R hR => ?_
  simp only [rd0, rd1, rd2, rd3, rd4, rd5, rd6, rd7, rd8, rd9, reduceIte, reduceCtorEq, Nat.reduceAdd, Nat.reduceSub, jA]
  have g13 : ∀ (x y : Int), (0 < x ∧ x ≤ 13) → (0 < y ∧ y ≤ 13) → (if great = true then x else y) ≤ 13 ∧ 0 < (if great = true then x else y) := fun x y hx hy => by cases great <;> simp <;> omega
  obtain ⟨OC, hOC⟩ : ∃ OC : Addr → Prop, OC = fun a => a ≠ p ∧ a ≠ c := ⟨_, rfl⟩
  have body : ∀ m : Int, 0 < m → m ≤ 13 → dN 2 [V.ref p, V.int m] H3 (fun x H1 => ∃ j, x = V.int j ∧ -(2 ^ 62) ≤ j ∧ j < 2 ^ 62 ∧ R (Itr 0 j.toNat) H1) E0 := by
   intro m hm0 hm1
   refine ⟨p, m, B + 12, rfl, tp3, by show B + 12 + 2 ≤ 1000100; omega, hm0, by omega, by decide, fun z => absurd z (by omega), fun r2 H4 r20 r21 s4 tp4 => ?_⟩
   refine ⟨r2, rfl, by omega, by omega, ?_⟩
   obtain ⟨Pv, hPv⟩ : ∃ Pv : Nat → L2.St → Hp → Prop, Pv = fun (i : Nat) σ H' => ∃ (css : List (List It1)) (vs : List V) (ot mn : Int) (o7 o8 o9 o10 : Option V), bN p H H' ∧ bx H' p (B + 20 + 400 * (i : Int)) ∧ H' c = some (HO.lst vs) ∧ aL OC H' vs (css.map fP) ∧
    css.length = i ∧ (∀ its ∈ css, its.length ≤ 6 ∧ ∀ it ∈ its, it.Ok w s) ∧ dm w s ot ∧
    σ = [some (V.ref p), some (V.int w), some (V.int s), some (V.bl great), some (V.ref c), some (V.int ot), some (V.int mn), o7, o8, o9, o10] := ⟨_, rfl⟩
   have hc4 := s4 _ _ cp hc3
   refine qF hR Pv (by rw [hPv]; exact ⟨[], [], _, _, _, _, _, _, s3.trans s4, tp4.le (by show B + 12 + 2 ≤ B + 20 + 400 * ((0 : Nat) : Int); omega), hc4, .nil, rfl, by simp, sJ, rfl⟩) ?_ ?_
   ·intro i σ H5 hi pv
    rw [hPv] at pv
    obtain ⟨css, vs, ot, mn, o7, o8, o9, o10, s5, tp5, hc5, ts5, hcl, hok, hot, rfl⟩ := pv
    refine aY fun k2 hk2 => ?_
    simp only [rd0, rd1, rd2, rd3, rd4, rd5, rd6, rd7, rd8, rd9, reduceIte, reduceCtorEq, Nat.reduceAdd, Nat.reduceSub]
    refine ⟨aZ (by decide), fun q0 hq0 => ?_⟩
    obtain ⟨qp, Hq⟩ := oK s5 tp5 hq0
    have qc : q0 ≠ c := (aB hc5 hq0).symm
    obtain ⟨OQ, hOQ⟩ : ∃ OQ : Addr → Prop, OQ = fun a => (a ≠ p ∧ a ≠ c) ∧ a ≠ q0 := ⟨_, rfl⟩
    have ts6 : aL OQ (upd H5 q0 (HO.lst [])) vs (css.map fP) := ts5.keep fun a o h e => by
     rw [hOC] at h
     rw [hOQ]
     exact ⟨⟨h, aB e hq0⟩, au hq0 _ _ e⟩
    have s6 := jK (o := HO.lst []) s5 Hq
    have tp6 := tp5.same (au (o := HO.lst []) hq0)
    have hc6 := au (o := HO.lst []) hq0 _ _ hc5
    have hq6 : upd H5 q0 (HO.lst []) q0 = some (HO.lst []) := aD
    generalize upd H5 q0 (HO.lst []) = H6 at s6 tp6 hc6 hq6 ts6 ⊢
    subst hk2
    refine aY fun k2 hk2 => ?_
    refine iW fun R2 hR2 => ?_
    simp only [rd0, rd1, rd2, rd3, rd4, rd5, rd6, rd7, rd8, rd9, reduceIte, reduceCtorEq, Nat.reduceAdd, Nat.reduceSub, jA]
    have body2 : ∀ m : Int, 0 < m → m ≤ 7 → dN 2 [V.ref p, V.int m] H6 (fun x H1 => ∃ j, x = V.int j ∧ -(2 ^ 62) ≤ j ∧ j < 2 ^ 62 ∧ R2 (Itr 0 j.toNat) H1) E0 := by
     intro m hm0 hm1
     refine ⟨p, m, B + 20 + 400 * (i : Int), rfl, tp6, by show B + 20 + 400 * (i : Int) + 2 ≤ 1000100; omega, hm0, by omega, by decide, fun z => absurd z (by omega), fun r3 H7 r30 r31 s7 tp7 => ?_⟩
     refine ⟨r3, rfl, by omega, by omega, ?_⟩
     obtain ⟨Pv2, hPv2⟩ : ∃ Pv : Nat → L2.St → Hp → Prop, Pv = fun (j : Nat) σ H' => ∃ (its : List It1) (us : List V) (ot mn : Int) (o9 o10 : Option V), bN p H H' ∧ bx H' p (B + 20 + 400 * (i : Int) + 2 + 60 * (j : Int)) ∧ H' c = some (HO.lst vs) ∧ H' q0 = some (HO.lst us) ∧ aL OQ H' vs (css.map fP) ∧
      aL OQ H' us (its.map itD) ∧ its.length = j ∧ (∀ it ∈ its, it.Ok w s) ∧ dm w s ot ∧
      σ = [some (V.ref p), some (V.int w), some (V.int s), some (V.bl great), some (V.ref c), some (V.int ot), some (V.int mn), some (V.int (0 + (i : Int))), some (V.ref q0), o9, o10] := ⟨_, rfl⟩
     have kq : ∀ {H H' : Hp}, bN p H H' → ∀ a o, OQ a → H a = some o → OQ a ∧ H' a = some o := fun {H H'} sx a o h e => by
      refine ⟨h, sx a o ?_ e⟩
      rw [hOQ] at h
      exact h.1.1
     refine qF hR2 Pv2 (by rw [hPv2]; exact ⟨[], [], ot, mn, _, _, s6.trans s7, tp7.le (by show B + 20 + 400 * (i : Int) + 2 ≤ B + 20 + 400 * (i : Int) + 2 + 60 * ((0 : Nat) : Int); omega), s7 _ _ cp hc6, s7 _ _ qp hq6, ts6.keep (kq s7), .nil, rfl, by simp, hot, rfl⟩) ?_ ?_
     ·intro j σ H8 hj pv
      rw [hPv2] at pv
      obtain ⟨its, us, ot8, mn8, o9', o10', s8, tp8, hc8, hq8, tv8, tu8, hil, hio, hot8, rfl⟩ := pv
      have hul := tu8.length
      rw [List.length_map] at hul
      refine aY fun k3 hk3 => ?_
      simp only [rd0, rd1, rd2, rd3, rd4, rd5, rd6, rd7, rd8, rd9, reduceIte, reduceCtorEq, Nat.reduceAdd, Nat.reduceSub]
      refine ⟨p, w, s, ot8, B + 20 + 400 * (i : Int) + 2 + 60 * (j : Int), rfl, tp8, by omega, by omega, hw1, hw2, hs, fun it t9 H9 ok9 s9 tp9 at9 => ?_⟩
      simp only [rd0, rd1, rd2, rd3, rd4, rd5, rd6, rd7, rd8, rd9, reduceIte, reduceCtorEq, Nat.reduceAdd, Nat.reduceSub]
      subst hk3
      have hc9 := s9 _ _ cp hc8
      have hq9 := s9 _ _ qp hq8
      have tv9 := tv8.keep (kq s9)
      have tu9 := tu8.keep (kq s9)
      have s89 := s8.trans s9
      -- the item that goes in
      have put : ∀ (it2 : It1) (t2 : Addr) (H10 : Hp) (mn2 : Int) (k4 : L2.St → Hp → Prop), k4 = oZ (tIf (pQ (tOp vP (tOp vQ (tOp vQ (jc 8) (tUn (rU fun i => V.int (-i)) (tC (V.int 1)))) (tC (V.int 0))) (tC (V.str "bits"))))
        (tOp vQ (tOp vQ (jc 8) (tUn (rU fun i => V.int (-i)) (tC (V.int 1)))) (tC (V.int 1))) (jc 5)) (iV 5) { nx := Pv2 (j + 1), ct := Pv2 (j + 1), bk := k2, rt := Q } →
        it2.Ok w s → Same H9 H10 → gK H10 t2 it2 →
        apq (H10 q0) q0 (V.ref t2) H10 (fun _ H1 => k4 [some (V.ref p), some (V.int w), some (V.int s), some (V.bl great), some (V.ref c), some (V.int ot8), some (V.int mn2), some (V.int (0 + (i : Int))), some (V.ref q0), some (V.int (0 + (j : Int))), some (V.ref t9)] H1) := by
       intro it2 t2 H10 mn2 k4 hk4 ok2 s10 at2
       rw [s10 _ _ hq9, jN]
       have hlt : us.length < sizeLine := Nat.lt_of_lt_of_le (by omega) (aZ (Nat.le_refl 9000))
       refine ⟨hlt, ?_⟩
       have tq : t2 ≠ q0 := fun z => by have := at2.h; rw [z, s10 _ _ hq9] at this; cases this
       have tc : t2 ≠ c := fun z => by have := at2.h; rw [z, s10 _ _ hc9] at this; cases this
       have tpn : t2 ≠ p := (tp9.same s10).net at2.h
       have kk : ∀ a o, OQ a → H10 a = some o → OQ a ∧ upd H10 q0 (HO.lst (us ++ [V.ref t2])) a = some o := fun a o h e => by
        refine ⟨h, ?_⟩
        rw [hOQ] at h
        rw [aJ h.2]
        exact e
       have at3 : gK (upd H10 q0 (HO.lst (us ++ [V.ref t2]))) t2 it2 := ⟨by rw [aJ tq]; exact at2.h⟩
       have s11 := jK (o := HO.lst (us ++ [V.ref t2])) (s89.trans s10.x) Hq
       have tp11 := (tp9.same s10).upd (o := HO.lst (us ++ [V.ref t2])) qp
       have hc11 : upd H10 q0 (HO.lst (us ++ [V.ref t2])) c = some (HO.lst vs) := by rw [aJ (Ne.symm qc)]; exact s10 _ _ hc9
       have hq11 : upd H10 q0 (HO.lst (us ++ [V.ref t2])) q0 = some (HO.lst (us ++ [V.ref t2])) := aD
       have tv11 := (tv9.same s10).keep kk
       have tu11 : aL OQ (upd H10 q0 (HO.lst (us ++ [V.ref t2]))) (us ++ [V.ref t2]) ((its ++ [it2]).map itD) := by
        rw [List.map_append]
        exact ((tu9.same s10).keep kk).append (.cons (at3.tree (by rw [hOQ]; exact ⟨⟨tpn, tc⟩, tq⟩)) .nil)
       generalize upd H10 q0 (HO.lst (us ++ [V.ref t2])) = H11 at at3 s11 tp11 hc11 hq11 tv11 tu11
       have fin : ∀ ot2, dm w s ot2 → Pv2 (j + 1) [some (V.ref p), some (V.int w), some (V.int s), some (V.bl great), some (V.ref c), some (V.int ot2), some (V.int mn2), some (V.int (0 + (i : Int))), some (V.ref q0), some (V.int (0 + (j : Int))), some (V.ref t9)] H11 := fun ot2 ho2 => by
        rw [hPv2]
        refine ⟨its ++ [it2], us ++ [V.ref t2], ot2, mn2, _, _, s11, tp11.le (by omega), hc11, hq11, tv11, tu11, by rw [List.length_append, List.length_singleton]; omega, ?_, ho2, rfl⟩
        intro x hx
        rcases List.mem_append.mp hx with z | z
        ·exact hio x z
        ·rw [List.mem_singleton.mp z]
         exact ok2
       subst hk4
       cases it2 with
       | one x =>
        simp only [rd0, rd1, rd2, rd3, rd4, rd5, rd6, rd7, rd8, rd9, reduceIte, reduceCtorEq, Nat.reduceAdd, Nat.reduceSub, hq11, lW, at3.h]
        exact fin _ ok2
       | rng x y =>
        simp only [rd0, rd1, rd2, rd3, rd4, rd5, rd6, rd7, rd8, rd9, reduceIte, reduceCtorEq, Nat.reduceAdd, Nat.reduceSub, hq11, lW, at3.h]
        exact fin _ ok2.1
       | bits x y =>
        simp only [rd0, rd1, rd2, rd3, rd4, rd5, rd6, rd7, rd8, rd9, reduceIte, reduceCtorEq, Nat.reduceAdd, Nat.reduceSub, hq11, lW, at3.h]
        exact fin _ hot8
      refine aY fun k3 hk3 => ?_
      have put2 : ∀ mn2 : Int, k3 [some (V.ref p), some (V.int w), some (V.int s), some (V.bl great), some (V.ref c), some (V.int ot8), some (V.int mn2), some (V.int (0 + (i : Int))), some (V.ref q0), some (V.int (0 + (j : Int))), some (V.ref t9)] H9 := by
       intro mn2
       subst hk3
       refine aY fun k4 hk4 => ?_
       have direct := put it t9 H9 mn2 k4 hk4 ok9 (Same.refl _) at9
       rw [hq9, jN] at direct
       cases it with
       | one x =>
        simp only [rd0, rd1, rd2, rd3, rd4, rd5, rd6, rd7, rd8, rd9, reduceIte, reduceCtorEq, Nat.reduceAdd, Nat.reduceSub, hq9, at9.h]
        split
        ·exact direct
        ·split
         ·exact direct
         ·exact direct
       | rng x y =>
        simp only [rd0, rd1, rd2, rd3, rd4, rd5, rd6, rd7, rd8, rd9, reduceIte, reduceCtorEq, Nat.reduceAdd, Nat.reduceSub, hq9, at9.h]
        split
        ·exact direct
        ·split
         ·exact direct
         ·exact direct
       | bits x y =>
        simp only [rd0, rd1, rd2, rd3, rd4, rd5, rd6, rd7, rd8, rd9, reduceIte, reduceCtorEq, Nat.reduceAdd, Nat.reduceSub, hq9, at9.h]
        split
        ·exact direct
        ·split
         ·exact direct
         ·exact ⟨aZ (by decide), fun t2 ht2 => put (.one ot8) t2 _ mn2 k4 hk4 hot8 (au ht2) ⟨aD⟩⟩
      cases it with
      | one x => simp only [rd0, rd1, rd2, rd3, rd4, rd5, rd6, rd7, rd8, rd9, reduceIte, reduceCtorEq, Nat.reduceAdd, Nat.reduceSub, at9.h]; exact put2 _
      | rng x y => simp only [rd0, rd1, rd2, rd3, rd4, rd5, rd6, rd7, rd8, rd9, reduceIte, reduceCtorEq, Nat.reduceAdd, Nat.reduceSub, at9.h]; exact put2 _
      | bits x y => simp only [rd0, rd1, rd2, rd3, rd4, rd5, rd6, rd7, rd8, rd9, reduceIte, reduceCtorEq, Nat.reduceAdd, Nat.reduceSub, at9.h]; exact put2 _
     ·intro σ H8 pv
      rw [hPv2] at pv
      obtain ⟨its, us, ot8, mn8, o9', o10', s8, tp8, hc8, hq8, tv8, tu8, hil, hio, hot8, rfl⟩ := pv
      have hvl := tv8.length
      rw [List.length_map] at hvl
      have hul := tu8.length
      rw [List.length_map] at hul
      show k2 _ _
      subst hk2
      simp only [rd0, rd1, rd2, rd3, rd4, rd5, rd6, rd7, rd8, rd9, reduceIte, reduceCtorEq, Nat.reduceAdd, Nat.reduceSub, hc8]
      refine ⟨Nat.lt_of_lt_of_le (by omega) (aZ (Nat.le_refl 9000)), ?_⟩
      rw [hPv]
      have kk : ∀ a o, OQ a → H8 a = some o → OC a ∧ upd H8 c (HO.lst (vs ++ [V.ref q0])) a = some o := fun a o h e => by
       rw [hOQ] at h
       rw [hOC]
       exact ⟨h.1, by rw [aJ h.1.2]; exact e⟩
      refine ⟨css ++ [its], vs ++ [V.ref q0], ot8, mn8, _, _, _, _, jK s8 Hc, (tp8.upd cp).le (by omega), aD, ?_, by rw [List.length_append, List.length_singleton]; omega, ?_, hot8, rfl⟩
      ·rw [List.map_append]
       refine (tv8.keep kk).append (.cons (.lst ?_ (by rw [aJ qc]; exact hq8) (by omega) (tu8.keep kk)) .nil)
       rw [hOC]
       exact ⟨qp, qc⟩
      ·intro x hx
       rcases List.mem_append.mp hx with z | z
       ·exact hok x z
       ·rw [List.mem_singleton.mp z]
        exact ⟨by omega, hio⟩
    cases great with
    | true => exact body2 7 (by decide) (by decide)
    | false => exact body2 5 (by decide) (by decide)
   ·intro σ H5 pv
    rw [hPv] at pv
    obtain ⟨css, vs, ot, mn, o7, o8, o9, o10, s5, tp5, hc5, ts5, hcl, hok, hot, rfl⟩ := pv
    have hvl := ts5.length
    rw [List.length_map] at hvl
    show k _ _
    subst hk
    simp only [rd0, rd1, rd2, rd3, rd4, rd5, rd6, rd7, rd8, rd9, reduceIte, reduceCtorEq, Nat.reduceAdd, Nat.reduceSub]
    refine ⟨aZ (by decide), fun t ht => ?_⟩
    obtain ⟨tpn, Ht⟩ := oK s5 tp5 ht
    have sx := au (o := HO.tup [V.int w, V.int s, V.ref c]) ht
    refine q w s t css _ hw1 hw2 hs (s5.trans sx.x) ((tp5.same sx).le (by omega)) ?_ hok (by omega)
    exact .tup tpn aD (by show 3 ≤ 9000; decide) (.cons (.int w) (.cons (.int s) (.cons (.lst cp (sx _ _ hc5) (by omega) (ts5.keep fun a o h e => by
     rw [hOC] at h
     exact ⟨h.1, sx _ _ e⟩)) .nil)))
  cases great with
  | true => exact body 13 (by decide) (by decide)
  | false => exact body 6 (by decide) (by decide)
end
abbrev dZ : Stmt := top 12
theorem Cj : bJ ["_law_width", "_law_item_here", "_law_number_here"] ["_law_width", "_law_item_here", "_law_number_here"] (ak dZ) := ⟨rfl, rfl, rfl, by decide +kernel, rfl, by decide +kernel, by decide +kernel⟩
theorem zE : Nm ["_law_width", "_law_item_here", "_law_number_here"] (ak dZ) 0 "_law_width" := .of (by decide +kernel)
theorem fC : Nm ["_law_width", "_law_item_here", "_law_number_here"] (ak dZ) 1 "_law_item_here" := .of (by decide +kernel)
theorem mz : Nm ["_law_width", "_law_item_here", "_law_number_here"] (ak dZ) 2 "_law_number_here" := .of (by decide +kernel)
theorem Gb : Bn "_law_picks" := ⟨by decide +kernel, by decide +kernel⟩
abbrev cg : Stmt := top 13
theorem iI : bJ ["_law_choice", "_law_number_here", "_law_width", "_law_sign", "_law_cases", "_law_k", "_law_items_here"] ["_law_choice", "_law_number_here"] (ak cg) := ⟨rfl, rfl, rfl, by decide +kernel, rfl, by decide +kernel, by decide +kernel⟩
theorem zH : Nm ["_law_choice", "_law_number_here", "_law_width", "_law_sign", "_law_cases", "_law_k", "_law_items_here"] (ak cg) 0 "_law_choice" := .of (by decide +kernel)
theorem zG : Nm ["_law_choice", "_law_number_here", "_law_width", "_law_sign", "_law_cases", "_law_k", "_law_items_here"] (ak cg) 2 "_law_width" := .of (by decide +kernel)
theorem zF : Nm ["_law_choice", "_law_number_here", "_law_width", "_law_sign", "_law_cases", "_law_k", "_law_items_here"] (ak cg) 3 "_law_sign" := .of (by decide +kernel)
theorem mC : Nm ["_law_choice", "_law_number_here", "_law_width", "_law_sign", "_law_cases", "_law_k", "_law_items_here"] (ak cg) 4 "_law_cases" := .of (by decide +kernel)
theorem ql : Nm ["_law_choice", "_law_number_here", "_law_width", "_law_sign", "_law_cases", "_law_k", "_law_items_here"] (ak cg) 5 "_law_k" := .of (by decide +kernel)
theorem qj : Nm ["_law_choice", "_law_number_here", "_law_width", "_law_sign", "_law_cases", "_law_k", "_law_items_here"] (ak cg) 6 "_law_items_here" := .of (by decide +kernel)
theorem uQ : (ak cg).names.lookup ("any" : Str) = some .globalImplicit := by decide +kernel
theorem lK : (ak cg).names.lookup ("enumerate" : Str) = some .globalImplicit := by decide +kernel
theorem uP : (ak cg).names.lookup ("len" : Str) = some .globalImplicit := by decide +kernel
theorem u6 : Bn "_law_label" := ⟨by decide +kernel, by decide +kernel⟩
abbrev aV : Stmt := top 20
theorem bZ : bJ ["_law_choice", "_law_width", "_law_sign", "_law_cases", "_law_least_here", "_law_many", "_law_found", "_law_items_here", "_law_item_here"] ["_law_choice"] (ak aV) := ⟨rfl, rfl, rfl, by decide +kernel, rfl, by decide +kernel, by decide +kernel⟩
theorem uL : Nm ["_law_choice", "_law_width", "_law_sign", "_law_cases", "_law_least_here", "_law_many", "_law_found", "_law_items_here", "_law_item_here"] (ak aV) 0 "_law_choice" := .of (by decide +kernel)
theorem fO : Nm ["_law_choice", "_law_width", "_law_sign", "_law_cases", "_law_least_here", "_law_many", "_law_found", "_law_items_here", "_law_item_here"] (ak aV) 1 "_law_width" := .of (by decide +kernel)
theorem jz : Nm ["_law_choice", "_law_width", "_law_sign", "_law_cases", "_law_least_here", "_law_many", "_law_found", "_law_items_here", "_law_item_here"] (ak aV) 2 "_law_sign" := .of (by decide +kernel)
theorem mU : Nm ["_law_choice", "_law_width", "_law_sign", "_law_cases", "_law_least_here", "_law_many", "_law_found", "_law_items_here", "_law_item_here"] (ak aV) 3 "_law_cases" := .of (by decide +kernel)
theorem gY : Nm ["_law_choice", "_law_width", "_law_sign", "_law_cases", "_law_least_here", "_law_many", "_law_found", "_law_items_here", "_law_item_here"] (ak aV) 4 "_law_least_here" := .of (by decide +kernel)
theorem mR : Nm ["_law_choice", "_law_width", "_law_sign", "_law_cases", "_law_least_here", "_law_many", "_law_found", "_law_items_here", "_law_item_here"] (ak aV) 5 "_law_many" := .of (by decide +kernel)
theorem dY : Nm ["_law_choice", "_law_width", "_law_sign", "_law_cases", "_law_least_here", "_law_many", "_law_found", "_law_items_here", "_law_item_here"] (ak aV) 6 "_law_found" := .of (by decide +kernel)
theorem mQ : Nm ["_law_choice", "_law_width", "_law_sign", "_law_cases", "_law_least_here", "_law_many", "_law_found", "_law_items_here", "_law_item_here"] (ak aV) 7 "_law_items_here" := .of (by decide +kernel)
theorem dX : Nm ["_law_choice", "_law_width", "_law_sign", "_law_cases", "_law_least_here", "_law_many", "_law_found", "_law_items_here", "_law_item_here"] (ak aV) 8 "_law_item_here" := .of (by decide +kernel)
theorem ji : (ak aV).names.lookup ("_law_bits_borders" : Str) = some .globalImplicit := by decide +kernel
theorem mJ : (ak aV).names.lookup ("_law_least" : Str) = some .globalImplicit := by decide +kernel
theorem oG : (ak aV).names.lookup ("list" : Str) = some .globalImplicit := by decide +kernel
theorem nq : (ak aV).names.lookup ("range" : Str) = some .globalImplicit := by decide +kernel
theorem pJ : (ak aV).names.lookup ("set" : Str) = some .globalImplicit := by decide +kernel
theorem mH : (ak aV).names.lookup ("sorted" : Str) = some .globalImplicit := by decide +kernel
theorem wL : Bn "_law_borders" := ⟨by decide +kernel, by decide +kernel⟩
theorem Bu {css : List (List It1)} {i : Nat} {its : List It1} (h : css[i]? = some its) : ((css.take (i + 1)).map List.length).sum = ((css.take i).map List.length).sum + its.length := by
 rw [List.take_add_one, h]
 simp
theorem nR : ∀ (css : List (List It1)) (i : Nat), ((css.take i).map List.length).sum ≤ (css.map List.length).sum
 | [], i => by simp
 | c :: css, 0 => by simp
 | c :: css, i + 1 => by
  have := nR css i
  simp only [List.take_succ_cons, List.map_cons, List.sum_cons]
  omega
theorem uz {w : Nat} (h : w ≤ 8) : (2 : Int) ^ w ≤ 256 := by
 have : 2 ^ w ≤ 2 ^ 8 := Nat.pow_le_pow_right (by decide) h
 have e : (2 : Int) ^ w = ((2 ^ w : Nat) : Int) := by rw [Int.natCast_pow]; rfl
 omega
section
variable {P : Program} {w : World} {K : PySem.W.Frag} {mg : Str → Option Value} {base : Heap} {f : Addr} {fd : FuncData} {bs : List Str}
theorem zy (hB : ∀ x : Str, x ∈ BLs → mg x = none) (F : Fun K "_law_picks" "_law_picks" dZ f fd) : dg P w K mg base CX0 1 f fd ["_law_width", "_law_item_here", "_law_number_here"] xg := by
 refine F.okq Cj (fun vs H Q E h => ?_) (fun cdv A outer s H vs Q E hr h => ?_)
 ·obtain ⟨w, n, t, it, rfl, _⟩ := h
  rfl
 ·obtain ⟨w, n, t, it, rfl, h1, h2, ⟨hi⟩, q⟩ := h
  refine ⟨_, (aA (cI (aW (bM hr.bw) (bA bW (aH fC) ao (fun _ _ => rfl)) b8 (aP _)) (aN (aQ (fQ (bM hr.bw) (aH mz) (bA bW (aH fC) ao (fun _ _ => rfl)) (aP _)))) bO)
   (aA (cI (aW (bM hr.bw) (bA bW (aH fC) ao (fun _ _ => rfl)) b8 (aP _)) (aN (aQ (Dc xU xU (bA bW (aH fC) ao (fun _ _ => rfl)) (aH mz) (bA bW (aH fC) ao (fun _ _ => rfl))))) bO)
   (aN (aQ (fQ (bM hr.bw) (aF jx (aF dj (aH mz) (aF cM ao (aH zE))) (bA bW (aH fC) ao (fun _ _ => rfl))) (bA bW (aH fC) ao (fun _ _ => rfl)) (aP _)))))), ?_⟩
  cases it with
  | one a =>
   simp only [rd0, rd1, rd2, rd3, rd4, rd5, rd6, rd7, rd8, rd9, reduceIte, reduceCtorEq, Nat.reduceAdd, Nat.reduceSub, hi]
   exact q
  | rng a b =>
   simp only [rd0, rd1, rd2, rd3, rd4, rd5, rd6, rd7, rd8, rd9, reduceIte, reduceCtorEq, Nat.reduceAdd, Nat.reduceSub, hi]
   rw [show bR w n (.rng a b) = (decide (a ≤ n) && decide (n ≤ b)) from rfl] at q
   split
   ·rename_i c
    rw [decide_eq_true c, Bool.true_and] at q
    exact q
   ·rename_i c
    rw [decide_eq_false c, Bool.false_and] at q
    exact q
  | bits m v =>
   simp only [rd0, rd1, rd2, rd3, rd4, rd5, rd6, rd7, rd8, rd9, reduceIte, reduceCtorEq, Nat.reduceAdd, Nat.reduceSub, hi, Int.one_mul]
   refine ⟨⟨by omega, by omega, by decide⟩, two_pow_pos _, ?_⟩
   rw [vX]
   exact q
theorem Dv (hB : ∀ x : Str, x ∈ BLs → mg x = none) (CZPicks : Cal P w K mg base "_law_picks" 1 ["_law_width", "_law_item_here", "_law_number_here"] xg) (F : Fun K "_law_label" "_law_label" cg f fd) : dg P w K mg base CX0 3 f fd ["_law_choice", "_law_number_here"] tO := by
 refine F.okq iI (fun vs H Q E h => ?_) (fun cdv A outer s H vs Q E hr h => ?_)
 ·obtain ⟨x, n, w, s, ok, css, rfl, _⟩ := h
  rfl
 ·obtain ⟨x, n, w, s, ok, css, rfl, h1, h2, t, q⟩ := h
  refine ⟨_, (aA (iz (aH zH) (jg (n := 3) rfl (bG (cj zG iI.nd) (bG (cj zF iI.nd) (bG (cj mC iI.nd) gb)))))
   (aA (fu PassesOwn.never rfl (ur lK (hB "enumerate" lG) (aj (aH mC) aq)) (jg (n := 2) rfl (bG (cj ql iI.nd) (bG (cj qj iI.nd) gb)))
   (aN (cI (jw (cB (Ak rfl) uQ (hB "any" Nz) PyProof.Rows.Boot.«any» Ot (aj (jL (NX := ["_law_choice", "_law_number_here", "_law_width", "_law_sign", "_law_cases", "_law_k", "_law_items_here"]) (kX := (ak cg).names) ["_law_item_here", "_law_width", "_law_number_here"] [none, some 2, some 1] rfl rfl ⟨rfl, by decide +kernel, by decide +kernel, by decide +kernel, by decide +kernel⟩ rfl (fH (aH qj)) (fun _ _ _ _ _ => (eE 0 (show List.Nodup (["_law_item_here", "_law_width", "_law_number_here"] : List Str) from by decide +kernel) rfl (Or.inl rfl))) (fun _ _ _ _ _ => vU) (fun _ _ _ _ _ => (bC CZPicks (hr.mono (by decide)) rfl Gb (aj (aG 1) (aj (aG 0) (aj (aG 2) aq)))))) aq))) (aN (aQ (aH ql))) bO)))
   (aN (aQ (cB jj uP (hB "len" mF) PySem.boot_len mO (aj (aH mC) aq)))))), ?_⟩
  obtain ⟨p, c, xs, rfl, op, ep, oc, ec, z, ts⟩ := fJ t
  have hlen := ts.length
  rw [List.length_map] at hlen
  refine aY fun k hk => ?_
  simp only [rd0, rd1, rd2, rd3, rd4, rd5, rd6, rd7, rd8, rd9, reduceIte, reduceCtorEq, Nat.reduceAdd, Nat.reduceSub, ep]
  subst hk
  refine aY fun k hk => ?_
  refine iW fun R hR => ?_
  simp only [rd0, rd1, rd2, rd3, rd4, rd5, rd6, rd7, rd8, rd9, reduceIte, reduceCtorEq, Nat.reduceAdd, Nat.reduceSub, qz, yp, ec, yo]
  obtain ⟨Pv, hPv⟩ : ∃ Pv : Nat → L2.St → Hp → Prop, Pv = fun (i : Nat) σ H' => ∃ (o5 o6 : Option V), Same H H' ∧ (∀ (j : Nat) (cs : List It1), j < i → css[j]? = some cs → cs.any (bR w n) = false) ∧ σ = [some (.ref p), some (.int n), some (.int w), some (.int s), some (.ref c), o5, o6] := ⟨_, rfl⟩
  refine Qh hR (xs := xs) Pv (by rw [hPv]; exact ⟨_, _, Same.refl _, fun j cs hj => absurd hj (by omega), rfl⟩) (fun i σ H' pv => ?_) ?_ ?_
  ·rw [hPv] at pv
   obtain ⟨_, _, s', _⟩ := pv
   exact s' _ _ ec
  ·intro i x σ H2 p2 hx pv hp
   rw [hPv] at pv
   obtain ⟨o5, o6, s2, hb, rfl⟩ := pv
   obtain ⟨d, hd, td⟩ := (ts.same s2).get hx
   rw [List.getElem?_map] at hd
   obtain ⟨its, hits, rfl⟩ := Option.map_eq_some_iff.mp hd
   have s3 := au (o := HO.tup [V.int (i : Int), x]) hp
   have e3 : upd H2 p2 (HO.tup [V.int (i : Int), x]) p2 = _ := aD
   have s23 := s2.trans s3
   have td3 := td.same s3
   generalize upd H2 p2 (HO.tup [V.int (i : Int), x]) = H3 at s3 e3 s23 td3 ⊢
   obtain ⟨q0, us, rfl, o3, eq, z3, ts3⟩ := iH td3
   simp only [rd0, rd1, rd2, rd3, rd4, rd5, rd6, rd7, rd8, rd9, reduceIte, reduceCtorEq, Nat.reduceAdd, Nat.reduceSub, e3]
   refine jE fun R2 hR2 => ?_
   simp only [rd0, rd1, rd2, rd3, rd4, rd5, rd6, rd7, rd8, rd9, reduceIte, reduceCtorEq, Nat.reduceAdd, Nat.reduceSub, eq]
   refine sV (pickD w n) (fun τ => ∃ o1, τ = [o1, some (.int w), some (.int n)]) hR2 ts3 eq z3 ⟨none, rfl⟩ ?_ ?_
   ·rintro x1 d1 τ H4 Qn hd s4 t4 ⟨o1, rfl⟩ qn
    simp only [rd0, rd1, rd2, rd3, rd4, rd5, rd6, rd7, rd8, rd9, reduceIte, reduceCtorEq, Nat.reduceAdd, Nat.reduceSub]
    obtain ⟨it, _, rfl⟩ := List.mem_map.mp hd
    obtain ⟨p, rfl, _, hp⟩ := jH t4
    exact ⟨w, n, p, it, rfl, h1, h2, hp, by rw [← uD]; exact qn _ _ ⟨_, rfl⟩ (Same.refl _)⟩
   ·intro H4 l s4 hl
    have s5 := s23.trans (s4.trans (au (o := HO.lst (((its.map itD).map (pickD w n)).map V.bl)) hl))
    have e5 : upd H4 l (HO.lst (((its.map itD).map (pickD w n)).map V.bl)) l = _ := aD
    generalize upd H4 l (HO.lst (((its.map itD).map (pickD w n)).map V.bl)) = H5 at s5 e5 ⊢
    simp only [rd0, rd1, rd2, rd3, rd4, rd5, rd6, rd7, rd8, rd9, reduceIte, reduceCtorEq, Nat.reduceAdd, Nat.reduceSub, e5]
    refine ⟨_, rfl, ?_⟩
    rw [Gm]
    cases hany : its.any (bR w n) with
    | true =>
     simp only [rd0, rd1, rd2, rd3, rd4, rd5, rd6, rd7, rd8, rd9, reduceIte, reduceCtorEq, Nat.reduceAdd, Nat.reduceSub]
     have := uO hits hb hany
     rw [← this]
     exact q _ s5
    | false =>
     simp only [rd0, rd1, rd2, rd3, rd4, rd5, rd6, rd7, rd8, rd9, reduceIte, reduceCtorEq, Nat.reduceAdd, Nat.reduceSub]
     rw [hPv]
     refine ⟨_, _, s5, fun j cs hj hc => ?_, rfl⟩
     rcases Nat.lt_or_ge j i with h | h
     ·exact hb j cs h hc
     ·have : j = i := by omega
      subst this
      rw [hits] at hc
      cases hc
      exact hany
  ·intro σ H2 pv
   rw [hPv] at pv
   obtain ⟨o5, o6, s2, hb, rfl⟩ := pv
   have ec2 := s2 _ _ ec
   show k _ _
   subst hk
   simp only [rd0, rd1, rd2, rd3, rd4, rd5, rd6, rd7, rd8, rd9, reduceIte, reduceCtorEq, Nat.reduceAdd, Nat.reduceSub, ec2]
   have := qw (w := w) (n := n) (css := css) fun j cs hc => hb j cs (by have := (List.getElem?_eq_some_iff.mp hc).1; omega) hc
   rw [hlen, ← this]
   exact q _ s2
theorem vZ (hB : ∀ x : Str, x ∈ BLs → mg x = none) (CZLeast : Cal P w K mg base "_law_least" 1 ["_law_width", "_law_sign"] kE) (CZBitsBorders : Cal P w K mg base "_law_bits_borders" 2 ["_law_width", "_law_sign", "_law_mask_here", "_law_value"] K1) (F : Fun K "_law_borders" "_law_borders" aV f fd) : dg P w K mg base CX0 3 f fd ["_law_choice"] nT := by
 refine F.okq bZ (fun vs H Q E h => ?_) (fun cdv A outer s H vs Q E hr h => ?_)
 ·obtain ⟨x, w, s, ok, css, rfl, _⟩ := h
  rfl
 ·obtain ⟨x, w, s, ok, css, rfl, h1, h2, hs, t, hok, hsum, q⟩ := h
  refine ⟨_, (aA (iz (aH uL) (jg (n := 3) rfl (bG (cj fO bZ.nd) (bG (cj jz bZ.nd) (bG (cj mU bZ.nd) gb)))))
   (aA (iz (cQ (aj (bC CZLeast (hr.mono (by decide)) mJ oU (aj (aH fO) (aj (aH jz) aq))) (aj (aF cM ao (aH fO)) aq))) (jg (n := 2) rfl (bG (cj gY bZ.nd) (bG (cj mR bZ.nd) gb))))
   (aA (cI (aW jm (aH fO) ao (aP _)) (aN (aQ (Ig rfl oG (hB "list" nG) nq (hB "range" eN) (aj (aH gY) (aj (aF bh (aH gY) (aH mR)) aq))))) bO)
   (aA (bQ dY bZ.nd (cH (aj (aH gY) aq)))
   (aA (fu PassesOwn.never rfl (fH (aH mU)) (cj mQ bZ.nd)
   (aN (fu PassesOwn.never rfl (fH (aH mQ)) (cj dX bZ.nd)
   (aN (cI (aW (bM hr.bw) (bA bW (aH dX) ao (fun _ _ => rfl)) b8 (aP _)) (aN (bQ dY bZ.nd (aF bh (aH dY) (bC CZBitsBorders (hr.mono (by decide)) ji oV (aj (aH fO) (aj (aH jz) (aj (bA bW (aH dX) ao (fun _ _ => rfl)) (aj (bA bW (aH dX) ao (fun _ _ => rfl)) aq)))))))) (aN (bQ dY bZ.nd (aF bh (aH dY) (cH (aj (bA bW (aH dX) ao (fun _ _ => rfl)) (aj (aF bh (bA bW (aH dX) (uw nP ao) (fun _ _ => rfl)) ao) aq)))))))))))
   (aN (aQ (Ie rfl mH (hB "sorted" zM) pJ (hB "set" Nx) (aj (jL (NX := ["_law_choice", "_law_width", "_law_sign", "_law_cases", "_law_least_here", "_law_many", "_law_found", "_law_items_here", "_law_item_here"]) (kX := (ak aV).names) ["_law_border", "_law_least_here", "_law_many"] [none, some 4, some 5] rfl rfl ⟨rfl, by decide +kernel, by decide +kernel, by decide +kernel, by decide +kernel⟩ rfl (fH (aH dY)) (fun _ _ _ _ _ => (eE 0 (show List.Nodup (["_law_border", "_law_least_here", "_law_many"] : List Str) from by decide +kernel) rfl (Or.inl rfl))) (fun _ _ _ _ _ => (rN (aW jm (aG 0) (aF bh (aG 1) (aG 2)) (aP _)))) (fun _ _ _ _ _ => (aG 0))) aq))))))))), ?_⟩
  obtain ⟨p, c, xs, rfl, op, ep, oc, ec, z, ts⟩ := fJ t
  have hlen := ts.length
  rw [List.length_map] at hlen
  have b1 := iG h1 h2 hs
  have p1 := two_pow_pos w.toNat
  have p2 := dW (k := w.toNat) (by omega)
  refine aY fun k hk => ?_
  simp only [rd0, rd1, rd2, rd3, rd4, rd5, rd6, rd7, rd8, rd9, reduceIte, reduceCtorEq, Nat.reduceAdd, Nat.reduceSub, ep]
  subst hk
  refine aY fun k hk => ?_
  simp only [rd0, rd1, rd2, rd3, rd4, rd5, rd6, rd7, rd8, rd9, reduceIte, reduceCtorEq, Nat.reduceAdd, Nat.reduceSub]
  refine ⟨w, s, rfl, h1, h2, hs, ?_⟩
  simp only [rd0, rd1, rd2, rd3, rd4, rd5, rd6, rd7, rd8, rd9, reduceIte, reduceCtorEq, Nat.reduceAdd, Nat.reduceSub]
  refine ⟨⟨by omega, by omega, by decide⟩, ?_⟩
  rw [Int.one_mul]
  refine ⟨aZ (by decide), fun t2 ht2 => ?_⟩
  have s2 := au (o := HO.tup [V.int (wl w s), V.int (2 ^ w.toNat)]) ht2
  have e2 : upd H t2 (HO.tup [V.int (wl w s), V.int (2 ^ w.toNat)]) t2 = _ := aD
  generalize upd H t2 (HO.tup [V.int (wl w s), V.int (2 ^ w.toNat)]) = H2 at s2 e2 ⊢
  subst hk
  refine aY fun k hk => ?_
  simp only [rd0, rd1, rd2, rd3, rd4, rd5, rd6, rd7, rd8, rd9, reduceIte, reduceCtorEq, Nat.reduceAdd, Nat.reduceSub]
  split
  ·rename_i h9
   refine ⟨⟨by omega, by omega, by omega, by omega⟩, ?_, fun p3 hp3 => ?_⟩
   ·exact aZ (by have := uz (w := w.toNat) (by omega); omega)
   ·refine q p3 _ ((List.range (wl w s + 2 ^ w.toNat - wl w s).toNat).map fun k => wl w s + ((k : Nat) : Int)) (s2.trans (au hp3)) (by rw [aD, List.map_map]; rfl) ?_ ?_
    ·rw [List.length_map, List.length_range]
     have := uz (w := w.toNat) (by omega)
     omega
    ·intro n hn
     obtain ⟨k, hk2, rfl⟩ := List.mem_map.mp hn
     have := List.mem_range.mp hk2
     exact ⟨by omega, by omega⟩
  rename_i h9
  subst hk
  refine aY fun k hk => ?_
  simp only [rd0, rd1, rd2, rd3, rd4, rd5, rd6, rd7, rd8, rd9, reduceIte, reduceCtorEq, Nat.reduceAdd, Nat.reduceSub]
  refine ⟨aZ (by decide), fun fo hfo => ?_⟩
  have s3 := s2.trans (au (o := HO.lst [V.int (wl w s)]) hfo)
  have e3 : upd H2 fo (HO.lst [V.int (wl w s)]) fo = some (.lst ([wl w s].map V.int)) := aD
  generalize upd H2 fo (HO.lst [V.int (wl w s)]) = H3 at s3 e3 ⊢
  subst hk
  refine aY fun k hk => ?_
  refine iW fun R hR => ?_
  have ec3 := s3 _ _ ec
  simp only [rd0, rd1, rd2, rd3, rd4, rd5, rd6, rd7, rd8, rd9, reduceIte, reduceCtorEq, Nat.reduceAdd, Nat.reduceSub, ec3]
  obtain ⟨Pv, hPv⟩ : ∃ Pv : Nat → L2.St → Hp → Prop, Pv = fun (i : Nat) σ H' => ∃ (ns : List Int) (fo : Addr) (o7 o8 : Option V), Same H H' ∧ H' fo = some (.lst (ns.map V.int)) ∧ (ns.length ≤ 1 + 32 * ((css.take i).map List.length).sum ∧ ∀ n ∈ ns, wl w s ≤ n) ∧ σ = [some (.ref p), some (.int w), some (.int s), some (.ref c), some (.int (wl w s)), some (.int (2 ^ w.toNat)), some (.ref fo), o7, o8] := ⟨_, rfl⟩
  refine qG hR (xs := xs) Pv (by rw [hPv]; exact ⟨_, _, _, _, s3, e3, ⟨by simp, fun n hn => by rw [List.mem_singleton.mp hn]; exact Int.le_refl _⟩, rfl⟩) (fun i σ H' _ pv => ?_) ?_ ?_
  ·rw [hPv] at pv
   obtain ⟨_, _, _, _, s', _⟩ := pv
   exact SqL.of (s' _ _ ec)
  ·intro i x σ H4 hx pv
   rw [hPv] at pv
   obtain ⟨ns, fo4, o7, o8, s4, e4, ⟨hn4, lo4⟩, rfl⟩ := pv
   obtain ⟨d, hd, td⟩ := (ts.same s4).get hx
   rw [List.getElem?_map] at hd
   obtain ⟨its, hits, rfl⟩ := Option.map_eq_some_iff.mp hd
   obtain ⟨q0, us, rfl, o5, eq4, z4, ts4⟩ := iH td
   have hul := ts4.length
   rw [List.length_map] at hul
   have hstep := Bu hits
   have hmem := List.mem_of_getElem? hits
   have hall : ((css.take (i + 1)).map List.length).sum ≤ 110 := Nat.le_trans (nR css (i + 1)) hsum
   simp only [rd0, rd1, rd2, rd3, rd4, rd5, rd6, rd7, rd8, rd9, reduceIte, reduceCtorEq, Nat.reduceAdd, Nat.reduceSub]
   refine iW fun R2 hR2 => ?_
   simp only [rd0, rd1, rd2, rd3, rd4, rd5, rd6, rd7, rd8, rd9, reduceIte, reduceCtorEq, Nat.reduceAdd, Nat.reduceSub, eq4]
   obtain ⟨Pw, hPw⟩ : ∃ Pv : Nat → L2.St → Hp → Prop, Pv = fun (j : Nat) σ H' => ∃ (ns : List Int) (fo : Addr) (o8 : Option V), Same H4 H' ∧ H' fo = some (.lst (ns.map V.int)) ∧ (ns.length ≤ 1 + 32 * ((css.take i).map List.length).sum + 32 * j ∧ ∀ n ∈ ns, wl w s ≤ n) ∧ σ = [some (.ref p), some (.int w), some (.int s), some (.ref c), some (.int (wl w s)), some (.int (2 ^ w.toNat)), some (.ref fo), some (.ref q0), o8] := ⟨_, rfl⟩
   refine qG hR2 (xs := us) Pw (by rw [hPw]; exact ⟨_, _, _, Same.refl _, e4, ⟨by omega, lo4⟩, rfl⟩) (fun i σ H' _ pv => ?_) ?_ ?_
   ·rw [hPw] at pv
    obtain ⟨_, _, _, s', _⟩ := pv
    exact SqL.of (s' _ _ eq4)
   ·intro j x σ H5 hx5 pv
    rw [hPw] at pv
    obtain ⟨ns5, fo5, o8, s5, e5, ⟨hn5, lo5⟩, rfl⟩ := pv
    obtain ⟨d5, hd5, td5⟩ := (ts4.same s5).get hx5
    rw [List.getElem?_map] at hd5
    obtain ⟨it, hit, rfl⟩ := Option.map_eq_some_iff.mp hd5
    obtain ⟨q5, rfl, o6, ⟨hi⟩⟩ := jH td5
    have hj : j < us.length := (List.getElem?_eq_some_iff.mp hx5).1
    have hoki := hok its hmem it (List.mem_of_getElem? hit)
    have fin : ∀ (a b : Int), wl w s ≤ a → wl w s ≤ b → 2 ≤ sizeLine ∧ ∀ (pp : Addr), H5 pp = none → adq (upd H5 pp (HO.lst [V.int a, V.int b]) fo5) (some (HO.lst [V.int a, V.int b])) (upd H5 pp (HO.lst [V.int a, V.int b])) fun x H1 =>
      Pw (j + 1) [some (.ref p), some (.int w), some (.int s), some (.ref c), some (.int (wl w s)), some (.int (2 ^ w.toNat)), some x, some (.ref q0), some (.ref q5)] H1 := by
     intro a b la lb
     refine ⟨aZ (by decide), fun p6 hp6 => ?_⟩
     rw [aJ (aB e5 hp6), e5, wQ]
     refine ⟨aZ (by simp only [List.length_map, List.length_cons, List.length_nil]; omega), fun p7 hp7 => ?_⟩
     rw [hPw]
     exact ⟨ns5 ++ [a, b], p7, _, s5.trans ((au hp6).trans (au hp7)), by rw [aD]; simp, ⟨by simp only [List.length_append, List.length_cons, List.length_nil]; omega, fun n hn => by
      rcases List.mem_append.mp hn with h | h
      ·exact lo5 n h
      ·simp only [List.mem_cons, List.not_mem_nil, or_false] at h
       rcases h with rfl | rfl
       ·exact la
       ·exact lb⟩, rfl⟩
    cases it with
    | one a =>
     obtain ⟨k1, k2⟩ := hoki
     simp only [rd0, rd1, rd2, rd3, rd4, rd5, rd6, rd7, rd8, rd9, reduceIte, reduceCtorEq, Nat.reduceAdd, Nat.reduceSub, hi]
     exact fin _ _ k1 (by omega)
    | rng a b =>
     obtain ⟨⟨k1, k2⟩, ⟨k3, k4⟩, k5⟩ := hoki
     simp only [rd0, rd1, rd2, rd3, rd4, rd5, rd6, rd7, rd8, rd9, reduceIte, reduceCtorEq, Nat.reduceAdd, Nat.reduceSub, hi]
     exact fin _ _ k1 (by omega)
    | bits m v =>
     obtain ⟨k1, k2, k3⟩ := hoki
     simp only [rd0, rd1, rd2, rd3, rd4, rd5, rd6, rd7, rd8, rd9, reduceIte, reduceCtorEq, Nat.reduceAdd, Nat.reduceSub, hi]
     refine ⟨w, s, m, v, rfl, by omega, h2, hs, k1, k2, k3 (by omega), fun pB H6 nB eB lB lowB sB => ?_⟩
     have e6 := sB _ _ e5
     simp only [rd0, rd1, rd2, rd3, rd4, rd5, rd6, rd7, rd8, rd9, reduceIte, reduceCtorEq, Nat.reduceAdd, Nat.reduceSub, e6, eB]
     refine ⟨aZ (by simp only [List.length_map]; omega), fun p7 hp7 => ?_⟩
     rw [hPw]
     exact ⟨ns5 ++ nB, p7, _, s5.trans (sB.trans (au hp7)), by rw [aD, List.map_append], ⟨by rw [List.length_append]; omega, fun n hn => by
      rcases List.mem_append.mp hn with h | h
      ·exact lo5 n h
      ·exact lowB n h⟩, rfl⟩
   ·intro σ H5 pv
    rw [hPw] at pv
    obtain ⟨ns5, fo5, o8, s5, e5, ⟨hn5, lo5⟩, rfl⟩ := pv
    show Pv _ _ _
    rw [hPv]
    exact ⟨_, _, _, _, s4.trans s5, e5, ⟨by omega, lo5⟩, rfl⟩
  ·intro σ H4 pv
   rw [hPv] at pv
   obtain ⟨ns, fo4, o7, o8, s4, e4, ⟨hn4, lo4⟩, rfl⟩ := pv
   show k _ _
   subst hk
   have hss : ((css.take xs.length).map List.length).sum ≤ 110 := Nat.le_trans (nR css _) hsum
   simp only [rd0, rd1, rd2, rd3, rd4, rd5, rd6, rd7, rd8, rd9, reduceIte, reduceCtorEq, Nat.reduceAdd, Nat.reduceSub, tSS]
   refine jE fun R2 hR2 => ?_
   simp only [rd0, rd1, rd2, rd3, rd4, rd5, rd6, rd7, rd8, rd9, reduceIte, reduceCtorEq, Nat.reduceAdd, Nat.reduceSub, e4]
   obtain ⟨Pc, hPc⟩ : ∃ Pv : Nat → List V → L2.St → Hp → Prop, Pv = fun (i : Nat) acc τ H' => ∃ (us : List Int) (o1 : Option V), Same H4 H' ∧ acc = us.map V.int ∧ (us.length ≤ i ∧ ∀ n ∈ us, dm w s n) ∧ τ = [o1, some (.int (wl w s)), some (.int (2 ^ w.toNat))] := ⟨_, rfl⟩
   refine wH hR2 (xs := ns.map V.int) (aZ (by rw [List.length_map]; omega)) Pc (by rw [hPc]; exact ⟨[], none, Same.refl _, rfl, ⟨Nat.le_refl _, fun _ h => (nomatch h)⟩, rfl⟩) ?_ ?_ ?_ ?_
   ·intro i9 acc τ H10 pc
    rw [hPc] at pc
    obtain ⟨us, o1, _, rfl, ⟨hus, ink⟩, rfl⟩ := pc
    rw [List.length_map]
    omega
   ·intro i9 acc τ H10 pc
    rw [hPc] at pc
    obtain ⟨us, o1, s10, rfl, ⟨hus, ink⟩, rfl⟩ := pc
    exact SqL.of (s10 _ _ e4)
   ·intro i9 x acc τ H10 hx pc
    rw [hPc] at pc
    obtain ⟨us, o1, s10, rfl, ⟨hus, ink⟩, rfl⟩ := pc
    obtain ⟨n, hnn, rfl⟩ := List.mem_map.mp (List.mem_of_getElem? hx)
    simp only [rd0, rd1, rd2, rd3, rd4, rd5, rd6, rd7, rd8, rd9, reduceIte, reduceCtorEq, Nat.reduceAdd, Nat.reduceSub]
    split
    ·rename_i hlt
     rw [hPc]
     exact ⟨us ++ [n], _, s10, by simp, ⟨by simp; omega, fun m hm => by
      rcases List.mem_append.mp hm with h | h
      ·exact ink m h
      ·rw [List.mem_singleton.mp h]
       exact ⟨lo4 n hnn, by omega⟩⟩, rfl⟩
    ·rw [hPc]
     exact ⟨us, _, s10, rfl, ⟨by omega, ink⟩, rfl⟩
   ·intro acc τ H10 d pc hd
    rw [hPc] at pc
    obtain ⟨us, o1, s10, rfl, ⟨hus, ink⟩, rfl⟩ := pc
    rw [List.length_map] at hus
    simp only [rd0, rd1, rd2, rd3, rd4, rd5, rd6, rd7, rd8, rd9, reduceIte, reduceCtorEq, Nat.reduceAdd, Nat.reduceSub]
    refine ⟨us, SqL.of aD, by omega, fun pR ys hpR hperm _ => ?_⟩
    refine q pR _ ys (s4.trans (s10.trans ((au hd).trans (au hpR)))) aD ?_ ?_
    ·have := hperm.length_eq
     have := SRT.yC us
     omega
    ·intro n hn
     exact ink n (SRT.Kl.mp (hperm.mem_iff.mp hn))
abbrev cW : Stmt := top 23
theorem gA : bJ ["_law_script", "_law_k", "_law_tape_here", "_law_choice", "_law_width", "_law_sign", "_law_cases", "_law_kept", "_law_due", "_law_items_here", "_law_item_here", "_law_turn", "_law_found", "_law_number_here"] ["_law_script"] (ak cW) := ⟨rfl, rfl, rfl, by decide +kernel, rfl, by decide +kernel, by decide +kernel⟩
theorem Ei : Nm ["_law_script", "_law_k", "_law_tape_here", "_law_choice", "_law_width", "_law_sign", "_law_cases", "_law_kept", "_law_due", "_law_items_here", "_law_item_here", "_law_turn", "_law_found", "_law_number_here"] (ak cW) 0 "_law_script" := .of (by decide +kernel)
theorem Eh : Nm ["_law_script", "_law_k", "_law_tape_here", "_law_choice", "_law_width", "_law_sign", "_law_cases", "_law_kept", "_law_due", "_law_items_here", "_law_item_here", "_law_turn", "_law_found", "_law_number_here"] (ak cW) 1 "_law_k" := .of (by decide +kernel)
theorem Eg : Nm ["_law_script", "_law_k", "_law_tape_here", "_law_choice", "_law_width", "_law_sign", "_law_cases", "_law_kept", "_law_due", "_law_items_here", "_law_item_here", "_law_turn", "_law_found", "_law_number_here"] (ak cW) 2 "_law_tape_here" := .of (by decide +kernel)
theorem jX : Nm ["_law_script", "_law_k", "_law_tape_here", "_law_choice", "_law_width", "_law_sign", "_law_cases", "_law_kept", "_law_due", "_law_items_here", "_law_item_here", "_law_turn", "_law_found", "_law_number_here"] (ak cW) 3 "_law_choice" := .of (by decide +kernel)
theorem rZ : Nm ["_law_script", "_law_k", "_law_tape_here", "_law_choice", "_law_width", "_law_sign", "_law_cases", "_law_kept", "_law_due", "_law_items_here", "_law_item_here", "_law_turn", "_law_found", "_law_number_here"] (ak cW) 4 "_law_width" := .of (by decide +kernel)
theorem Nk : Nm ["_law_script", "_law_k", "_law_tape_here", "_law_choice", "_law_width", "_law_sign", "_law_cases", "_law_kept", "_law_due", "_law_items_here", "_law_item_here", "_law_turn", "_law_found", "_law_number_here"] (ak cW) 5 "_law_sign" := .of (by decide +kernel)
theorem Ef : Nm ["_law_script", "_law_k", "_law_tape_here", "_law_choice", "_law_width", "_law_sign", "_law_cases", "_law_kept", "_law_due", "_law_items_here", "_law_item_here", "_law_turn", "_law_found", "_law_number_here"] (ak cW) 6 "_law_cases" := .of (by decide +kernel)
theorem Ed : Nm ["_law_script", "_law_k", "_law_tape_here", "_law_choice", "_law_width", "_law_sign", "_law_cases", "_law_kept", "_law_due", "_law_items_here", "_law_item_here", "_law_turn", "_law_found", "_law_number_here"] (ak cW) 7 "_law_kept" := .of (by decide +kernel)
theorem oA : Nm ["_law_script", "_law_k", "_law_tape_here", "_law_choice", "_law_width", "_law_sign", "_law_cases", "_law_kept", "_law_due", "_law_items_here", "_law_item_here", "_law_turn", "_law_found", "_law_number_here"] (ak cW) 8 "_law_due" := .of (by decide +kernel)
theorem rY : Nm ["_law_script", "_law_k", "_law_tape_here", "_law_choice", "_law_width", "_law_sign", "_law_cases", "_law_kept", "_law_due", "_law_items_here", "_law_item_here", "_law_turn", "_law_found", "_law_number_here"] (ak cW) 9 "_law_items_here" := .of (by decide +kernel)
theorem xY : Nm ["_law_script", "_law_k", "_law_tape_here", "_law_choice", "_law_width", "_law_sign", "_law_cases", "_law_kept", "_law_due", "_law_items_here", "_law_item_here", "_law_turn", "_law_found", "_law_number_here"] (ak cW) 10 "_law_item_here" := .of (by decide +kernel)
theorem Jy : Nm ["_law_script", "_law_k", "_law_tape_here", "_law_choice", "_law_width", "_law_sign", "_law_cases", "_law_kept", "_law_due", "_law_items_here", "_law_item_here", "_law_turn", "_law_found", "_law_number_here"] (ak cW) 11 "_law_turn" := .of (by decide +kernel)
theorem lA : Nm ["_law_script", "_law_k", "_law_tape_here", "_law_choice", "_law_width", "_law_sign", "_law_cases", "_law_kept", "_law_due", "_law_items_here", "_law_item_here", "_law_turn", "_law_found", "_law_number_here"] (ak cW) 12 "_law_found" := .of (by decide +kernel)
theorem su : Nm ["_law_script", "_law_k", "_law_tape_here", "_law_choice", "_law_width", "_law_sign", "_law_cases", "_law_kept", "_law_due", "_law_items_here", "_law_item_here", "_law_turn", "_law_found", "_law_number_here"] (ak cW) 13 "_law_number_here" := .of (by decide +kernel)
theorem pK : (ak cW).names.lookup ("_law_borders" : Str) = some .globalImplicit := by decide +kernel
theorem uR : (ak cW).names.lookup ("_law_items" : Str) = some .globalImplicit := by decide +kernel
theorem mW : (ak cW).names.lookup ("_law_label" : Str) = some .globalImplicit := by decide +kernel
theorem wD : (ak cW).names.lookup ("_law_same" : Str) = some .globalImplicit := by decide +kernel
theorem wC : (ak cW).names.lookup ("_law_tape" : Str) = some .globalImplicit := by decide +kernel
theorem mK : (ak cW).names.lookup ("_law_wild_choice" : Str) = some .globalImplicit := by decide +kernel
theorem oJ : (ak cW).names.lookup ("by_pattern" : Str) = some .globalImplicit := by decide +kernel
theorem Fp : (ak cW).names.lookup ("len" : Str) = some .globalImplicit := by decide +kernel
theorem Fo : (ak cW).names.lookup ("min" : Str) = some .globalImplicit := by decide +kernel
theorem oH : (ak cW).names.lookup ("range" : Str) = some .globalImplicit := by decide +kernel
theorem qC : (ak cW).names.lookup ("repr" : Str) = some .globalImplicit := by decide +kernel
def xq (K : PySem.W.Frag) : Sp := fun vs H Q _ => ∃ (a : Addr) (ns : List Int), vs = [.ref a] ∧ SqL K H a (ns.map V.int) ∧ ns.length ≤ 63 ∧ ∀ H', Q (.bl true) H'
theorem vI {w s : Int} {css : List (List It1)} (h1 : 1 ≤ w) (h2 : w ≤ 40) (hs : s = 0 ∨ s = 1) (hok : ∀ its ∈ css, its.length ≤ 31 ∧ ∀ it ∈ its, it.Ok w s) (hl : css.length ≤ 13) : Shw (cJ w s css) := by
 have b : Bd (1 + 13 * (1 + 31 * 4)) 3 (.list (css.map fP)) := yI (fun d hd => by
  obtain ⟨its, hi, rfl⟩ := List.mem_map.mp hd
  exact KC h1 h2 hs (hok its hi).2 (hok its hi).1) (by rw [List.length_map]; exact hl)
 exact ((Gf h1 h2 hs b (by decide)).tell (by decide) (by decide)).shw
theorem Lw {css : List (List It1)} {m : Nat} (h : ∀ its ∈ css, its.length ≤ m) : (css.map List.length).sum ≤ css.length * m := by
 induction css with
 | nil => simp
 | cons c css ih =>
  have h1 := h c (List.mem_cons_self ..)
  have h2 := ih fun its hi => h its (List.mem_cons_of_mem _ hi)
  simp only [List.map_cons, List.sum_cons, List.length_cons]
  rw [Nat.succ_mul]
  omega
theorem BZ {vs : List V} {x y : V} : (vs ++ [x]).set vs.length y = vs ++ [y] := by
 rw [List.set_append_right _ _ (Nat.le_refl _), Nat.sub_self]
 rfl
theorem Ew {vs : List V} {x : V} : ixN (vs ++ [x]).length (-1) = some vs.length := by
 unfold ixN
 rw [List.length_append, List.length_singleton, if_neg (by decide), if_pos (by omega)]
 congr 1
 omega
theorem Nj (hB : ∀ x : Str, x ∈ BLs → mg x = none) (CByPattern : Cal P w K mg base "by_pattern" 3 ["choice"] xr) (CZTape : Cal P w K mg base "_law_tape" 2 ["_law_script", "_law_k"] (BJ K)) (CZItems : Cal P w K mg base "_law_items" 1 ["_law_width", "_law_item_here"] qX)
  (CZWildChoice : Cal P w K mg base "_law_wild_choice" 5 ["_law_tape_here"] Bx) (CZBorders : Cal P w K mg base "_law_borders" 3 ["_law_choice"] nT) (CZLabel : Cal P w K mg base "_law_label" 3 ["_law_choice", "_law_number_here"] tO) (CZSame : Cal P w K mg base "_law_same" 5 ["_law_found", "_law_due"] (kj 5))
  (F : Fun K "law" "law" cW f fd) : dg P w K mg base CX0 63 f fd ["_law_script"] (xq K) := by
 refine F.okq gA (fun vs H Q E h => ?_) (fun cdv A outer s H vs Q E hr h => ?_)
 ·obtain ⟨a, ns, rfl, _⟩ := h
  rfl
 ·obtain ⟨a, ns, rfl, hS, h63, q⟩ := h
  refine ⟨_, (aA (fu PassesOwn.never rfl (dU oH (hB "range" eN) (aj (aF bh ao (cB (mL rfl) Fo (hB "min" wk) boot_min wK (aj ao (aj (cB gj Fp (hB "len" mF) PySem.boot_len mO (aj (aH Ei) aq)) aq)))) aq)) (cj Eh gA.nd)
   (aA (bQ Eg gA.nd (bC CZTape (hr.mono (by decide)) wC Ks (aj (aH Ei) (aj (aH Eh) aq))))
   (aA (bQ jX gA.nd (bC CZWildChoice (hr.mono (by decide)) mK pN (aj (aH Eg) aq)))
   (aA (iz (aH jX) (jg (n := 3) rfl (bG (cj rZ gA.nd) (bG (cj Nk gA.nd) (bG (cj Ef gA.nd) gb)))))
   (aA (bQ Ed gA.nd (cB (oO hr.gd hr.KR) qC (hB "repr" yc) boot_repr yG (aj (aH jX) aq)))
   (aA (bQ oA gA.nd (cH aq))
   (aA (fu PassesOwn.never rfl (fH (aH Ef)) (cj rY gA.nd)
   (aA (kZ (lq (aH oA) (cH aq)))
   (aN (fu PassesOwn.never rfl (fH (aH rY)) (cj xY gA.nd)
   (aN (iz (aF bh (bA bW (aH oA) (uw nP ao) (fun _ _ => rfl)) (bC CZItems (hr.mono (by decide)) uR Gd (aj (aH rZ) (aj (aH xY) aq)))) (Ib (aH oA) (uw nP ao) xG)))))))
   (aN (fu PassesOwn.never rfl (dU oH (hB "range" eN) (aj ao aq)) (cj Jy gA.nd)
   (aA (bQ lA gA.nd (bC CByPattern (hr.mono (by decide)) oJ u9 (aj (aH jX) aq)))
   (aA (cI (uo (qb (Mf (jw (bC CZSame (hr.mono (by decide)) wD yH (aj (aH lA) (aj (cQ (aj (aH rZ) (aj ao (aj (aH oA) aq)))) aq))))) (nY (aW (jh hr.bw) (cB (oO hr.gd hr.KR) qC (hB "repr" yc) boot_repr yG (aj (aH jX) aq)) (aH Ed) (aP _))))) (aN (aQ ux)) bO)
   (aA (fu PassesOwn.never rfl (fH (bC CZBorders (hr.mono (by decide)) pK wL (aj (aH jX) aq))) (cj su gA.nd)
   (aN (cI (aW (jh hr.bw) (bC CZLabel (hr.mono (by decide)) mW u6 (aj (aH jX) (aj (aH su) aq))) (bC CZLabel (hr.mono (by decide)) mW u6 (aj (aH lA) (aj (aF dj (aH su) (aF cM ao (aH rZ))) aq))) (aP _)) (aN (aQ ux)) bO)))
   (aA (fu PassesOwn.never rfl (fH (bA bW (aH lA) ao (fun _ _ => rfl))) (cj rY gA.nd)
   (aN (kZ (lq (aH rY) (cQ (aj b8 (aj ao aq)))))))
   (aN (kZ (lq (bA bW (aH lA) ao (fun _ _ => rfl)) (cH aq)))))))))))))))))
   (aN (aQ ux))), ?_⟩
  refine aY fun k hk => ?_
  refine iW fun R hR => ?_
  simp only [rd0, rd1, rd2, rd3, rd4, rd5, rd6, rd7, rd8, rd9, reduceIte, reduceCtorEq, Nat.reduceAdd, Nat.reduceSub, jA]
  refine ⟨_, .inl hS, ?_⟩
  rw [List.length_map]
  have m6 : (0 : Int) ≤ 1 + (if (ns.length : Int) < 6 then (ns.length : Int) else 6) ∧ 1 + (if (ns.length : Int) < 6 then (ns.length : Int) else 6) ≤ 7 := by
   split <;> omega
  refine ⟨by omega, by omega, ?_⟩
  obtain ⟨Pv, hPv⟩ : ∃ Pv : Nat → L2.St → Hp → Prop, Pv = fun (i : Nat) σ H' => Same H H' ∧ ∃ o1 o2 o3 o4 o5 o6 o7 o8 o9 o10 o11 o12 o13, σ = [some (.ref a), o1, o2, o3, o4, o5, o6, o7, o8, o9, o10, o11, o12, o13] := ⟨_, rfl⟩
  refine qF hR Pv (by rw [hPv]; exact ⟨Same.refl _, none, none, none, none, none, none, none, none, none, none, none, none, none, rfl⟩) ?_ ?_
  ·intro i σ H1 hi pv
   rw [hPv] at pv
   obtain ⟨s1, o1, o2, o3, o4, o5, o6, o7, o8, o9, o10, o11, o12, o13, rfl⟩ := pv
   refine aY fun k2 hk2 => ?_
   simp only [rd0, rd1, rd2, rd3, rd4, rd5, rd6, rd7, rd8, rd9, reduceIte, reduceCtorEq, Nat.reduceAdd, Nat.reduceSub]
   refine ⟨a, ns, (0 : Int) + (i : Int), rfl, s1.seq hS, by omega, by omega, fun p H2 hp s2 tp => ?_⟩
   simp only [rd0, rd1, rd2, rd3, rd4, rd5, rd6, rd7, rd8, rd9, reduceIte, reduceCtorEq, Nat.reduceAdd, Nat.reduceSub]
   subst hk2
   have hp0 : H p = none := s1.none hp
   refine aY fun k2 hk2 => ?_
   simp only [rd0, rd1, rd2, rd3, rd4, rd5, rd6, rd7, rd8, rd9, reduceIte, reduceCtorEq, Nat.reduceAdd, Nat.reduceSub]
   refine ⟨p, 0, rfl, tp, by decide, by decide, fun w s t css H3 hw1 hw2 hs s3 tp3 tr3 hok3 hl3 => ?_⟩
   simp only [rd0, rd1, rd2, rd3, rd4, rd5, rd6, rd7, rd8, rd9, reduceIte, reduceCtorEq, Nat.reduceAdd, Nat.reduceSub]
   subst hk2
   have b1 := iG hw1 hw2 hs
   have p1 := two_pow_pos w.toNat
   have p2 := dW (k := w.toNat) (by omega)
   have sx3 : bN p H H3 := ((s1.trans s2).x (p := p)).trans s3
   have hok4 : ∀ its ∈ css, its.length ≤ 31 ∧ ∀ it ∈ its, it.Ok w s := fun its hi => ⟨Nat.le_trans (hok3 its hi).1 (by decide), (hok3 its hi).2⟩
   have hsum : (css.map List.length).sum ≤ 110 := by
    have := Lw fun its hi => (hok3 its hi).1
    omega
   have shw := vI hw1 hw2 hs hok4 (Nat.le_trans hl3 (by decide))
   obtain ⟨t', c, xs, e, op, ep, oc, ec, z, ts⟩ := fJ tr3
   cases e
   have hxl := ts.length
   rw [List.length_map] at hxl
   refine aY fun k2 hk2 => ?_
   simp only [rd0, rd1, rd2, rd3, rd4, rd5, rd6, rd7, rd8, rd9, reduceIte, reduceCtorEq, Nat.reduceAdd, Nat.reduceSub, ep]
   subst hk2
   refine aY fun k2 hk2 => ?_
   simp only [rd0, rd1, rd2, rd3, rd4, rd5, rd6, rd7, rd8, rd9, reduceIte, reduceCtorEq, Nat.reduceAdd, Nat.reduceSub]
   refine ⟨_, _, _, rfl, tr3, shw, ?_⟩
   subst hk2
   refine aY fun k2 hk2 => ?_
   simp only [rd0, rd1, rd2, rd3, rd4, rd5, rd6, rd7, rd8, rd9, reduceIte, reduceCtorEq, Nat.reduceAdd, Nat.reduceSub]
   refine ⟨aZ (by decide), fun d hd => ?_⟩
   have s4 := au (o := HO.lst []) hd
   have e4 : upd H3 d (HO.lst []) d = _ := aD
   generalize upd H3 d (HO.lst []) = H4 at s4 e4 ⊢
   subst hk2
   refine aY fun k2 hk2 => ?_
   have ec4 := s4 _ _ ec
   refine iW fun R2 hR2 => ?_
   simp only [rd0, rd1, rd2, rd3, rd4, rd5, rd6, rd7, rd8, rd9, reduceIte, reduceCtorEq, Nat.reduceAdd, Nat.reduceSub, ec4]
   obtain ⟨Pw, hPw⟩ : ∃ Pv : Nat → L2.St → Hp → Prop, Pv = fun (i2 : Nat) σ H' => ∃ (vs : List V) (o9 o10 : Option V), bN d H3 H' ∧ H' d = some (.lst vs) ∧ aL (· ≠ d) H' vs ((css.take i2).map fun its => fP (jq w its)) ∧ σ = [some (.ref a), some (.int (0 + (i : Int))), some (.ref p), some (.ref t), some (.int w), some (.int s), some (.ref c), some (V.str (cJ w s css).shown), some (.ref d), o9, o10, o11, o12, o13] := ⟨_, rfl⟩
   refine qG hR2 (xs := xs) Pw (by rw [hPw]; exact ⟨_, _, _, s4.x, e4, .nil, rfl⟩) (fun i2 σ H' _ pv => ?_) ?_ ?_
   ·rw [hPw] at pv
    obtain ⟨_, _, _, s', _⟩ := pv
    exact SqL.of (nF s' hd _ _ ec)
   ·intro i2 x σ H5 hx pv
    rw [hPw] at pv
    obtain ⟨vs, o9, o10, s5, e5, tv5, rfl⟩ := pv
    have hvl := tv5.length
    rw [List.length_map, List.length_take] at hvl
    have S5 := nF s5 hd
    have ts5 : aL (· ≠ d) H5 xs (css.map fP) := ts.keep fun a o _ e => ⟨aB e hd, S5 _ _ e⟩
    obtain ⟨dd, hdd, td⟩ := ts5.get hx
    rw [List.getElem?_map] at hdd
    obtain ⟨its, hits, rfl⟩ := Option.map_eq_some_iff.mp hdd
    obtain ⟨q0, us, rfl, o5, eq, z5, tu5⟩ := iH td
    have hoks := hok4 its (List.mem_of_getElem? hits)
    have hul := tu5.length
    rw [List.length_map] at hul
    refine aY fun k3 hk3 => ?_
    simp only [rd0, rd1, rd2, rd3, rd4, rd5, rd6, rd7, rd8, rd9, reduceIte, reduceCtorEq, Nat.reduceAdd, Nat.reduceSub, e5]
    refine ⟨Nat.zero_le _, fun e1 he1 => ?_⟩
    rw [aJ (aB e5 he1), e5, jN]
    refine ⟨Nat.lt_of_lt_of_le (by omega) (aZ (Nat.le_refl 9000)), ?_⟩
    have nd1 : e1 ≠ d := (aB e5 he1).symm
    have s6 : bN d H5 (upd (upd H5 e1 (HO.lst [])) d (HO.lst (vs ++ [V.ref e1]))) := (au he1).x.trans bN.upd
    have d6 : upd (upd H5 e1 (HO.lst [])) d (HO.lst (vs ++ [V.ref e1])) d = _ := aD
    have e6 : upd (upd H5 e1 (HO.lst [])) d (HO.lst (vs ++ [V.ref e1])) e1 = some (.lst []) := by rw [aJ nd1, aD]
    generalize upd (upd H5 e1 (HO.lst [])) d (HO.lst (vs ++ [V.ref e1])) = H6 at s6 d6 e6 ⊢
    have tv6 := tv5.ud s6
    have tu6 := tu5.ud s6
    have eq6 := s6 _ _ o5 eq
    subst hk3
    refine iW fun R3 hR3 => ?_
    simp only [rd0, rd1, rd2, rd3, rd4, rd5, rd6, rd7, rd8, rd9, reduceIte, reduceCtorEq, Nat.reduceAdd, Nat.reduceSub, eq6]
    obtain ⟨Px, hPx⟩ : ∃ Pv : Nat → L2.St → Hp → Prop, Pv = fun (j : Nat) σ H' => ∃ (e2 : Addr) (ws : List V) (o10 : Option V), bN d H6 H' ∧ H' d = some (.lst (vs ++ [V.ref e2])) ∧ e2 ≠ d ∧ H' e2 = some (.lst ws) ∧ aL (· ≠ d) H' ws ((jq w (its.take j)).map itD) ∧ σ = [some (.ref a), some (.int (0 + (i : Int))), some (.ref p), some (.ref t), some (.int w), some (.int s), some (.ref c), some (V.str (cJ w s css).shown), some (.ref d), some (.ref q0), o10, o11, o12, o13] := ⟨_, rfl⟩
    refine qG hR3 (xs := us) Px (by rw [hPx]; exact ⟨_, _, _, bN.refl _ _, d6, nd1, e6, .nil, rfl⟩) (fun j σ H' _ pv => ?_) ?_ ?_
    ·rw [hPx] at pv
     obtain ⟨_, _, _, s', _⟩ := pv
     exact SqL.of (s' _ _ o5 eq6)
    ·intro j x σ H7 hx7 pv
     rw [hPx] at pv
     obtain ⟨e2, ws, o10', s7, d7, nd2, e7, tw7, rfl⟩ := pv
     obtain ⟨dd, hdd, td7⟩ := (tu6.ud s7).get hx7
     rw [List.getElem?_map] at hdd
     obtain ⟨it, hit, rfl⟩ := Option.map_eq_some_iff.mp hdd
     have hwl := tw7.length
     rw [List.length_map] at hwl
     have hlp := iM w (its.take j)
     have hlt : (its.take j).length ≤ its.length := by rw [List.length_take]; omega
     have hli := n6 w it
     simp only [rd0, rd1, rd2, rd3, rd4, rd5, rd6, rd7, rd8, rd9, reduceIte, reduceCtorEq, Nat.reduceAdd, Nat.reduceSub, d7, lW]
     refine ⟨w, s, x, (· ≠ d), it, rfl, hw1, hw2, hs, td7, hoks.2 it (List.mem_of_getElem? hit), Dz d7, fun p9 us9 H9 s9 e9 t9 => ?_⟩
     have e8 := s9 _ _ e7
     have d9 := s9 _ _ d7
     have hu9 := t9.length
     rw [List.length_map] at hu9
     simp only [rd0, rd1, rd2, rd3, rd4, rd5, rd6, rd7, rd8, rd9, reduceIte, reduceCtorEq, Nat.reduceAdd, Nat.reduceSub, e8, e9]
     refine ⟨aZ (by omega), fun z9 hz9 => ?_⟩
     have nz : z9 ≠ d := (aB d9 hz9).symm
     rw [aJ nz.symm, d9, wY]
     refine ⟨vs.length, Ew, ?_⟩
     rw [BZ]
     have sx9 : bN d H9 (upd (upd H9 z9 (HO.lst (ws ++ us9))) d (HO.lst (vs ++ [V.ref z9]))) := (au hz9).x.trans bN.upd
     rw [hPx]
     refine ⟨z9, ws ++ us9, _, s7.trans (s9.x.trans sx9), aD, nz, by rw [aJ nz, aD], ?_, rfl⟩
     rw [qd hit, List.map_append]
     exact ((tw7.same s9).append t9).ud sx9
    ·intro σ H7 pv
     rw [hPx] at pv
     obtain ⟨e2, ws, o10', s7, d7, nd2, e7, tw7, rfl⟩ := pv
     rw [List.take_of_length_le (by omega)] at tw7
     have hwl := tw7.length
     rw [List.length_map] at hwl
     have hlp := iM w its
     rw [hPw]
     refine ⟨vs ++ [V.ref e2], _, _, s5.trans (s6.trans s7), d7, ?_, rfl⟩
     rw [List.take_add_one, hits, List.map_append]
     exact (tv6.ud s7).append (.cons (.lst nd2 e7 (by omega) tw7) .nil)
   ·intro σ H5 pv
    rw [hPw] at pv
    obtain ⟨vs, o9, o10, s5, e5, tv5, rfl⟩ := pv
    rw [List.take_of_length_le (by omega)] at tv5
    have hvl := tv5.length
    rw [List.length_map] at hvl
    have S5 := nF s5 hd
    show k2 _ _
    subst hk2
    refine iW fun R3 hR3 => ?_
    simp only [rd0, rd1, rd2, rd3, rd4, rd5, rd6, rd7, rd8, rd9, reduceIte, reduceCtorEq, Nat.reduceAdd, Nat.reduceSub, jA]
    refine ⟨by decide, by decide, ?_⟩
    have td5 : aR (fun _ => True) H5 (.ref d) (.list ((css.map (jq w)).map fP)) := .lst trivial e5 (by omega) (by
     rw [List.map_map]
     exact tv5.keep fun a o _ e => ⟨trivial, e⟩)
    obtain ⟨Py, hPy⟩ : ∃ Pv : Nat → L2.St → Hp → Prop, Pv = fun (j : Nat) σ H' => ∃ (o9 o10 o11 o12 o13 : Option V), Same H5 H' ∧ σ = [some (.ref a), some (.int (0 + (i : Int))), some (.ref p), some (.ref t), some (.int w), some (.int s), some (.ref c), some (V.str (cJ w s css).shown), some (.ref d), o9, o10, o11, o12, o13] := ⟨_, rfl⟩
    refine qF hR3 Py (by rw [hPy]; exact ⟨_, _, _, _, _, Same.refl _, rfl⟩) ?_ ?_
    ·intro j σ H6 hj pv
     rw [hPy] at pv
     obtain ⟨o9, o10, o11, o12, o13, s6, rfl⟩ := pv
     have tr6 : aR (fun _ => True) H6 (.ref t) (cJ w s css) := tr3.keep fun a o _ e => ⟨trivial, (S5.trans s6) _ _ e⟩
     have td6 := td5.same s6
     refine aY fun k3 hk3 => ?_
     simp only [rd0, rd1, rd2, rd3, rd4, rd5, rd6, rd7, rd8, rd9, reduceIte, reduceCtorEq, Nat.reduceAdd, Nat.reduceSub]
     refine ⟨w, s, _, fun _ => True, css, rfl, hw1, hw2, hs, tr6, hok4, by omega, zB, fun p7 c7 ls H7 s7 ep7 ec7 nc7 hc7 hls7 hll7 t7 => ?_⟩
     subst hk3
     refine aY fun k3 hk3 => ?_
     simp only [rd0, rd1, rd2, rd3, rd4, rd5, rd6, rd7, rd8, rd9, reduceIte, reduceCtorEq, Nat.reduceAdd, Nat.reduceSub]
     refine ⟨aZ (by decide), fun u hu => ?_⟩
     have s8 := au (o := HO.tup [V.int w, V.int 0, V.ref d]) hu
     have tu8 : aR (fun _ => True) (upd H7 u (HO.tup [V.int w, V.int 0, V.ref d])) (.ref u) (cJ w 0 (css.map (jq w))) :=
      .tup trivial aD (by show 3 ≤ 9000; decide) (.cons (.int _) (.cons (.int _) (.cons ((td6.same s7).same s8) .nil)))
     generalize upd H7 u (HO.tup [V.int w, V.int 0, V.ref d]) = H8 at s8 tu8 ⊢
     refine ⟨_, _, fun _ => True, _, rfl, t7.same s8, tu8, Nat.lt_succ_of_le (sU _ _ _), fun H9 s9 => ?_⟩
     have s79 := s8.trans s9
     have tr9 := (tr6.same s7).same s79
     have t9 := t7.same s79
     simp only [rd0, rd1, rd2, rd3, rd4, rd5, rd6, rd7, rd8, rd9, reduceIte, reduceCtorEq, Nat.reduceAdd, Nat.reduceSub]
     refine ⟨_, _, _, rfl, tr9, shw, ?_⟩
     simp only [rd0, rd1, rd2, rd3, rd4, rd5, rd6, rd7, rd8, rd9, reduceIte, reduceCtorEq, Nat.reduceAdd, Nat.reduceSub]
     subst hk3
     refine aY fun k3 hk3 => ?_
     refine iW fun R4 hR4 => ?_
     simp only [rd0, rd1, rd2, rd3, rd4, rd5, rd6, rd7, rd8, rd9, reduceIte, reduceCtorEq, Nat.reduceAdd, Nat.reduceSub]
     refine ⟨_, w, s, _, css, rfl, hw1, hw2, hs, tr9, fun its hi => (hok4 its hi).2, hsum, fun pB H10 nB sB eB lB iB => ?_⟩
     simp only [rd0, rd1, rd2, rd3, rd4, rd5, rd6, rd7, rd8, rd9, reduceIte, reduceCtorEq, Nat.reduceAdd, Nat.reduceSub, eB]
     obtain ⟨Pz, hPz⟩ : ∃ Pv : Nat → L2.St → Hp → Prop, Pv = fun (l : Nat) σ H' => ∃ (o13 : Option V), Same H10 H' ∧ σ = [some (.ref a), some (.int (0 + (i : Int))), some (.ref p), some (.ref t), some (.int w), some (.int s), some (.ref c), some (V.str (cJ w s css).shown), some (.ref d), o9, o10, some (V.int (0 + (j : Int))), some (V.ref p7), o13] := ⟨_, rfl⟩
     refine qG hR4 (xs := nB.map V.int) Pz (by rw [hPz]; exact ⟨_, Same.refl _, rfl⟩) (fun l σ H' _ pv => ?_) ?_ ?_
     ·rw [hPz] at pv
      obtain ⟨_, s', _⟩ := pv
      exact SqL.of (s' _ _ eB)
     ·intro l x σ H11 hx pv
      rw [hPz] at pv
      obtain ⟨o13', s11, rfl⟩ := pv
      obtain ⟨n, hnn, rfl⟩ := List.mem_map.mp (List.mem_of_getElem? hx)
      have sB11 := sB.trans s11
      simp only [rd0, rd1, rd2, rd3, rd4, rd5, rd6, rd7, rd8, rd9, reduceIte, reduceCtorEq, Nat.reduceAdd, Nat.reduceSub]
      refine ⟨_, n, w, s, _, css, rfl, hw1, hw2, tr9.same sB11, fun H12 s12 => ?_⟩
      simp only [rd0, rd1, rd2, rd3, rd4, rd5, rd6, rd7, rd8, rd9, reduceIte, reduceCtorEq, Nat.reduceAdd, Nat.reduceSub, Int.one_mul]
      refine ⟨⟨by omega, by omega, by decide⟩, p1, _, n % 2 ^ w.toNat, w, 0, _, css.map (jq w), rfl, hw1, hw2, (t9.same sB11).same s12, fun H13 s13 => ?_⟩
      rw [uN hw1 hs (iB n hnn) fun its hi => (hok4 its hi).2]
      simp only [rd0, rd1, rd2, rd3, rd4, rd5, rd6, rd7, rd8, rd9, reduceIte, reduceCtorEq, Nat.reduceAdd, Nat.reduceSub]
      rw [hPz]
      exact ⟨_, s11.trans (s12.trans s13), rfl⟩
     ·intro σ H11 pv
      rw [hPz] at pv
      obtain ⟨o13', s11, rfl⟩ := pv
      have sB11 := sB.trans s11
      show k3 _ _
      subst hk3
      refine aY fun k3 hk3 => ?_
      refine iW fun R5 hR5 => ?_
      have ep11 := sB11 _ _ (s79 _ _ ep7)
      have ec11 := sB11 _ _ (s79 _ _ ec7)
      have hq7 : ∀ q ∈ ls, ∃ us, H7 q = some (.lst us) ∧ us.length ≤ 62 := fun q hq => by
       obtain ⟨p', c', vs', e', _, ep', _, ec', _, ts'⟩ := fJ t7
       cases e'
       rw [ep7] at ep'
       cases ep'
       rw [ec7] at ec'
       cases ec'
       obtain ⟨l, hl⟩ := List.mem_iff_getElem?.mp (List.mem_map_of_mem (f := V.ref) hq)
       obtain ⟨dd, hdd, tq⟩ := ts'.get hl
       rw [List.getElem?_map, List.getElem?_map] at hdd
       obtain ⟨its', hits', rfl⟩ := Option.map_eq_some_iff.mp hdd
       obtain ⟨its, hits, rfl⟩ := Option.map_eq_some_iff.mp hits'
       obtain ⟨q', us, e', _, eq, _, tus⟩ := iH tq
       cases e'
       have h1 := tus.length
       rw [List.length_map] at h1
       have h2 := iM w its
       have h3 := (hok4 its (List.mem_of_getElem? hits)).1
       exact ⟨us, eq, by omega⟩
      simp only [rd0, rd1, rd2, rd3, rd4, rd5, rd6, rd7, rd8, rd9, reduceIte, reduceCtorEq, Nat.reduceAdd, Nat.reduceSub, ep11, ec11]
      obtain ⟨Pq, hPq⟩ : ∃ Pv : Nat → L2.St → Hp → Prop, Pv = fun (l : Nat) σ H' => ∃ (o9 : Option V), Same H6 H' ∧ H' p7 = some (.tup [.int w, .int 0, .ref c7]) ∧ H' c7 = some (.lst (ls.map V.ref)) ∧ (∀ q ∈ ls, ∃ us, H' q = some (.lst us) ∧ us.length ≤ 62 + l) ∧ σ = [some (.ref a), some (.int (0 + (i : Int))), some (.ref p), some (.ref t), some (.int w), some (.int s), some (.ref c), some (V.str (cJ w s css).shown), some (.ref d), o9, o10, some (V.int (0 + (j : Int))), some (V.ref p7), o13'] := ⟨_, rfl⟩
      refine qG hR5 (xs := ls.map V.ref) Pq (by
       rw [hPq]
       refine ⟨_, s7.trans (s79.trans sB11), ep11, ec11, fun q hq => ?_, rfl⟩
       obtain ⟨us, e, h⟩ := hq7 q hq
       exact ⟨us, sB11 _ _ (s79 _ _ e), h⟩) (fun l σ H' _ pv => ?_) ?_ ?_
      ·rw [hPq] at pv
       obtain ⟨_, _, _, e', _⟩ := pv
       exact SqL.of e'
      ·intro l x σ H12 hx pv
       rw [hPq] at pv
       obtain ⟨o9', s12, ep12, ec12, hq12, rfl⟩ := pv
       have hll : l < (ls.map V.ref).length := (List.getElem?_eq_some_iff.mp hx).1
       rw [List.length_map] at hll
       obtain ⟨q, hq, rfl⟩ := List.mem_map.mp (List.mem_of_getElem? hx)
       obtain ⟨us, eq12, hus⟩ := hq12 q hq
       simp only [rd0, rd1, rd2, rd3, rd4, rd5, rd6, rd7, rd8, rd9, reduceIte, reduceCtorEq, Nat.reduceAdd, Nat.reduceSub, eq12]
       refine ⟨aZ (by decide), fun u2 hu2 => ?_⟩
       have s13 := au (o := HO.tup [V.str "is", V.int 0]) hu2
       rw [s13 _ _ eq12, jN]
       refine ⟨Nat.lt_of_lt_of_le (by omega) (aZ (Nat.le_refl 9000)), ?_⟩
       have ep13 := s13 _ _ ep12
       have ec13 := s13 _ _ ec12
       have eq13 := s13 _ _ eq12
       have hq13 : ∀ q ∈ ls, ∃ us, upd H12 u2 (HO.tup [V.str "is", V.int 0]) q = some (.lst us) ∧ us.length ≤ 62 + l := fun q hq => by
        obtain ⟨us, e, h⟩ := hq12 q hq
        exact ⟨us, s13 _ _ e, h⟩
       have s613 := s12.trans s13
       generalize upd H12 u2 (HO.tup [V.str "is", V.int 0]) = H13 at ep13 ec13 eq13 hq13 s613 ⊢
       rw [hPq]
       refine ⟨_, p8 s613 (hls7 q hq), ?_, ?_, fun q2 hq2 => ?_, rfl⟩
       ·rw [aJ (fun z => by rw [z, eq13] at ep13; cases ep13)]
        exact ep13
       ·rw [aJ (fun z => nc7 (by rw [z]; exact hq))]
        exact ec13
       ·by_cases h : q2 = q
        ·subst h
         exact ⟨_, aD, by rw [List.length_append, List.length_singleton]; omega⟩
        ·obtain ⟨us2, e, h2⟩ := hq13 q2 hq2
         exact ⟨us2, by rw [aJ h]; exact e, by omega⟩
      ·intro σ H12 pv
       rw [hPq] at pv
       obtain ⟨o9', s12, ep12, ec12, hq12, rfl⟩ := pv
       show k3 _ _
       subst hk3
       simp only [rd0, rd1, rd2, rd3, rd4, rd5, rd6, rd7, rd8, rd9, reduceIte, reduceCtorEq, Nat.reduceAdd, Nat.reduceSub, ep12, ec12]
       refine ⟨Nat.zero_le _, fun u2 hu2 => ?_⟩
       have s13 := au (o := HO.lst []) hu2
       rw [s13 _ _ ec12, jN]
       refine ⟨Nat.lt_of_lt_of_le (by rw [List.length_map]; omega) (aZ (Nat.le_refl 9000)), ?_⟩
       rw [hPy]
       exact ⟨_, _, _, _, _, s6.trans (p8 (s12.trans s13) hc7), rfl⟩
    ·intro σ H6 pv
     rw [hPy] at pv
     obtain ⟨o9, o10, o11, o12, o13, s6, rfl⟩ := pv
     show Pv _ _ _
     rw [hPv]
     exact ⟨nF (sx3.trans ((S5.trans s6).x)) hp0, _, _, _, _, _, _, _, _, _, _, _, _, _, rfl⟩
  ·intro σ H1 pv
   rw [hPv] at pv
   obtain ⟨s1, o1, o2, o3, o4, o5, o6, o7, o8, o9, o10, o11, o12, o13, rfl⟩ := pv
   show k _ _
   subst hk
   exact q _
end
theorem all_mk {l : PySem.W.OpenLaw} {w : World} {K : PySem.W.Frag} {h : Heap} {mg : Str → Option Value} {fa : Addr} {f1 : Addr} {od1 an1 : Option Addr} {sl1 : Array (Option Value)} {oc1 kV1 dc1 pm1 cd1 ct1 : Value} {f2 : Addr} {od2 an2 : Option Addr} {sl2 : Array (Option Value)} {oc2 kV2 dc2 pm2 cd2 ct2 : Value} {f3 : Addr} {od3 an3 : Option Addr} {sl3 : Array (Option Value)} {oc3 kV3 dc3 pm3 cd3 ct3 : Value} {f4 : Addr} {od4 an4 : Option Addr} {sl4 : Array (Option Value)} {oc4 kV4 dc4 pm4 cd4 ct4 : Value} {f5 : Addr} {od5 an5 : Option Addr} {sl5 : Array (Option Value)} {oc5 kV5 dc5 pm5 cd5 ct5 : Value} {f6 : Addr} {od6 an6 : Option Addr} {sl6 : Array (Option Value)} {oc6 kV6 dc6 pm6 cd6 ct6 : Value} {f7 : Addr} {od7 an7 : Option Addr} {sl7 : Array (Option Value)} {oc7 kV7 dc7 pm7 cd7 ct7 : Value} {f8 : Addr} {od8 an8 : Option Addr} {sl8 : Array (Option Value)} {oc8 kV8 dc8 pm8 cd8 ct8 : Value} {f9 : Addr} {od9 an9 : Option Addr} {sl9 : Array (Option Value)} {oc9 kV9 dc9 pm9 cd9 ct9 : Value} {f10 : Addr} {od10 an10 : Option Addr} {sl10 : Array (Option Value)} {oc10 kV10 dc10 pm10 cd10 ct10 : Value} {f11 : Addr} {od11 an11 : Option Addr} {sl11 : Array (Option Value)} {oc11 kV11 dc11 pm11 cd11 ct11 : Value} {f12 : Addr} {od12 an12 : Option Addr} {sl12 : Array (Option Value)} {oc12 kV12 dc12 pm12 cd12 ct12 : Value} {f13 : Addr} {od13 an13 : Option Addr} {sl13 : Array (Option Value)} {oc13 kV13 dc13 pm13 cd13 ct13 : Value} {f14 : Addr} {od14 an14 : Option Addr} {sl14 : Array (Option Value)} {oc14 kV14 dc14 pm14 cd14 ct14 : Value} {f15 : Addr} {od15 an15 : Option Addr} {sl15 : Array (Option Value)} {oc15 kV15 dc15 pm15 cd15 ct15 : Value} {f16 : Addr} {od16 an16 : Option Addr} {sl16 : Array (Option Value)} {oc16 kV16 dc16 pm16 cd16 ct16 : Value} {f17 : Addr} {od17 an17 : Option Addr} {sl17 : Array (Option Value)} {oc17 kV17 dc17 pm17 cd17 ct17 : Value} {f18 : Addr} {od18 an18 : Option Addr} {sl18 : Array (Option Value)} {oc18 kV18 dc18 pm18 cd18 ct18 : Value} {f19 : Addr} {od19 an19 : Option Addr} {sl19 : Array (Option Value)} {oc19 kV19 dc19 pm19 cd19 ct19 : Value} {f20 : Addr} {od20 an20 : Option Addr} {sl20 : Array (Option Value)} {oc20 kV20 dc20 pm20 cd20 ct20 : Value} {f21 : Addr} {od21 an21 : Option Addr} {sl21 : Array (Option Value)} {oc21 kV21 dc21 pm21 cd21 ct21 : Value} (X : K.In h) (G : h.Ns mainGlobals mg) (hfa : mg "law" = some (.ref fa))
  (a1 : PySem.W.nsIn K mainGlobals "most_of" = some (some (.ref f1))) (l1 : K.lookup f1 = some ⟨oc1, od1, .func (PySem.W.fnOf "most_of" "most_of" (bH fG) (bB fG) (ak fG) .none kV1 dc1 pm1 an1 cd1 ct1), sl1⟩) (c1 : PySem.W.codeIn K cd1 "most_of" = true) (k1 : PySem.W.keepIn K (.ref f1) = true)
  (a2 : PySem.W.nsIn K mainGlobals "pattern_of" = some (some (.ref f2))) (l2 : K.lookup f2 = some ⟨oc2, od2, .func (PySem.W.fnOf "pattern_of" "pattern_of" (bH cF) (bB cF) (ak cF) .none kV2 dc2 pm2 an2 cd2 ct2), sl2⟩) (c2 : PySem.W.codeIn K cd2 "pattern_of" = true) (k2 : PySem.W.keepIn K (.ref f2) = true)
  (a3 : PySem.W.nsIn K mainGlobals "pattern_items" = some (some (.ref f3))) (l3 : K.lookup f3 = some ⟨oc3, od3, .func (PySem.W.fnOf "pattern_items" "pattern_items" (bH bf) (bB bf) (ak bf) .none kV3 dc3 pm3 an3 cd3 ct3), sl3⟩) (c3 : PySem.W.codeIn K cd3 "pattern_items" = true) (k3 : PySem.W.keepIn K (.ref f3) = true)
  (a4 : PySem.W.nsIn K mainGlobals "by_pattern" = some (some (.ref f4))) (l4 : K.lookup f4 = some ⟨oc4, od4, .func (PySem.W.fnOf "by_pattern" "by_pattern" (bH bL) (bB bL) (ak bL) .none kV4 dc4 pm4 an4 cd4 ct4), sl4⟩) (c4 : PySem.W.codeIn K cd4 "by_pattern" = true) (k4 : PySem.W.keepIn K (.ref f4) = true)
  (a5 : PySem.W.nsIn K mainGlobals "_law_cell_at" = some (some (.ref f5))) (l5 : K.lookup f5 = some ⟨oc5, od5, .func (PySem.W.fnOf "_law_cell_at" "_law_cell_at" (bH fM) (bB fM) (ak fM) .none kV5 dc5 pm5 an5 cd5 ct5), sl5⟩) (c5 : PySem.W.codeIn K cd5 "_law_cell_at" = true) (k5 : PySem.W.keepIn K (.ref f5) = true)
  (a6 : PySem.W.nsIn K mainGlobals "_law_tape" = some (some (.ref f6))) (l6 : K.lookup f6 = some ⟨oc6, od6, .func (PySem.W.fnOf "_law_tape" "_law_tape" (bH je) (bB je) (ak je) .none kV6 dc6 pm6 an6 cd6 ct6), sl6⟩) (c6 : PySem.W.codeIn K cd6 "_law_tape" = true) (k6 : PySem.W.keepIn K (.ref f6) = true)
  (a7 : PySem.W.nsIn K mainGlobals "_law_take" = some (some (.ref f7))) (l7 : K.lookup f7 = some ⟨oc7, od7, .func (PySem.W.fnOf "_law_take" "_law_take" (bH gB) (bB gB) (ak gB) .none kV7 dc7 pm7 an7 cd7 ct7), sl7⟩) (c7 : PySem.W.codeIn K cd7 "_law_take" = true) (k7 : PySem.W.keepIn K (.ref f7) = true)
  (a8 : PySem.W.nsIn K mainGlobals "_law_kind" = some (some (.ref f8))) (l8 : K.lookup f8 = some ⟨oc8, od8, .func (PySem.W.fnOf "_law_kind" "_law_kind" (bH iy) (bB iy) (ak iy) .none kV8 dc8 pm8 an8 cd8 ct8), sl8⟩) (c8 : PySem.W.codeIn K cd8 "_law_kind" = true) (k8 : PySem.W.keepIn K (.ref f8) = true)
  (a9 : PySem.W.nsIn K mainGlobals "_law_least" = some (some (.ref f9))) (l9 : K.lookup f9 = some ⟨oc9, od9, .func (PySem.W.fnOf "_law_least" "_law_least" (bH gU) (bB gU) (ak gU) .none kV9 dc9 pm9 an9 cd9 ct9), sl9⟩) (c9 : PySem.W.codeIn K cd9 "_law_least" = true) (k9 : PySem.W.keepIn K (.ref f9) = true)
  (a10 : PySem.W.nsIn K mainGlobals "_law_picks" = some (some (.ref f10))) (l10 : K.lookup f10 = some ⟨oc10, od10, .func (PySem.W.fnOf "_law_picks" "_law_picks" (bH dZ) (bB dZ) (ak dZ) .none kV10 dc10 pm10 an10 cd10 ct10), sl10⟩) (c10 : PySem.W.codeIn K cd10 "_law_picks" = true) (k10 : PySem.W.keepIn K (.ref f10) = true)
  (a11 : PySem.W.nsIn K mainGlobals "_law_label" = some (some (.ref f11))) (l11 : K.lookup f11 = some ⟨oc11, od11, .func (PySem.W.fnOf "_law_label" "_law_label" (bH cg) (bB cg) (ak cg) .none kV11 dc11 pm11 an11 cd11 ct11), sl11⟩) (c11 : PySem.W.codeIn K cd11 "_law_label" = true) (k11 : PySem.W.keepIn K (.ref f11) = true)
  (a12 : PySem.W.nsIn K mainGlobals "_law_number" = some (some (.ref f12))) (l12 : K.lookup f12 = some ⟨oc12, od12, .func (PySem.W.fnOf "_law_number" "_law_number" (bH fL) (bB fL) (ak fL) .none kV12 dc12 pm12 an12 cd12 ct12), sl12⟩) (c12 : PySem.W.codeIn K cd12 "_law_number" = true) (k12 : PySem.W.keepIn K (.ref f12) = true)
  (a13 : PySem.W.nsIn K mainGlobals "_law_mask" = some (some (.ref f13))) (l13 : K.lookup f13 = some ⟨oc13, od13, .func (PySem.W.fnOf "_law_mask" "_law_mask" (bH iw) (bB iw) (ak iw) .none kV13 dc13 pm13 an13 cd13 ct13), sl13⟩) (c13 : PySem.W.codeIn K cd13 "_law_mask" = true) (k13 : PySem.W.keepIn K (.ref f13) = true)
  (a14 : PySem.W.nsIn K mainGlobals "_law_item" = some (some (.ref f14))) (l14 : K.lookup f14 = some ⟨oc14, od14, .func (PySem.W.fnOf "_law_item" "_law_item" (bH eZ) (bB eZ) (ak eZ) .none kV14 dc14 pm14 an14 cd14 ct14), sl14⟩) (c14 : PySem.W.codeIn K cd14 "_law_item" = true) (k14 : PySem.W.keepIn K (.ref f14) = true)
  (a15 : PySem.W.nsIn K mainGlobals "_law_wild_choice" = some (some (.ref f15))) (l15 : K.lookup f15 = some ⟨oc15, od15, .func (PySem.W.fnOf "_law_wild_choice" "_law_wild_choice" (bH aM) (bB aM) (ak aM) .none kV15 dc15 pm15 an15 cd15 ct15), sl15⟩) (c15 : PySem.W.codeIn K cd15 "_law_wild_choice" = true) (k15 : PySem.W.keepIn K (.ref f15) = true)
  (a16 : PySem.W.nsIn K mainGlobals "_law_free" = some (some (.ref f16))) (l16 : K.lookup f16 = some ⟨oc16, od16, .func (PySem.W.fnOf "_law_free" "_law_free" (bH fj) (bB fj) (ak fj) .none kV16 dc16 pm16 an16 cd16 ct16), sl16⟩) (c16 : PySem.W.codeIn K cd16 "_law_free" = true) (k16 : PySem.W.keepIn K (.ref f16) = true)
  (a17 : PySem.W.nsIn K mainGlobals "_law_bits_borders" = some (some (.ref f17))) (l17 : K.lookup f17 = some ⟨oc17, od17, .func (PySem.W.fnOf "_law_bits_borders" "_law_bits_borders" (bH aK) (bB aK) (ak aK) .none kV17 dc17 pm17 an17 cd17 ct17), sl17⟩) (c17 : PySem.W.codeIn K cd17 "_law_bits_borders" = true) (k17 : PySem.W.keepIn K (.ref f17) = true)
  (a18 : PySem.W.nsIn K mainGlobals "_law_borders" = some (some (.ref f18))) (l18 : K.lookup f18 = some ⟨oc18, od18, .func (PySem.W.fnOf "_law_borders" "_law_borders" (bH aV) (bB aV) (ak aV) .none kV18 dc18 pm18 an18 cd18 ct18), sl18⟩) (c18 : PySem.W.codeIn K cd18 "_law_borders" = true) (k18 : PySem.W.keepIn K (.ref f18) = true)
  (a19 : PySem.W.nsIn K mainGlobals "_law_same" = some (some (.ref f19))) (l19 : K.lookup f19 = some ⟨oc19, od19, .func (PySem.W.fnOf "_law_same" "_law_same" (bH ju) (bB ju) (ak ju) .none kV19 dc19 pm19 an19 cd19 ct19), sl19⟩) (c19 : PySem.W.codeIn K cd19 "_law_same" = true) (k19 : PySem.W.keepIn K (.ref f19) = true)
  (a20 : PySem.W.nsIn K mainGlobals "_law_items" = some (some (.ref f20))) (l20 : K.lookup f20 = some ⟨oc20, od20, .func (PySem.W.fnOf "_law_items" "_law_items" (bH d8) (bB d8) (ak d8) .none kV20 dc20 pm20 an20 cd20 ct20), sl20⟩) (c20 : PySem.W.codeIn K cd20 "_law_items" = true) (k20 : PySem.W.keepIn K (.ref f20) = true)
  (a21 : PySem.W.nsIn K mainGlobals "law" = some (some (.ref f21))) (l21 : K.lookup f21 = some ⟨oc21, od21, .func (PySem.W.fnOf "law" "law" (bH cW) (bB cW) (ak cW) .none kV21 dc21 pm21 an21 cd21 ct21), sl21⟩) (c21 : PySem.W.codeIn K cd21 "law" = true) (k21 : PySem.W.keepIn K (.ref f21) = true)
  (z1 : PySem.W.nsIn K mainGlobals "abs" = some none)
  (z2 : PySem.W.nsIn K mainGlobals "all" = some none)
  (z3 : PySem.W.nsIn K mainGlobals "any" = some none)
  (z4 : PySem.W.nsIn K mainGlobals "bool" = some none)
  (z5 : PySem.W.nsIn K mainGlobals "enumerate" = some none)
  (z6 : PySem.W.nsIn K mainGlobals "int" = some none)
  (z7 : PySem.W.nsIn K mainGlobals "isinstance" = some none)
  (z8 : PySem.W.nsIn K mainGlobals "len" = some none)
  (z9 : PySem.W.nsIn K mainGlobals "list" = some none)
  (z10 : PySem.W.nsIn K mainGlobals "max" = some none)
  (z11 : PySem.W.nsIn K mainGlobals "min" = some none)
  (z12 : PySem.W.nsIn K mainGlobals "range" = some none)
  (z13 : PySem.W.nsIn K mainGlobals "repr" = some none)
  (z14 : PySem.W.nsIn K mainGlobals "set" = some none)
  (z15 : PySem.W.nsIn K mainGlobals "sorted" = some none)
  (z16 : PySem.W.nsIn K mainGlobals "str" = some none)
  (z17 : PySem.W.nsIn K mainGlobals "sum" = some none)
  (z18 : PySem.W.nsIn K mainGlobals "tuple" = some none)
  (z19 : PySem.W.nsIn K mainGlobals "zip" = some none) :
  ∃ fd : FuncData, (∀ (s : Shared) (v : Value), BindsTo s fd ⟨[v], []⟩ [("_law_script", v)]) ∧ ∀ base : Heap, K.In base → base.Ns mainGlobals mg → dg l.prog w K mg base CX0 63 fa fd ["_law_script"] (xq K) := by
 have e := hfa.symm.trans (PySem.W.mg_of X G a21)
 cases e
 have DMostOf : gM K mg "most_of" fG ["width", "sign"] _ _ := ⟨aX (st := fG) l1 c1 k1, (aX (st := fG) l1 c1 k1).binds (ps := ["width", "sign"]) fun _ _ _ _ _ _ us hl => by obtain ⟨z0, z1, rfl⟩ := ln2 hl; rfl, PySem.W.mg_of X G a1⟩
 have DPatternOf : gM K mg "pattern_of" cF ["number", "width"] _ _ := ⟨aX (st := cF) l2 c2 k2, (aX (st := cF) l2 c2 k2).binds (ps := ["number", "width"]) fun _ _ _ _ _ _ us hl => by obtain ⟨z0, z1, rfl⟩ := ln2 hl; rfl, PySem.W.mg_of X G a2⟩
 have DPatternItems : gM K mg "pattern_items" bf ["width", "item"] _ _ := ⟨aX (st := bf) l3 c3 k3, (aX (st := bf) l3 c3 k3).binds (ps := ["width", "item"]) fun _ _ _ _ _ _ us hl => by obtain ⟨z0, z1, rfl⟩ := ln2 hl; rfl, PySem.W.mg_of X G a3⟩
 have DByPattern : gM K mg "by_pattern" bL ["choice"] _ _ := ⟨aX (st := bL) l4 c4 k4, (aX (st := bL) l4 c4 k4).binds (ps := ["choice"]) fun _ _ _ _ _ _ us hl => by obtain ⟨z0, rfl⟩ := ln1 hl; rfl, PySem.W.mg_of X G a4⟩
 have DZCellAt : gM K mg "_law_cell_at" fM ["_law_script", "_law_k"] _ _ := ⟨aX (st := fM) l5 c5 k5, (aX (st := fM) l5 c5 k5).binds (ps := ["_law_script", "_law_k"]) fun _ _ _ _ _ _ us hl => by obtain ⟨z0, z1, rfl⟩ := ln2 hl; rfl, PySem.W.mg_of X G a5⟩
 have DZTape : gM K mg "_law_tape" je ["_law_script", "_law_k"] _ _ := ⟨aX (st := je) l6 c6 k6, (aX (st := je) l6 c6 k6).binds (ps := ["_law_script", "_law_k"]) fun _ _ _ _ _ _ us hl => by obtain ⟨z0, z1, rfl⟩ := ln2 hl; rfl, PySem.W.mg_of X G a6⟩
 have DZTake : gM K mg "_law_take" gB ["_law_tape_here", "_law_many"] _ _ := ⟨aX (st := gB) l7 c7 k7, (aX (st := gB) l7 c7 k7).binds (ps := ["_law_tape_here", "_law_many"]) fun _ _ _ _ _ _ us hl => by obtain ⟨z0, z1, rfl⟩ := ln2 hl; rfl, PySem.W.mg_of X G a7⟩
 have DZKind : gM K mg "_law_kind" iy ["_law_tape_here"] _ _ := ⟨aX (st := iy) l8 c8 k8, (aX (st := iy) l8 c8 k8).binds (ps := ["_law_tape_here"]) fun _ _ _ _ _ _ us hl => by obtain ⟨z0, rfl⟩ := ln1 hl; rfl, PySem.W.mg_of X G a8⟩
 have DZLeast : gM K mg "_law_least" gU ["_law_width", "_law_sign"] _ _ := ⟨aX (st := gU) l9 c9 k9, (aX (st := gU) l9 c9 k9).binds (ps := ["_law_width", "_law_sign"]) fun _ _ _ _ _ _ us hl => by obtain ⟨z0, z1, rfl⟩ := ln2 hl; rfl, PySem.W.mg_of X G a9⟩
 have DZPicks : gM K mg "_law_picks" dZ ["_law_width", "_law_item_here", "_law_number_here"] _ _ := ⟨aX (st := dZ) l10 c10 k10, (aX (st := dZ) l10 c10 k10).binds (ps := ["_law_width", "_law_item_here", "_law_number_here"]) fun _ _ _ _ _ _ us hl => by obtain ⟨z0, z1, z2, rfl⟩ := ln3 hl; rfl, PySem.W.mg_of X G a10⟩
 have DZLabel : gM K mg "_law_label" cg ["_law_choice", "_law_number_here"] _ _ := ⟨aX (st := cg) l11 c11 k11, (aX (st := cg) l11 c11 k11).binds (ps := ["_law_choice", "_law_number_here"]) fun _ _ _ _ _ _ us hl => by obtain ⟨z0, z1, rfl⟩ := ln2 hl; rfl, PySem.W.mg_of X G a11⟩
 have DZNumber : gM K mg "_law_number" fL ["_law_tape_here", "_law_width", "_law_sign", "_law_other"] _ _ := ⟨aX (st := fL) l12 c12 k12, (aX (st := fL) l12 c12 k12).binds (ps := ["_law_tape_here", "_law_width", "_law_sign", "_law_other"]) fun _ _ _ _ _ _ us hl => by obtain ⟨z0, z1, z2, z3, rfl⟩ := ln4 hl; rfl, PySem.W.mg_of X G a12⟩
 have DZMask : gM K mg "_law_mask" iw ["_law_tape_here", "_law_width"] _ _ := ⟨aX (st := iw) l13 c13 k13, (aX (st := iw) l13 c13 k13).binds (ps := ["_law_tape_here", "_law_width"]) fun _ _ _ _ _ _ us hl => by obtain ⟨z0, z1, rfl⟩ := ln2 hl; rfl, PySem.W.mg_of X G a13⟩
 have DZItem : gM K mg "_law_item" eZ ["_law_tape_here", "_law_width", "_law_sign", "_law_other"] _ _ := ⟨aX (st := eZ) l14 c14 k14, (aX (st := eZ) l14 c14 k14).binds (ps := ["_law_tape_here", "_law_width", "_law_sign", "_law_other"]) fun _ _ _ _ _ _ us hl => by obtain ⟨z0, z1, z2, z3, rfl⟩ := ln4 hl; rfl, PySem.W.mg_of X G a14⟩
 have DZWildChoice : gM K mg "_law_wild_choice" aM ["_law_tape_here"] _ _ := ⟨aX (st := aM) l15 c15 k15, (aX (st := aM) l15 c15 k15).binds (ps := ["_law_tape_here"]) fun _ _ _ _ _ _ us hl => by obtain ⟨z0, rfl⟩ := ln1 hl; rfl, PySem.W.mg_of X G a15⟩
 have DZFree : gM K mg "_law_free" fj ["_law_width", "_law_mask_here"] _ _ := ⟨aX (st := fj) l16 c16 k16, (aX (st := fj) l16 c16 k16).binds (ps := ["_law_width", "_law_mask_here"]) fun _ _ _ _ _ _ us hl => by obtain ⟨z0, z1, rfl⟩ := ln2 hl; rfl, PySem.W.mg_of X G a16⟩
 have DZBitsBorders : gM K mg "_law_bits_borders" aK ["_law_width", "_law_sign", "_law_mask_here", "_law_value"] _ _ := ⟨aX (st := aK) l17 c17 k17, (aX (st := aK) l17 c17 k17).binds (ps := ["_law_width", "_law_sign", "_law_mask_here", "_law_value"]) fun _ _ _ _ _ _ us hl => by obtain ⟨z0, z1, z2, z3, rfl⟩ := ln4 hl; rfl, PySem.W.mg_of X G a17⟩
 have DZBorders : gM K mg "_law_borders" aV ["_law_choice"] _ _ := ⟨aX (st := aV) l18 c18 k18, (aX (st := aV) l18 c18 k18).binds (ps := ["_law_choice"]) fun _ _ _ _ _ _ us hl => by obtain ⟨z0, rfl⟩ := ln1 hl; rfl, PySem.W.mg_of X G a18⟩
 have DZSame : gM K mg "_law_same" ju ["_law_found", "_law_due"] _ _ := ⟨aX (st := ju) l19 c19 k19, (aX (st := ju) l19 c19 k19).binds (ps := ["_law_found", "_law_due"]) fun _ _ _ _ _ _ us hl => by obtain ⟨z0, z1, rfl⟩ := ln2 hl; rfl, PySem.W.mg_of X G a19⟩
 have DZItems : gM K mg "_law_items" d8 ["_law_width", "_law_item_here"] _ _ := ⟨aX (st := d8) l20 c20 k20, (aX (st := d8) l20 c20 k20).binds (ps := ["_law_width", "_law_item_here"]) fun _ _ _ _ _ _ us hl => by obtain ⟨z0, z1, rfl⟩ := ln2 hl; rfl, PySem.W.mg_of X G a20⟩
 have DLaw : gM K mg "law" cW ["_law_script"] _ _ := ⟨aX (st := cW) l21 c21 k21, (aX (st := cW) l21 c21 k21).binds (ps := ["_law_script"]) fun _ _ _ _ _ _ us hl => by obtain ⟨z0, rfl⟩ := ln1 hl; rfl, PySem.W.mg_of X G a21⟩
 have hB : ∀ x : Str, x ∈ BLs → mg x = none := by
  intro x hx
  replace hx : x ∈ (["abs", "all", "any", "bool", "enumerate", "int", "isinstance", "len", "list", "max", "min", "range", "repr", "set", "sorted", "str", "sum", "tuple", "zip"] : List Str) := hx
  simp only [List.mem_cons, List.not_mem_nil, or_false] at hx
  rcases hx with rfl | rfl | rfl | rfl | rfl | rfl | rfl | rfl | rfl | rfl | rfl | rfl | rfl | rfl | rfl | rfl | rfl | rfl | rfl
  ·exact PySem.W.mg_none_of X G z1
  ·exact PySem.W.mg_none_of X G z2
  ·exact PySem.W.mg_none_of X G z3
  ·exact PySem.W.mg_none_of X G z4
  ·exact PySem.W.mg_none_of X G z5
  ·exact PySem.W.mg_none_of X G z6
  ·exact PySem.W.mg_none_of X G z7
  ·exact PySem.W.mg_none_of X G z8
  ·exact PySem.W.mg_none_of X G z9
  ·exact PySem.W.mg_none_of X G z10
  ·exact PySem.W.mg_none_of X G z11
  ·exact PySem.W.mg_none_of X G z12
  ·exact PySem.W.mg_none_of X G z13
  ·exact PySem.W.mg_none_of X G z14
  ·exact PySem.W.mg_none_of X G z15
  ·exact PySem.W.mg_none_of X G z16
  ·exact PySem.W.mg_none_of X G z17
  ·exact PySem.W.mg_none_of X G z18
  ·exact PySem.W.mg_none_of X G z19
 refine ⟨PySem.W.fnOf "law" "law" (bH cW) (bB cW) (ak cW) .none kV21 dc21 pm21 an21 cd21 ct21, fun s v => .of_eq rfl, fun base kb nb => ?_⟩
 have CCell := DZCellAt.cal (Js (P := l.prog) (w := w) (base := base) hB DZCellAt.fn)
 have CTape := DZTape.cal (Jm hB CCell DZTape.fn)
 have CTake0 := DZTake.cal (yU (P := l.prog) (w := w) (mg := mg) (base := base))
 have CTake1 := DZTake.cal (xV (n := 0) hB (by decide) CTake0 DZTake.fn)
 have CTake2 := DZTake.cal (xV (n := 1) hB (by decide) CTake1 DZTake.fn)
 have CSame0 := DZSame.cal (same_none (P := l.prog) (w := w) (mg := mg) (base := base))
 have CSame1 := DZSame.cal (lz (n := 0) hB CSame0 DZSame.fn)
 have CSame2 := DZSame.cal (lz (n := 1) hB CSame1 DZSame.fn)
 have CSame3 := DZSame.cal (lz (n := 2) hB CSame2 DZSame.fn)
 have CSame4 := DZSame.cal (lz (n := 3) hB CSame3 DZSame.fn)
 have CSame := DZSame.cal (lz (n := 4) hB CSame4 DZSame.fn)
 have CKind := DZKind.cal (Jp hB CTake2 DZKind.fn)
 have CLeast := DZLeast.cal (Du (P := l.prog) (w := w) (mg := mg) (base := base) DZLeast.fn)
 have CNum := DZNumber.cal (Ni hB CTake2 CLeast DZNumber.fn)
 have CMask := DZMask.cal (xW hB CTake2 DZMask.fn)
 have CItem := DZItem.cal (Jq hB CTake2 CNum CMask DZItem.fn)
 have CWild := DZWildChoice.cal (Jl hB CTake2 CKind CLeast CItem DZWildChoice.fn)
 have CFree := DZFree.cal (Jr (P := l.prog) (w := w) (base := base) hB DZFree.fn)
 have CBB := DZBitsBorders.cal (PX hB CFree DZBitsBorders.fn)
 have CPat := DPatternOf.cal (vY (P := l.prog) (w := w) (mg := mg) (base := base) DPatternOf.fn)
 have CMost := DMostOf.cal (Jo (P := l.prog) (w := w) (mg := mg) (base := base) DMostOf.fn)
 have CPI := DPatternItems.cal (uG hB CPat CMost DPatternItems.fn)
 have CBy := DByPattern.cal (Dw hB CPI DByPattern.fn)
 have CLI := DZItems.cal (zA (P := l.prog) (w := w) (base := base) hB DZItems.fn)
 have CLP := DZPicks.cal (zy (P := l.prog) (w := w) (base := base) hB DZPicks.fn)
 have CLab := DZLabel.cal (Dv hB CLP DZLabel.fn)
 have CBord := DZBorders.cal (vZ hB CLeast CBB DZBorders.fn)
 exact Nj hB CBy CTape CLI CWild CBord CLab CSame DLaw.fn
theorem walk {l : PySem.W.OpenLaw} {q : Program} {loose : List Str} {XP : (Str → Option Value) → Heap → Prop} {YP : World → Heap → Prop} {d : DefRec} {K : Params → PySem.W.Frag} (hn : l.most = some 63) (hdf : d.params.defaults = [])
  (hY : ∀ (w : World) (h : Heap), YP w h → (K w.params).In h)
  (F : ∀ (w : World) (mg : Str → Option Value) (fa : Addr) (h : Heap), (K w.params).In h → h.Ns mainGlobals mg → mg d.name = some (.ref fa) →
   ∃ fd : FuncData, (∀ (s : Shared) (u : Value), BindsTo s fd ⟨[u], []⟩ [("_law_script", u)]) ∧ ∀ base : Heap, (K w.params).In base → base.Ns mainGlobals mg → dg l.prog w (K w.params) mg base CX0 63 fa fd ["_law_script"] (xq (K w.params))) :
  PySem.W.WalkO q loose XP YP l.row.toRowW d [] (fun f vs => PySem.call f vs) :=
 L2.Gv (n := 63) (k := 63) (x := "_law_script") (CX := fun _ => CX0) (sp := fun w => xq (K w.params)) hn (by decide) hdf ⟨rfl, by decide, by decide, rfl⟩ hY F (fun _ _ a ns hl _ hS => ⟨a, ns, rfl, hS, hl, fun _ => rfl⟩) fun _ _ _ _ _ z => z
end K10
open PySem PySem.W PyProof.Rows
set_option maxRecDepth 100000 in
set_option maxHeartbeats 0 in
theorem PySem.Challenge.cw_caseways_k10_choices_by_patterns_holds : PySem.Challenge.rw_caseways_k10_choices_by_patterns.Holds := by
 w_on; o_law; k_head; (case hw => w_witness2)
 k_fill
 refine K10.walk (l := PySem.Challenge.rw_caseways_k10_choices_by_patterns) rfl rfl (fun w h Y => PySem.W.kIn_of Y) ?F
 case F =>
  intro w mg fa h KX G hmg
  refine' K10.all_mk KX G hmg ?a1 ?l1 ?c1 ?k1 ?a2 ?l2 ?c2 ?k2 ?a3 ?l3 ?c3 ?k3 ?a4 ?l4 ?c4 ?k4 ?a5 ?l5 ?c5 ?k5 ?a6 ?l6 ?c6 ?k6 ?a7 ?l7 ?c7 ?k7 ?a8 ?l8 ?c8 ?k8 ?a9 ?l9 ?c9 ?k9 ?a10 ?l10 ?c10 ?k10 ?a11 ?l11 ?c11 ?k11 ?a12 ?l12 ?c12 ?k12 ?a13 ?l13 ?c13 ?k13 ?a14 ?l14 ?c14 ?k14 ?a15 ?l15 ?c15 ?k15 ?a16 ?l16 ?c16 ?k16 ?a17 ?l17 ?c17 ?k17 ?a18 ?l18 ?c18 ?k18 ?a19 ?l19 ?c19 ?k19 ?a20 ?l20 ?c20 ?k20 ?a21 ?l21 ?c21 ?k21 ?z1 ?z2 ?z3 ?z4 ?z5 ?z6 ?z7 ?z8 ?z9 ?z10 ?z11 ?z12 ?z13 ?z14 ?z15 ?z16 ?z17 ?z18 ?z19
  (case a1 => k_is)
  (case l1 => k_is)
  (case c1 => k_is)
  (case k1 => k_is)
  (case a2 => k_is)
  (case l2 => k_is)
  (case c2 => k_is)
  (case k2 => k_is)
  (case a3 => k_is)
  (case l3 => k_is)
  (case c3 => k_is)
  (case k3 => k_is)
  (case a4 => k_is)
  (case l4 => k_is)
  (case c4 => k_is)
  (case k4 => k_is)
  (case a5 => k_is)
  (case l5 => k_is)
  (case c5 => k_is)
  (case k5 => k_is)
  (case a6 => k_is)
  (case l6 => k_is)
  (case c6 => k_is)
  (case k6 => k_is)
  (case a7 => k_is)
  (case l7 => k_is)
  (case c7 => k_is)
  (case k7 => k_is)
  (case a8 => k_is)
  (case l8 => k_is)
  (case c8 => k_is)
  (case k8 => k_is)
  (case a9 => k_is)
  (case l9 => k_is)
  (case c9 => k_is)
  (case k9 => k_is)
  (case a10 => k_is)
  (case l10 => k_is)
  (case c10 => k_is)
  (case k10 => k_is)
  (case a11 => k_is)
  (case l11 => k_is)
  (case c11 => k_is)
  (case k11 => k_is)
  (case a12 => k_is)
  (case l12 => k_is)
  (case c12 => k_is)
  (case k12 => k_is)
  (case a13 => k_is)
  (case l13 => k_is)
  (case c13 => k_is)
  (case k13 => k_is)
  (case a14 => k_is)
  (case l14 => k_is)
  (case c14 => k_is)
  (case k14 => k_is)
  (case a15 => k_is)
  (case l15 => k_is)
  (case c15 => k_is)
  (case k15 => k_is)
  (case a16 => k_is)
  (case l16 => k_is)
  (case c16 => k_is)
  (case k16 => k_is)
  (case a17 => k_is)
  (case l17 => k_is)
  (case c17 => k_is)
  (case k17 => k_is)
  (case a18 => k_is)
  (case l18 => k_is)
  (case c18 => k_is)
  (case k18 => k_is)
  (case a19 => k_is)
  (case l19 => k_is)
  (case c19 => k_is)
  (case k19 => k_is)
  (case a20 => k_is)
  (case l20 => k_is)
  (case c20 => k_is)
  (case k20 => k_is)
  (case a21 => k_is)
  (case l21 => k_is)
  (case c21 => k_is)
  (case k21 => k_is)
  (case z1 => k_is)
  (case z2 => k_is)
  (case z3 => k_is)
  (case z4 => k_is)
  (case z5 => k_is)
  (case z6 => k_is)
  (case z7 => k_is)
  (case z8 => k_is)
  (case z9 => k_is)
  (case z10 => k_is)
  (case z11 => k_is)
  (case z12 => k_is)
  (case z13 => k_is)
  (case z14 => k_is)
  (case z15 => k_is)
  (case z16 => k_is)
  (case z17 => k_is)
  (case z18 => k_is)
  (case z19 => k_is)
#print axioms PySem.Challenge.cw_caseways_k10_choices_by_patterns_holds
